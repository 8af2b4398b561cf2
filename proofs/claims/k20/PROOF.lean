import PyProof.Rows.All
import Wide.All
import OpenK.AllK
import Wide.FinOn
import HandS.ForMost
import HandS.Evl
import HandS.Wide
import HandS.WideBits
import HandS.Flow
import HandS.IsInst
import HandS.TupAny
import HandS.Walk
import HandS.Zip
import HandS.Steps
import KE.GoesMore
import KE.GoesEnum
import KE.KEqSeq
import HandS.DictComp
import HandS.DictSub
import HandS.Star
import HandS.Small
import HandS.Iter
import KE.KMinBuiltin
import HandS.ForExc
import HandS.ExcIs
import HandS.Property
import HandS.Style
import HandS.CallSlots
import HandS.Defaults
import HandS.NoneIn
import PySem.Challenge.RW_signoff_k20_settled_values
set_option Elab.async false
set_option linter.all false
set_option maxRecDepth 100000
set_option maxHeartbeats 4000000
set_option Elab.async false
set_option linter.all false
set_option maxRecDepth 100000
set_option maxHeartbeats 4000000
namespace G
open PySem PySem.Spec PyProof.Rows L2 Evl
/-! ## defs by name -/
def Dfd (K : PySem.W.Frag) (mg : Str → Option Value) (x : Str) (st : Stmt) (ps : List Str) : Prop := ∃ (f : Addr) (fd : FuncData), Fun K x x st f fd ∧ mg x = some (.ref f) ∧ Binds K fd ps []
def Has (P : Program) (w : World) (K : PySem.W.Frag) (mg : Str → Option Value) (base : Heap) (k : Nat) (x : Str) (ps : List Str) (sp : Sp) : Prop :=
  ∃ (f : Addr) (fd : FuncData), FnOk P w K mg base CX0 k f fd ps sp ∧ mg x = some (.ref f) ∧ PySem.W.keepIn K (.ref f) = true ∧ Binds K fd ps []
section
variable {P : Program} {w : World} {K : PySem.W.Frag} {mg : Str → Option Value} {base : Heap}
theorem Dfd.has {x : Str} {st : Stmt} {ps : List Str} {k : Nat} {sp : Sp} (d : Dfd K mg x st ps) (h : ∀ f fd, Fun K x x st f fd → FnOk P w K mg base CX0 k f fd ps sp) : Has P w K mg base k x ps sp := by
  obtain ⟨f, fd, F, g, b⟩ := d
  exact ⟨f, fd, h f fd F, g, F.kp, b⟩
theorem Has.mono {x : Str} {ps : List Str} {j k : Nat} {sp : Sp} (h : Has P w K mg base j x ps sp) (l : j ≤ k) : Has P w K mg base k x ps sp := by
  obtain ⟨f, fd, F, g⟩ := h
  exact ⟨f, fd, F.mono l, g⟩
theorem Has.imp {x : Str} {ps : List Str} {k : Nat} {sp sp' : Sp} (h : Has P w K mg base k x ps sp) (i : ∀ vs H Q E, sp' vs H Q E → sp vs H Q E) : Has P w K mg base k x ps sp' := by
  obtain ⟨f, fd, F, g⟩ := h
  exact ⟨f, fd, F.imp i, g⟩
end
/-! ## heaps -/
theorem sq_ex {K : PySem.W.Frag} {H H' : Hp} {a : Addr} {xs : List V} (e : Ex H H') (h : SqL K H a xs) : SqL K H' a xs := ex_l e h
/-- the heap without what stands at p -/
def hid (p : Addr) (H : Hp) : Hp := fun b => if b = p then none else H b
theorem hid_self {p : Addr} {H : Hp} : hid p H p = none := by unfold hid; rw [if_pos rfl]
theorem hid_ne {p b : Addr} {H : Hp} (h : b ≠ p) : hid p H b = H b := by unfold hid; rw [if_neg h]
theorem hid_get {p b : Addr} {H : Hp} {o : HO} (h : hid p H b = some o) : H b = some o := by
  by_cases e : b = p
  · subst e; rw [hid_self] at h; cases h
  · rw [hid_ne e] at h; exact h
theorem hid_neq {p b : Addr} {H : Hp} {o : HO} (h : hid p H b = some o) : b ≠ p := by
  intro e; subst e; rw [hid_self] at h; cases h
theorem hid_ex {p : Addr} {H : Hp} : Ex (hid p H) H := fun _ _ h => hid_get h
theorem hid_upd {p : Addr} {H : Hp} {o : HO} : hid p (upd H p o) = hid p H := by
  funext b
  by_cases e : b = p
  · subst e; rw [hid_self, hid_self]
  · rw [hid_ne e, hid_ne e, upd_ne e]
theorem hid_upd_ne {p q : Addr} {H : Hp} {o : HO} (h : q ≠ p) : hid p (upd H q o) = upd (hid p H) q o := by
  funext b
  by_cases e2 : b = q
  · subst e2; rw [hid_ne h, upd_same, upd_same]
  · rw [upd_ne e2]
    by_cases e : b = p
    · subst e; rw [hid_self, hid_self]
    · rw [hid_ne e, hid_ne e, upd_ne e2]
theorem hid_none {p b : Addr} {H : Hp} (h : H b = none) : hid p H b = none := by
  unfold hid; split
  · rfl
  · exact h
/-! ## the pool of draws: the list at p, the script's copy at a -/
def PoolOk (p a : Addr) (H : Hp) : Prop := ∃ (ns : List Int) (i : Nat) (c k s : Int), H p = some (.lst [.ref a, .int i, .int c, .int k, .int s]) ∧ hid p H a = some (.lst (ns.map V.int)) ∧ ns.length ≤ 1000
/-- from H to H' all but the pool is kept, and the pool is a pool -/
structure Px (p a : Addr) (H H' : Hp) : Prop where
  was : PoolOk p a H
  pool : PoolOk p a H'
  ex : Ex (hid p H) (hid p H')
section
variable {p a : Addr} {H H1 H2 H' : Hp}
theorem Px.refl (h : PoolOk p a H) : Px p a H H := ⟨h, h, Ex.refl _⟩
theorem Px.trans (x : Px p a H H1) (y : Px p a H1 H2) : Px p a H H2 := ⟨x.was, y.pool, x.ex.trans y.ex⟩
theorem PoolOk.ne {b : Addr} (h : PoolOk p a H) (n : H b = none) : b ≠ p := by
  obtain ⟨_, _, _, _, _, e, _⟩ := h
  exact (ne_of_none e n).symm
theorem PoolOk.ne2 {b : Addr} (h : PoolOk p a H) (n : H b = none) : a ≠ b := by
  obtain ⟨_, _, _, _, _, _, e, _⟩ := h
  exact ne_of_none (hid_get e) n
theorem PoolOk.kept (h : PoolOk p a H) (e : Ex H H') : PoolOk p a H' := by
  obtain ⟨ns, i, c, k, s, h1, h2, h3⟩ := h
  exact ⟨ns, i, c, k, s, e _ _ h1, by rw [hid_ne (hid_neq h2)]; exact e _ _ (hid_get h2), h3⟩
theorem Px.ofEx (h : PoolOk p a H) (e : Ex H H') : Px p a H H' := ⟨h, h.kept e, fun b o hb => by rw [hid_ne (hid_neq hb)]; exact e _ _ (hid_get hb)⟩
theorem Px.more (x : Px p a H H1) (e : Ex H1 H2) : Px p a H H2 := x.trans (Px.ofEx x.pool e)
theorem Px.draw {o : HO} (w : PoolOk p a H) (h : PoolOk p a (upd H p o)) : Px p a H (upd H p o) := ⟨w, h, by rw [hid_upd]; exact Ex.refl _⟩
theorem Px.new (x : Px p a H H1) {l : Addr} {o : HO} (n : H1 l = none) : Px p a H (upd H1 l o) := x.more (Ex.new n)
/-- what H has is kept -/
theorem Px.get (x : Px p a H H1) {b : Addr} {o : HO} (h : hid p H b = some o) : hid p H1 b = some o := x.ex _ _ h
theorem Px.at_ (x : Px p a H H1) {b : Addr} {o : HO} (h : hid p H b = some o) : H1 b = some o := hid_get (x.ex _ _ h)
theorem Px.free (x : Px p a H H1) {b : Addr} (n : H1 b = none) : H b = none := by
  cases e : H b with
  | none => rfl
  | some o =>
    have hb : b ≠ p := x.pool.ne n
    have := x.ex b o (by rw [hid_ne hb]; exact e)
    rw [hid_get this] at n; cases n
/-- an object that H does not have may change -/
theorem Px.mut (x : Px p a H H1) {l : Addr} {o : HO} (n : H l = none) : Px p a H (upd H1 l o) := by
  have hl : l ≠ p := x.was.ne n
  have ha : a ≠ l := x.was.ne2 n
  refine ⟨x.was, ?_, ?_⟩
  · obtain ⟨ns, i, c, k, s, h1, h2, h3⟩ := x.pool
    exact ⟨ns, i, c, k, s, by rw [upd_ne hl.symm]; exact h1, by rw [hid_upd_ne hl, upd_ne ha]; exact h2, h3⟩
  · rw [hid_upd_ne hl]; exact Ex.mut x.ex (hid_none n)
/-- a fresh object stands apart from the pool -/
theorem Px.seen (x : Px p a H H1) {l : Addr} {o : HO} (n : H l = none) (e : H1 l = some o) : hid p H1 l = some o := by
  rw [hid_ne (x.was.ne n)]; exact e
end
end G
namespace G
open PySem PySem.Spec PyProof.Rows L2 Evl
/-! ## comprehensions whose elements are plain values -/
theorem given_all {n : Nat} {v : Nat → V} : given n (fun _ => true) v = (List.range n).map v := by
  unfold given
  rw [List.filter_eq_self.mpr (fun _ _ => rfl)]
section
variable {lo : Int} {n j : Nat} {tt : TT} {te : TE} {vs : List Nat} {σ : L2.St} {H1 : Hp} {D : Addr} {Qd : Hp → Prop} {K : PySem.W.Frag} {a : Addr} {xs : List V}
theorem lc_turn {f : Nat → Bool} {v : Nat → V} {i : Nat} {H : Hp} {σ2 : L2.St} (e : H = upd H1 D (.lst (given i f v))) (hi : i < 100000) (ht : Ans tt σ2 H (f i)) (he : f i = true → Val te σ2 H (v i)) :
    tt σ2 H fun b H3 => if b = true then te σ2 H3 fun y H4 => ∃ acc, H4 D = some (.lst acc) ∧ acc.length < sizeLine ∧ (upd H4 D (.lst (acc ++ [y]))) = upd H1 D (.lst (given (i + 1) f v)) else H3 = upd H1 D (.lst (given (i + 1) f v)) := by
  refine ht _ ?_
  subst e
  cases hf : f i with
  | true =>
    refine iteT (he hf _ ⟨_, upd_same, sz_lt (by have := given_len i f v; omega), ?_⟩)
    rw [given_yes hf, upd_upd]
  | false =>
    refine iteF ?_
    rw [given_no hf]
theorem lcR (f : Nat → Bool) (v : Nat → V) (hn : n ≤ 100000) (hw : ∀ x, wipe ((wipe σ vs).set j (some x)) vs = wipe σ vs)
    (ht : ∀ (i : Nat) (H : Hp), i < n → H = upd H1 D (.lst (given i f v)) → Ans tt ((wipe σ vs).set j (some (.int (lo + i)))) H (f i))
    (he : ∀ (i : Nat) (H : Hp), i < n → H = upd H1 D (.lst (given i f v)) → f i = true → Val te ((wipe σ vs).set j (some (.int (lo + i)))) H (v i)) (q : Qd (upd H1 D (.lst (given n f v)))) :
    ∃ W : Nat → Nat → Hp → Prop, (∃ m, W 0 m (upd H1 D (.lst []))) ∧ ∀ i m H, W i m H →
      ((Itr lo n).stop i H ∧ Qd H) ∨ ((Itr lo n).go i H ∧ ∃ Nx : Hp → Prop, (∀ H', Nx H' → ∃ m', m' < m ∧ W (i + 1) m' H') ∧ ∀ x H', (Itr lo n).yld i H x H' → gName j x (wipe σ vs) H' fun σ2 H2 => wipe σ2 vs = wipe σ vs ∧ tt σ2 H2 fun b H3 =>
        if b = true then te σ2 H3 fun y H4 => ∃ acc, H4 D = some (.lst acc) ∧ acc.length < sizeLine ∧ Nx (upd H4 D (.lst (acc ++ [y]))) else Nx H3) :=
  lc_range (fun i H => H = upd H1 D (.lst (given i f v))) rfl (fun i H hi e => ⟨hw _, lc_turn e (by omega) (ht i H hi e) (he i H hi e)⟩) (fun H e => by rw [e]; exact q)
theorem lcRv (v : Nat → V) (hn : n ≤ 100000) (hw : ∀ x, wipe ((wipe σ vs).set j (some x)) vs = wipe σ vs)
    (he : ∀ (i : Nat) (H : Hp), i < n → H = upd H1 D (.lst (given i (fun _ => true) v)) → Val te ((wipe σ vs).set j (some (.int (lo + i)))) H (v i)) (q : Qd (upd H1 D (.lst ((List.range n).map v)))) :
    ∃ W : Nat → Nat → Hp → Prop, (∃ m, W 0 m (upd H1 D (.lst []))) ∧ ∀ i m H, W i m H →
      ((Itr lo n).stop i H ∧ Qd H) ∨ ((Itr lo n).go i H ∧ ∃ Nx : Hp → Prop, (∀ H', Nx H' → ∃ m', m' < m ∧ W (i + 1) m' H') ∧ ∀ x H', (Itr lo n).yld i H x H' → gName j x (wipe σ vs) H' fun σ2 H2 => wipe σ2 vs = wipe σ vs ∧ tYes σ2 H2 fun b H3 =>
        if b = true then te σ2 H3 fun y H4 => ∃ acc, H4 D = some (.lst acc) ∧ acc.length < sizeLine ∧ Nx (upd H4 D (.lst (acc ++ [y]))) else Nx H3) :=
  lcR (fun _ => true) v hn hw (fun _ _ _ _ => fun _ q => q) (fun i H hi e _ => he i H hi e) (by rw [given_all]; exact q)
theorem lcL (f : Nat → Bool) (v : Nat → V) (hx : SqL K H1 a xs) (hD : H1 D = none) (hn : xs.length ≤ 100000) (hw : ∀ x, wipe ((wipe σ vs).set j (some x)) vs = wipe σ vs)
    (ht : ∀ (i : Nat) (x : V) (H : Hp), xs[i]? = some x → H = upd H1 D (.lst (given i f v)) → Ans tt ((wipe σ vs).set j (some x)) H (f i))
    (he : ∀ (i : Nat) (x : V) (H : Hp), xs[i]? = some x → H = upd H1 D (.lst (given i f v)) → f i = true → Val te ((wipe σ vs).set j (some x)) H (v i)) (q : Qd (upd H1 D (.lst (given xs.length f v)))) :
    ∃ W : Nat → Nat → Hp → Prop, (∃ m, W 0 m (upd H1 D (.lst []))) ∧ ∀ i m H, W i m H →
      ((Itl K a).stop i H ∧ Qd H) ∨ ((Itl K a).go i H ∧ ∃ Nx : Hp → Prop, (∀ H', Nx H' → ∃ m', m' < m ∧ W (i + 1) m' H') ∧ ∀ x H', (Itl K a).yld i H x H' → gName j x (wipe σ vs) H' fun σ2 H2 => wipe σ2 vs = wipe σ vs ∧ tt σ2 H2 fun b H3 =>
        if b = true then te σ2 H3 fun y H4 => ∃ acc, H4 D = some (.lst acc) ∧ acc.length < sizeLine ∧ Nx (upd H4 D (.lst (acc ++ [y]))) else Nx H3) :=
  lc_list (fun i H => H = upd H1 D (.lst (given i f v))) rfl (fun i H hi e => by rw [e]; exact ex_l (Ex.new hD) hx) (fun i x H hi e => ⟨hw _, lc_turn e (by have := (List.getElem?_eq_some_iff.mp hi).1; omega) (ht i x H hi e) (he i x H hi e)⟩) (fun H e => by rw [e]; exact q)
theorem lcT (f : Nat → Bool) (v : Nat → V) (hx : SqT K H1 a xs) (hD : H1 D = none) (hn : xs.length ≤ 100000) (hw : ∀ x, wipe ((wipe σ vs).set j (some x)) vs = wipe σ vs)
    (ht : ∀ (i : Nat) (x : V) (H : Hp), xs[i]? = some x → H = upd H1 D (.lst (given i f v)) → Ans tt ((wipe σ vs).set j (some x)) H (f i))
    (he : ∀ (i : Nat) (x : V) (H : Hp), xs[i]? = some x → H = upd H1 D (.lst (given i f v)) → f i = true → Val te ((wipe σ vs).set j (some x)) H (v i)) (q : Qd (upd H1 D (.lst (given xs.length f v)))) :
    ∃ W : Nat → Nat → Hp → Prop, (∃ m, W 0 m (upd H1 D (.lst []))) ∧ ∀ i m H, W i m H →
      ((Itt K a).stop i H ∧ Qd H) ∨ ((Itt K a).go i H ∧ ∃ Nx : Hp → Prop, (∀ H', Nx H' → ∃ m', m' < m ∧ W (i + 1) m' H') ∧ ∀ x H', (Itt K a).yld i H x H' → gName j x (wipe σ vs) H' fun σ2 H2 => wipe σ2 vs = wipe σ vs ∧ tt σ2 H2 fun b H3 =>
        if b = true then te σ2 H3 fun y H4 => ∃ acc, H4 D = some (.lst acc) ∧ acc.length < sizeLine ∧ Nx (upd H4 D (.lst (acc ++ [y]))) else Nx H3) :=
  lc_tup (fun i H => H = upd H1 D (.lst (given i f v))) rfl (fun i H hi e => by rw [e]; exact ex_t (Ex.new hD) hx) (fun i x H hi e => ⟨hw _, lc_turn e (by have := (List.getElem?_eq_some_iff.mp hi).1; omega) (ht i x H hi e) (he i x H hi e)⟩) (fun H e => by rw [e]; exact q)
theorem lcLm (g : V → V) (hx : SqL K H1 a xs) (hD : H1 D = none) (hn : xs.length ≤ 100000) (hw : ∀ x, wipe ((wipe σ vs).set j (some x)) vs = wipe σ vs)
    (he : ∀ (i : Nat) (x : V) (H : Hp), xs[i]? = some x → H = upd H1 D (.lst ((xs.take i).map g)) → Val te ((wipe σ vs).set j (some x)) H (g x)) (q : Qd (upd H1 D (.lst (xs.map g)))) :
    ∃ W : Nat → Nat → Hp → Prop, (∃ m, W 0 m (upd H1 D (.lst []))) ∧ ∀ i m H, W i m H →
      ((Itl K a).stop i H ∧ Qd H) ∨ ((Itl K a).go i H ∧ ∃ Nx : Hp → Prop, (∀ H', Nx H' → ∃ m', m' < m ∧ W (i + 1) m' H') ∧ ∀ x H', (Itl K a).yld i H x H' → gName j x (wipe σ vs) H' fun σ2 H2 => wipe σ2 vs = wipe σ vs ∧ tYes σ2 H2 fun b H3 =>
        if b = true then te σ2 H3 fun y H4 => ∃ acc, H4 D = some (.lst acc) ∧ acc.length < sizeLine ∧ Nx (upd H4 D (.lst (acc ++ [y]))) else Nx H3) :=
  lc_list (fun i H => H = upd H1 D (.lst ((xs.take i).map g))) (by rw [List.take_zero]; rfl) (fun i H hi e => by rw [e]; exact ex_l (Ex.new hD) hx)
    (fun i x H hi e => ⟨hw _, by
      refine iteT (B := H = upd H1 D (.lst ((xs.take (i + 1)).map g))) ?_
      refine he i x H hi e _ ?_
      subst e
      refine ⟨_, upd_same, sz_lt ?_, ?_⟩
      · rw [List.length_map, List.length_take]; have := (List.getElem?_eq_some_iff.mp hi).1; omega
      · rw [upd_upd, List.take_add_one, hi, List.map_append]; rfl⟩) (fun H e => by rw [e, List.take_length]; exact q)
theorem lcTm (g : V → V) (hx : SqT K H1 a xs) (hD : H1 D = none) (hn : xs.length ≤ 100000) (hw : ∀ x, wipe ((wipe σ vs).set j (some x)) vs = wipe σ vs)
    (he : ∀ (i : Nat) (x : V) (H : Hp), xs[i]? = some x → H = upd H1 D (.lst ((xs.take i).map g)) → Val te ((wipe σ vs).set j (some x)) H (g x)) (q : Qd (upd H1 D (.lst (xs.map g)))) :
    ∃ W : Nat → Nat → Hp → Prop, (∃ m, W 0 m (upd H1 D (.lst []))) ∧ ∀ i m H, W i m H →
      ((Itt K a).stop i H ∧ Qd H) ∨ ((Itt K a).go i H ∧ ∃ Nx : Hp → Prop, (∀ H', Nx H' → ∃ m', m' < m ∧ W (i + 1) m' H') ∧ ∀ x H', (Itt K a).yld i H x H' → gName j x (wipe σ vs) H' fun σ2 H2 => wipe σ2 vs = wipe σ vs ∧ tYes σ2 H2 fun b H3 =>
        if b = true then te σ2 H3 fun y H4 => ∃ acc, H4 D = some (.lst acc) ∧ acc.length < sizeLine ∧ Nx (upd H4 D (.lst (acc ++ [y]))) else Nx H3) :=
  lc_tup (fun i H => H = upd H1 D (.lst ((xs.take i).map g))) (by rw [List.take_zero]; rfl) (fun i H hi e => by rw [e]; exact ex_t (Ex.new hD) hx)
    (fun i x H hi e => ⟨hw _, by
      refine iteT (B := H = upd H1 D (.lst ((xs.take (i + 1)).map g))) ?_
      refine he i x H hi e _ ?_
      subst e
      refine ⟨_, upd_same, sz_lt ?_, ?_⟩
      · rw [List.length_map, List.length_take]; have := (List.getElem?_eq_some_iff.mp hi).1; omega
      · rw [upd_upd, List.take_add_one, hi, List.map_append]; rfl⟩) (fun H e => by rw [e, List.take_length]; exact q)
end
end G
namespace G
open PySem PySem.Spec PyProof.Rows L2 Evl
/-! ## rules within a comprehension's block: the written part by its letter -/
section
variable {X : Cx} {K : PySem.W.Frag}
theorem kIxT (h : X.K = K) : IxR X (rIxT K) := by subst h; exact ix_tup
theorem kIxL (h : X.K = K) : IxR X (rIxL K) := by subst h; exact ix_list
theorem kIx (h : X.K = K) : IxR X (rIx K) := by subst h; exact ix_seq
theorem kIn (h : X.K = K) : OpR X (compareOp .In) (rIn K false) := by subst h; exact op_in_seq
theorem kNotIn (h : X.K = K) : OpR X (compareOp .NotIn) (rIn K true) := by subst h; exact op_notIn_seq
theorem kLen (h : X.K = K) : CallR X (.builtin "len") (rLenS K) := by subst h; exact call_len_seq
theorem gStr {x s : Str} {t : Tok} {pos : Pos} (hg : Gl X x) (h : X.mg x = some (.str s t)) (hd : (x == ("__debug__" : Str)) = false := by decide) : PE X (.Name x pos) (tC (.str s)) := pe_glob (v := .str s) hg h ⟨t, rfl⟩ hd
theorem gInt {x : Str} {i : Int} {t : Tok} {pos : Pos} (hg : Gl X x) (h : X.mg x = some (.int i t)) (hd : (x == ("__debug__" : Str)) = false := by decide) : PE X (.Name x pos) (tC (.int i)) := pe_glob (v := .int i) hg h ⟨t, rfl⟩ hd
theorem gRef {x : Str} {a : Addr} {pos : Pos} (hg : Gl X x) (h : X.mg x = some (.ref a)) (hd : (x == ("__debug__" : Str)) = false := by decide) : PE X (.Name x pos) (tC (.ref a)) := pe_glob (v := .ref a) hg h rfl hd
theorem kSlL (h : X.K = K) : SlR X (rSlL K) := by subst h; exact sl_list
theorem kCatA (h : X.K = K) : OpR X (binaryOp .Add) (rCatA K) := by subst h; exact op_catA
theorem kAny (h : X.K = K) (hc : X.calm = true) : CallR X (.builtin "any") (rAny K) := by subst h; exact cr_any hc
theorem kAll (h : X.K = K) (hc : X.calm = true) : CallR X (.builtin "all") (rAll K) := by subst h; exact cr_all hc
theorem kLtT (h : X.K = K) (hu : X.A.units < cLine) : OpR X (compareOp .Lt) (rLtT K) := by subst h; exact op_ltT hu
theorem kPiT {e tg : Expr} {te : TE} (h : X.K = K) (he : PE X e te) : PI X tg e (iTup K te) := by subst h; exact pi_tup he
theorem kPiL {e tg : Expr} {te : TE} (h : X.K = K) (he : PE X e te) : PI X tg e (iList K te) := by subst h; exact pi_list he
theorem kSlA (h : X.K = K) : SlR X (rSlA K) := by subst h; exact sl_tupA
end
end G
namespace G
open PySem PySem.Spec PyProof.Rows L2 Evl
theorem dpAll_map {α : Type} {K : PySem.W.Frag} {H : Hp} {f : α → V} {g : α → PyData} (h : ∀ x, Dp K H (f x) (g x)) : ∀ l : List α, DpAll K H (l.map f) (l.map g)
  | [] => .nil
  | x :: r => .cons (h x) (dpAll_map h r)
theorem dp_ints {K : PySem.W.Frag} {H : Hp} {a : Addr} {ns : List Int} (h : SqL K H a (ns.map V.int)) : Dp K H (.ref a) (.list (ns.map PyData.int)) := .lst h (dpAll_map (fun i => .int i) ns)
theorem dp_nil {K : PySem.W.Frag} {H : Hp} {a : Addr} (h : SqL K H a []) : Dp K H (.ref a) (.list []) := .lst h .nil
theorem eqv_nil (l : List PyData) : PyData.eqv (.list l) (.list []) = l.isEmpty := by cases l <;> rfl
theorem shaped_nil : SeqAt.shaped (.list []) = true := by decide +kernel
end G
/-! enumerate over a tuple -/
namespace PySem
section
variable {prog : Program} {w : World} {A : Around} {E : Value → Shared → Prop} {s : Shared}
theorem G_tupOf {h : Heap} {a : Addr} {xs : Array Value} (p : PyProof.Rows.IsTup h a xs) : h.IsTuple a xs := p
set_option maxHeartbeats 2000000 in
theorem G_enumNew {v : Value} {o : Obj} {Hh : Heap → Prop} (B : Begins v o Hh) :
    Meets (Builtin.«enumerate.__new__» ⟨[.type "enumerate", v], []⟩) (fun _ R s => Hh s.heap ∧
      R (.ok (.ret (.ref (s.heap.push o).objs.size))) { s with heap := (s.heap.push o).push { cls := .type "enumerate", data := .fields #[.none, .bool false, .ref s.heap.objs.size, rawInt 0, .none, .none] } }) :=
  .of_wp fun pr wo ar rr sh hh => by
    obtain ⟨hp, gg, dd, tk, os⟩ := sh; obtain ⟨h1, h2⟩ := hh
    have sub0 := sub_enumerate
    have qq : ∀ {A' : Around} {E : Value → Shared → Prop} {Q : Value → Shared → Prop}, Q (.ref hp.objs.size) ⟨hp.push o, gg, dd, tk, os⟩ → wpAny (model pr wo) A' (pyIter v) Q E ⟨hp, gg, dd, tk, os⟩ :=
      fun z => B.iter pr wo _ _ ⟨hp, gg, dd, tk, os⟩ _ h1 z
    wp_walk using qq
    refine wpAny_stack_any fun _ => wpAny_pure ?_
    split
    · rename_i cc _ _ _ _ _
      cases (cc == Value.type "enumerate") <;> (wp_walk using qq; exact ⟨_, rfl, h2⟩)
    · wp_walk using qq
      exact ⟨_, rfl, h2⟩
theorem G_enumCall {v : Value} {o : Obj} {Hh : Heap → Prop} {Q : Value → Shared → Prop} (B : Begins v o Hh) (h1 : Hh s.heap)
    (k : ∀ h', IsEnum h' (s.heap.objs.size + 1) s.heap.objs.size 0 .none → h'.get? s.heap.objs.size = some o → (∀ b u, s.heap.get? b = some u → h'.get? b = some u) → Q (.ref (s.heap.objs.size + 1)) { s with heap := h' }) :
    wpAny (model prog w) A (call (.type "enumerate") [v]) Q E s := by
  refine callType_new F.called_enumerate (by decide) (F.typeCall_enumerate_1 _) (F.newCall_enumerate_1 _) (fun y => F.args_object_init_2 y _) F.entry_enumerate_new (G_enumNew B) ⟨h1, ?_⟩
  have hz : (s.heap.push o).objs.size = s.heap.objs.size + 1 := Heap.size_push ..
  show _ ∧ _
  rw [hz]
  have he : IsEnum ((s.heap.push o).push { cls := .type "enumerate", data := .fields #[.none, .bool false, .ref s.heap.objs.size, rawInt 0, .none, .none] }) (s.heap.objs.size + 1) s.heap.objs.size 0 .none := by
    have hs := Heap.get?_push_size (s.heap.push o) (o := { cls := .type "enumerate", data := .fields #[.none, .bool false, .ref s.heap.objs.size, rawInt 0, .none, .none] }) rfl
    rw [hz] at hs; exact hs
  exact ⟨⟨_, he, rfl⟩, k _ he (Heap.get?_push_of_some _ (Heap.get?_push_size _ B.free)) fun b u x => Heap.get?_push_of_some _ (Heap.get?_push_of_some _ x)⟩
end
end PySem
namespace G
open PySem PySem.Spec PyProof.Rows L2 Evl
/-- the tuple at a at each turn, each item in a new pair -/
def IteT (K : PySem.W.Frag) (a : Addr) : It :=
  ⟨fun i H => ∃ (xs : List V) (x : V), SqT K H a xs ∧ xs[i]? = some x,
   fun i H v H' => ∃ T x, v = .ref T ∧ H T = none ∧ H' = upd H T (.tup [.int (i : Nat), x]) ∧ ∀ xs, SqT K H a xs → xs[i]? = some x,
   fun i H => ∃ xs : List V, SqT K H a xs ∧ xs.length = i⟩
theorem turn_enumT {P : Program} {w : World} {K : PySem.W.Frag} {elts : List Expr} {kk : Nat} {tpos : Pos} (a e it : Addr) :
    Turn P w K (.Tuple elts kk tpos) (IteT K a) [e, it] e (fun i h => (∃ old, IsEnum h e it ((i : Nat) : Int) old) ∧ h.IsTupleIter it a i ∧ e ≠ it ∧ a ≠ it ∧ a ≠ e) where
  mem := by simp
  obj := fun i h st b hb => by
    obtain ⟨⟨old, he⟩, ⟨o, ho, hc, hd⟩, _⟩ := st
    have hb' : b = e ∨ b = it := by simpa using hb
    rcases hb' with z | z
    · rw [z]; exact ⟨_, he, fun v q => nomatch q⟩
    · rw [z]; exact ⟨o, ho, fun v q => by rw [hd] at q; cases q⟩
  keep := fun i h h' st k => by
    obtain ⟨⟨old, he⟩, hi, hne⟩ := st
    exact ⟨⟨old, k e (by simp) _ he⟩, hi.at fun o q => k it (by simp) o q, hne⟩
  item := by
    intro X hP hw hK hc i pins s σ H E I hf st hg
    subst hP hw hK
    obtain ⟨⟨old, he⟩, hit, hne, hai, hae⟩ := st
    obtain ⟨xs, x, hq, hx⟩ := hg
    obtain ⟨its, rv, p, hz⟩ := I.tuple hq
    obtain ⟨u, hu, ru⟩ := rv.get hx
    have hel : e < s.heap.objs.size := Heap.lt_size he
    have hil : it < s.heap.objs.size := by obtain ⟨_, q, _⟩ := hit; exact Heap.lt_size q
    have hh : X.A.handled = none := I.ok.hd hc
    refine wpAny_pyNext_enum_itemD (Draws.tuple (A := X.A.in1) hh it a hai its.toArray) he ⟨hit, p⟩ ?_ hne ?_ fun y h' tk hy ho hst hT hsz hk => ?_
    · have := (List.getElem?_eq_some_iff.mp hu).1
      simpa using this
    · intro hm
      have hm' : e = it ∨ e = a := by simpa using hm
      rcases hm' with z | z
      · exact hne z
      · exact hae z.symm
    · have ey : y = u := by
        have hy' : its[i]? = some y := by simpa using hy
        exact Option.some.inj (hy'.symm.trans hu)
      subst ey
      refine ⟨_, rfl, wpAny_letOwnedTupleGo_enum (s := { s with heap := h', toks := tk + 1 }) ho fun h'' he' sb => ?_⟩
      have hT2 : h''.get? s.heap.objs.size = some { cls := .type "tuple", data := .seq #[.int i tk, y] } := (sb.2 _ (Nat.ne_of_gt hel)).trans hT
      have new : ObjOk X.prog X.w (upd H s.heap.objs.size (.tup [.int (i : Nat), x])) h'' s.heap.objs.size (.tup [.int (i : Nat), x]) :=
        ⟨by show 2 ≤ sizeLine; decide, [.int i tk, y], .cons ⟨_, rfl⟩ (.cons ru .nil), ⟨_, hT2, rfl, _, rfl⟩⟩
      have I1 : Inv X pins σ (upd H s.heap.objs.size (.tup [.int (i : Nat), x])) { s with heap := h'', toks := tk + 1 } :=
        I.turnedNew (ch := [e, it]) (fun b ob hb q => (sb.2 b (fun z => hb (by simp [z]))).trans (hk b ob (fun z => hb (by simp [z])) (fun z => hb (by simp [z])) q)) hf (Nat.le_refl _) new
      refine ⟨.ref s.heap.objs.size, _, I1, rfl, ⟨_, x, rfl, I.hok.fresh (Nat.le_refl _), rfl, fun ys hy => by rw [I.tuple_inj hy hq]; exact hx⟩, ⟨⟨y, ?_⟩, hst.1.at fun o q => (sb.2 it (Ne.symm hne)).trans q, hne, hai, hae⟩, fun b hb => ?_⟩
      · have e1 : ((i + 1 : Nat) : Int) = (i : Int) + 1 := by omega
        rw [e1]; exact he'
      · have hb' : b < s.heap.objs.size := by
          have hb2 : b = e ∨ b = it := by simpa using hb
          rcases hb2 with z | z
          · rw [z]; exact hel
          · rw [z]; exact hil
        rw [upd_ne (Nat.ne_of_lt hb')]
        exact (hf b hb).1
  done := by
    intro X hP hw hK hc i pins s σ H E I hf st hg
    subst hP hw hK
    obtain ⟨⟨old, he⟩, hit, hne, hai, hae⟩ := st
    obtain ⟨xs, hq, hx⟩ := hg
    obtain ⟨its, rv, p, hz⟩ := I.tuple hq
    obtain ⟨f0, f1, f2, f3, f4, f5⟩ := hf it (by simp)
    have hl := rv.length
    have hh : X.A.handled = none := I.ok.hd hc
    have ei : its.toArray.size = i := by rw [List.size_toArray, ← hl]; exact hx
    have st2 : s.heap.IsTupleIter it a its.toArray.size ∧ s.heap.IsTuple a its.toArray := by rw [ei]; exact ⟨hit, p⟩
    exact wpAny_pyNext_enum_endD (Draws.tuple (A := X.A.in1) hh it a hai its.toArray) he st2 fun h' eb => ⟨rfl, I.turned (t' := s.toks) (fun b o hb q => eb b o hb q) f0 f1 f3 f4 f5⟩
  self := fun A i s Q E st h => by
    obtain ⟨⟨_, he⟩, _⟩ := st
    exact wpAny_pyIter_enum he h
def iEnumT (K : PySem.W.Frag) (ta : TA) : TI := fun σ H R => ta σ H fun vs H1 => ∃ a xs, vs = [.ref a] ∧ SqT K H1 a xs ∧ R (IteT K a) H1
theorem pi_enumT {X : Cx} {e : Expr} {ta : TA} {p pos tpos : Pos} {elts : List Expr} {kk : Nat} (hg : Gl X "enumerate") (hm : X.mg "enumerate" = none) (ha : PA X [e] ta) (hs : starEach [e] X.env = [(false, eval e X.env)] := by rfl) :
    PI X (.Tuple elts kk tpos) (.Call (.Name "enumerate" p) [e] [] pos) (iEnumT X.K ta) := by
  refine ⟨fun pins s σ H R I h => Call_ (ld_blt I hg hm boot_enumerate (PyProof.Rows.callWith_type1 (thn (ha.run pos pins s σ H _ I h) fun us s1 ⟨vs, H1, I1, r1, q1⟩ => ?_) hs rfl))⟩
  obtain ⟨a, xs, rfl, hq, q⟩ := q1
  cases r1 with
  | cons r rr =>
    cases rr
    cases r
    obtain ⟨its, rv, p', hz⟩ := I1.tuple hq
    have hal : a < s1.heap.objs.size := by obtain ⟨o, ho, _⟩ := p'; exact Heap.lt_size ho
    refine G_enumCall (begins_tuple a its.toArray) p' fun h' he hit hk => wpAny_pyIter_enum he ?_
    have I2 : Inv X pins σ H1 { s1 with heap := h' } := I1.kept (t' := s1.toks) hk
    refine ⟨s1.heap.objs.size + 1, [s1.heap.objs.size + 1, s1.heap.objs.size], _, _, H1, rfl, I2, turn_enumT a (s1.heap.objs.size + 1) s1.heap.objs.size,
      ⟨⟨.none, he⟩, ⟨_, hit, rfl, rfl⟩, Nat.succ_ne_self _, Nat.ne_of_lt hal, Nat.ne_of_lt (Nat.lt_succ_of_lt hal)⟩, fun b hb => ?_, q⟩
    have hb' : b = s1.heap.objs.size + 1 ∨ b = s1.heap.objs.size := by simpa using hb
    have hle : s1.heap.objs.size ≤ b := by
      rcases hb' with z | z
      · rw [z]; exact Nat.le_add_right _ _
      · rw [z]; exact Nat.le_refl _
    exact I1.fpOk hle (I1.hok.fresh hle)
theorem walk_enumT {K : PySem.W.Frag} {a : Addr} {xs : List V} : Walk (IteT K a) xs.length (fun H => SqT K H a xs) (YPair (fun i => some (.int (i : Nat))) (fun i => xs[i]?)) := by
  refine ⟨fun i _ hi q => ⟨xs, xs[i], q, by simp [hi]⟩, fun _ q => ⟨xs, q, rfl⟩, fun i H v H' _ q y => ?_⟩
  obtain ⟨T, x, h1, h2, h3, h4⟩ := y
  exact ⟨T, .int (i : Nat), x, h1, h2, h3, rfl, h4 xs q⟩
theorem kPiEnumT {X : Cx} {K : PySem.W.Frag} {e : Expr} {ta : TA} {p pos tpos : Pos} {elts : List Expr} {kk : Nat} (h : X.K = K) (hg : Gl X "enumerate") (hm : X.mg "enumerate" = none) (ha : PA X [e] ta) (hs : starEach [e] X.env = [(false, eval e X.env)] := by rfl) :
    PI X (.Tuple elts kk tpos) (.Call (.Name "enumerate" p) [e] [] pos) (iEnumT K ta) := by subst h; exact pi_enumT hg hm ha hs
end G
/-! t[a::2], t a tuple -/
namespace HT
open PySem PySem.Spec PyProof.Rows L2
section
variable {prog : Program} {w : World} {A : Around} {E : Value → Shared → Prop} {s : Shared}
theorem g_applied {sl : Addr} {vl vu vs : Value} {lo hi : Option Int} {st : Int} {n : Nat} {Q : Int × Int × Nat → Shared → Prop} (hs : s.heap.IsSliceOf sl vl vu vs) (pl : IsPart vl lo) (pu : IsPart vu hi) (ps : IsPart vs (some st)) (h0 : st ≠ 0)
    (h : Q ((Builtin.Slice.sliceAdjust lo hi st (n : Int)).1, st, Builtin.Slice.slicePlaces (Builtin.Slice.sliceAdjust lo hi st (n : Int)).1 (Builtin.Slice.sliceAdjust lo hi st (n : Int)).2 st) s) :
    wpAny (model prog w) A (Builtin.Slice.sliceApplied (.ref sl) (pure (n : Int))) Q E s := by
  obtain ⟨ob, hob, _, hd⟩ := id hs
  unfold Builtin.Slice.sliceApplied Builtin.Slice.sliceFields
  refine wpAny_bind (wpAny_bind (wpAny_field hob hd (x := vl) rfl (wpAny_bind (wpAny_field hob hd (x := vu) rfl (wpAny_bind (wpAny_field hob hd (x := vs) rfl (wpAny_pure ?_)))))))
  refine wpAny_bind (slicePart_ ps ?_)
  show wpAny _ _ (if (st == 0) = true then _ else _) _ _ s
  rw [if_neg (by intro q; exact h0 (eq_of_beq q))]
  exact wpAny_bind (slicePart_ pl (wpAny_bind (slicePart_ pu (wpAny_bind (wpAny_pure (wpAny_pure h))))))
def stepped (xs : List Value) (lo st : Int) (n : Nat) : List Value := (List.range n).filterMap fun (k : Nat) => xs.toArray[(lo + (k : Int) * st).toNat]?
theorem g_getStep {t sl : Addr} {its : List Value} {vl vu vs : Value} {lo hi : Option Int} {st : Int} {Q : Value → Shared → Prop} (ht : IsTup s.heap t its.toArray) (hs : s.heap.IsSliceOf sl vl vu vs) (pl : IsPart vl lo) (pu : IsPart vu hi) (ps : IsPart vs (some st)) (h0 : st ≠ 0) (h1 : st ≠ 1)
    (hz : (stepped its (Builtin.Slice.sliceAdjust lo hi st (its.toArray.size : Int)).1 st (Builtin.Slice.slicePlaces (Builtin.Slice.sliceAdjust lo hi st (its.toArray.size : Int)).1 (Builtin.Slice.sliceAdjust lo hi st (its.toArray.size : Int)).2 st)).length ≤ sizeLine)
    (h : Q (.ref s.heap.objs.size) { s with heap := s.heap.push { cls := .type "tuple", data := .seq (stepped its (Builtin.Slice.sliceAdjust lo hi st (its.toArray.size : Int)).1 st (Builtin.Slice.slicePlaces (Builtin.Slice.sliceAdjust lo hi st (its.toArray.size : Int)).1 (Builtin.Slice.sliceAdjust lo hi st (its.toArray.size : Int)).2 st)).toArray } }) :
    wpAny (model prog w) A (getItem (.ref t) (.ref sl)) Q E s := by
  have ok : sizeOk (.seq (stepped its (Builtin.Slice.sliceAdjust lo hi st (its.toArray.size : Int)).1 st (Builtin.Slice.slicePlaces (Builtin.Slice.sliceAdjust lo hi st (its.toArray.size : Int)).1 (Builtin.Slice.sliceAdjust lo hi st (its.toArray.size : Int)).2 st)).toArray) := by
    show (stepped its _ st _).toArray.size ≤ sizeLine
    rw [List.size_toArray]; exact hz
  obtain ⟨ob, hob, hc, hd⟩ := id hs
  have hTs : s.TypeIs (.ref sl) "slice" := ⟨ob, hob, hc⟩
  unfold getItem
  try with_reducible refine wpAny_holding ?_
  first | refine wpAny_bind (wpAny_pure ?_) | skip
  refine wpAny_bind (wpAny_sequenceKey ht.typeIs (by decide) ?_)
  refine wpAny_bind (wpAny_callSpecial?_slot (name := Str.ofString "__getitem__") ht.typeIs slot_tuple_getitem (wpAny_call_entry slot_tuple_getitem ht.typeIs entry_tuple_getitem ?_ (args_tuple_getitem _ _)))
  show wpAny _ _ (Builtin.Tuple.tupleItemsOf (.ref t) >>= _) _ _ s
  refine wpAny_bind (tupleItemsOf_ ht (wpAny_bind (wpAny_typeOf hTs ?_)))
  rw [if_pos (by decide)]
  refine wpAny_bind (g_applied hs pl pu ps h0 ?_)
  generalize (Builtin.Slice.sliceAdjust lo hi st (its.toArray.size : Int)).1 = l0 at *
  generalize Builtin.Slice.slicePlaces l0 (Builtin.Slice.sliceAdjust lo hi st (its.toArray.size : Int)).2 st = n0 at *
  have hno : ¬ ((l0 == 0 && st == 1 && n0 == its.toArray.size) = true) := by
    intro q
    rw [Bool.and_eq_true, Bool.and_eq_true] at q
    exact h1 (eq_of_beq q.1.2)
  show wpAny _ _ (if (l0 == 0 && st == 1 && n0 == its.toArray.size) = true then _ else _) _ _ s
  rw [if_neg hno]
  first
    | exact wpAny_bind (m := Builtin.Tuple.tupleExact _) (wpAny_newObj_type (wpAny_pure ⟨_, rfl, wpAny_pure h⟩) ok)
    | exact wpAny_bind (m := Builtin.Tuple.tupleExact _) (wpAny_newObj_type (wpAny_bind (wpAny_pure (wpAny_pure ⟨_, rfl, wpAny_pure h⟩))) ok)
    | exact wpAny_bind (wpAny_bind (m := Builtin.Tuple.tupleExact _) (wpAny_newObj_type (wpAny_pure (wpAny_pure ⟨_, rfl, wpAny_pure h⟩)) ok))
    | exact wpAny_bind (wpAny_bind (m := Builtin.Tuple.tupleExact _) (wpAny_newObj_type (wpAny_pure ⟨_, rfl, wpAny_pure h⟩) ok))
end
end HT
namespace G
open PySem PySem.Spec PyProof.Rows L2 Evl
/-- every second item from a on -/
def halfL {α : Type} (a : Nat) (xs : List α) : List α := (List.range ((xs.length - a + 1) / 2)).filterMap fun k => xs[a + 2 * k]?
theorem halfL_len {α : Type} (a : Nat) (xs : List α) : (halfL a xs).length ≤ xs.length + 1 := by
  unfold halfL
  refine Nat.le_trans (List.length_filterMap_le _ _) ?_
  rw [List.length_range]; omega
theorem vals_filterMap {f : Nat → Option V} {g : Nat → Option Value} : ∀ {l : List Nat}, (∀ k, k ∈ l → RelO (f k) (g k)) → Vals (l.filterMap f) (l.filterMap g)
  | [], _ => .nil
  | k :: r, h => by
    have hk := h k (List.mem_cons_self ..)
    have ih := vals_filterMap (l := r) fun j hj => h j (List.mem_cons_of_mem _ hj)
    rw [List.filterMap_cons, List.filterMap_cons]
    cases e : f k with
    | none =>
      cases e2 : g k with
      | none => exact ih
      | some u => rw [e, e2] at hk; exact hk.elim
    | some v =>
      cases e2 : g k with
      | none => rw [e, e2] at hk; exact hk.elim
      | some u => rw [e, e2] at hk; exact .cons hk ih
def tHalf (K : PySem.W.Frag) (a : Nat) (te : TE) : TE := fun σ H Q => te σ H fun x H1 => ∃ t xs, x = .ref t ∧ SqT K H1 t xs ∧ xs.length ≤ 100000 ∧ ∀ p, H1 p = none → Q (.ref p) (upd H1 p (.tup (halfL a xs)))
theorem half_places {a n : Nat} (h : a ≤ 1) : (Builtin.Slice.sliceAdjust (some (a : Int)) none 2 (n : Int)).1 = ((min a n : Nat) : Int) ∧
    Builtin.Slice.slicePlaces (Builtin.Slice.sliceAdjust (some (a : Int)) none 2 (n : Int)).1 (Builtin.Slice.sliceAdjust (some (a : Int)) none 2 (n : Int)).2 2 = (n - a + 1) / 2 := by
  have h2 : ¬ ((2 : Int) < 0) := by omega
  have h3 : (2 : Int) > 0 := by omega
  have ha : ¬ ((a : Int) < 0) := by omega
  have e : Builtin.Slice.sliceAdjust (some (a : Int)) none 2 (n : Int) = (((min a n : Nat) : Int), (n : Int)) := by
    unfold Builtin.Slice.sliceAdjust
    simp only [h2, if_false, ha]
    refine Prod.ext ?_ rfl
    show min (a : Int) (n : Int) = ((min a n : Nat) : Int)
    omega
  rw [e]
  refine ⟨rfl, ?_⟩
  show Builtin.Slice.slicePlaces ((min a n : Nat) : Int) (n : Int) 2 = (n - a + 1) / 2
  unfold Builtin.Slice.slicePlaces
  simp only [h3, if_true]
  split <;> omega
section
variable {X : Cx}
theorem pe_half {e : Expr} {te : TE} {a : Nat} {k1 k2 : Nat} {p1 p2 p3 pos : Pos} (ha : a ≤ 1) (he : PE X e te) : PE X (.Subscript e (.Slice (some (.Constant (.int (a : Int)) k1 p1)) none (some (.Constant (.int 2) k2 p2)) p3) pos) (tHalf X.K a te) := by
  refine ⟨fun pins s σ H Q I h => Subscript_ (thn (he.run pins s σ H _ I h) fun v s1 ⟨x, H1, I1, r1, q1⟩ => ?_)⟩
  obtain ⟨t, xs, rfl, hx, hlen, q⟩ := q1
  cases r1
  have hlo : PO X (some (.Constant (.int (a : Int)) k1 p1)) (tPart (tC (.int (a : Int)))) := po_some pe_int
  have hst : PO X (some (.Constant (.int 2) k2 p2)) (tPart (tC (.int 2))) := po_some pe_int
  refine wpAny_Slice (thn (hlo.run pins s1 σ H1 (fun o H2 => o = some (a : Int) ∧ H2 = H1) I1 ⟨_, rfl, rfl, rfl⟩) fun vl s2 ⟨l, H2, I2, pl, el, e2⟩ => ?_)
  subst el e2
  refine thn (po_none.run pins s2 σ H2 (fun o H3 => o = none ∧ H3 = H2) I2 ⟨rfl, rfl⟩) fun vu s3 ⟨u, H3, I3, pu, eu, e3⟩ => ?_
  subst eu e3
  refine thn (hst.run pins s3 σ H3 (fun o H4 => o = some 2 ∧ H4 = H3) I3 ⟨_, rfl, rfl, rfl⟩) fun vs s4 ⟨o, H4, I4, ps, eo, e4⟩ => ?_
  subst eo e4
  have I5 : Inv X pins σ H4 { s4 with heap := s4.heap.push { cls := .type "slice", data := .fields #[vl, vu, vs] } } := I4.kept (t' := s4.toks) fun b ob q => Heap.get?_push_of_some _ q
  obtain ⟨its, r, ht, hz⟩ := I5.tuple hx
  have hl : its.toArray.size = xs.length := by rw [List.size_toArray]; exact r.length.symm
  obtain ⟨hp1, hp2⟩ := half_places (n := xs.length) ha
  have hrel : Vals (halfL a xs) (HT.stepped its ((min a xs.length : Nat) : Int) 2 ((xs.length - a + 1) / 2)) := by
    unfold halfL HT.stepped
    refine vals_filterMap fun k hk => ?_
    have hk' := List.mem_range.mp hk
    have hi : a + 2 * k < xs.length := by omega
    have en : (((min a xs.length : Nat) : Int) + (k : Int) * 2).toNat = a + 2 * k := by omega
    rw [en, List.getElem?_eq_getElem hi]
    obtain ⟨u, hu, ru⟩ := r.get (List.getElem?_eq_getElem hi)
    rw [List.getElem?_toArray, hu]
    exact ru
  have hsz : (halfL a xs).length ≤ sizeLine := sz_of (by
    unfold halfL
    refine Nat.le_trans (List.length_filterMap_le _ _) ?_
    rw [List.length_range]
    omega)
  show wpAny (model X.prog X.w) X.A (subscriptTail e (.Slice (some (.Constant (.int (a : Int)) k1 p1)) none (some (.Constant (.int 2) k2 p2)) p3) (.ref t) (.ref s4.heap.objs.size)) (EP X pins σ Q) X.xe { s4 with heap := s4.heap.push { cls := .type "slice", data := .fields #[vl, vu, vs] } }
  refine tail_any (ops := [.ref t, .ref s4.heap.objs.size]) ht.typeIs PyProof.Rows.slot_tuple_getitem.lookup ?_ (by with_unfolding_all rfl)
  refine HT.g_getStep ht (Heap.IsSliceOf.new _ vl vu vs) pl pu ps (by decide) (by decide) ?_ ?_
  · rw [hl, hp2, hp1, ← hrel.length]; exact hsz
  · rw [hl, hp2, hp1]
    refine ⟨.ref _, _, I5.laid (t' := s4.toks) (o := .tup (halfL a xs)) (fun b ob q => Heap.get?_push_of_some _ q) (Nat.le_refl _) ?_, rfl, q _ (I5.hok.fresh (Nat.le_refl _))⟩
    exact ⟨hsz, _, hrel, ⟨_, Heap.get?_push_size _ rfl, rfl, _, rfl⟩⟩
end
end G
namespace HQ
open PySem PySem.Spec PyProof.Rows L2
theorem sift_entry : entryFor table "_heapq.heapify.sift" = some Builtin.«_heapq.heapify.sift» := entryFor_of_tree (by kernel_rfl)
theorem sift_plain : plainId "_heapq.heapify.sift" = true := by decide +kernel
def swapI (l : List Int) (i j : Nat) : List Int := (l.set i (l.getD j 0)).set j (l.getD i 0)
def upF : Nat → List Int → Nat → List Int
  | 0, l, _ => l
  | f + 1, l, pos => if pos > 0 then (if l.getD pos 0 < l.getD ((pos - 1) / 2) 0 then upF f (swapI l ((pos - 1) / 2) pos) ((pos - 1) / 2) else l) else l
def kidI (l : List Int) (pos : Nat) : Nat := if 2 * pos + 1 + 1 < l.length then (if l.getD (2 * pos + 1) 0 < l.getD (2 * pos + 1 + 1) 0 then 2 * pos + 1 else 2 * pos + 1 + 1) else 2 * pos + 1
def downF : Nat → List Int → Nat → List Int
  | 0, l, pos => upF pos l pos
  | f + 1, l, pos => if pos < l.length / 2 then downF f (swapI l (kidI l pos) pos) (kidI l pos) else upF pos l pos
theorem swapI_len (l : List Int) (i j : Nat) : (swapI l i j).length = l.length := by unfold swapI; rw [List.length_set, List.length_set]
abbrev lsO (its : List Value) (n : Nat) : Obj := { cls := .type "list", data := .seq its.toArray n }
theorem map_lsO (f : Array Value → Array Value) {its its' : List Value} (h : f its.toArray = its'.toArray) (n : Nat) : ∃ n', Obj.mapSeq f (lsO its n) = lsO its' n' := by
  have e : Obj.mapSeq f (lsO its n) = { cls := .type "list", data := .seq (f its.toArray) (if ((f its.toArray).size == its.toArray.size) = true then n else n + 1) } := rfl
  rw [e, h]
  exact ⟨_, rfl⟩
theorem val_at {ns : List Int} {its : List Value} (r : Vals (ns.map V.int) its) {i : Nat} (h : i < ns.length) : ∃ t, its.toArray[i]? = some (.int (ns.getD i 0) t) := by
  have e : (ns.map V.int)[i]? = some (.int (ns.getD i 0)) := by rw [List.getElem?_map, List.getD_eq_getElem?_getD, List.getElem?_eq_getElem h]; rfl
  obtain ⟨u, hu, ru⟩ := r.get e
  obtain ⟨t, rfl⟩ := ru
  exact ⟨t, by simpa using hu⟩
theorem vals_size {ns : List Int} {its : List Value} (r : Vals (ns.map V.int) its) : its.toArray.size = ns.length := by
  have := r.length
  rw [List.length_map] at this
  simp [this]
section
variable {prog : Program} {w : World} {A : Around} {E : Value → Shared → Prop} {s : Shared}
theorem rlt {x y : Int} {t u : Tok} {Q : Bool → Shared → Prop} (h : Q (decide (x < y)) s) : wpAny (model prog w) A (do truthOfDropped (← richCompare .Lt (.int x t) (.int y u))) Q E s := by
  refine wpAny_bind (richCompare_gives (op := .Lt) (typeIs_int s _ t) (typeIs_int s _ u) F.slot_int_lt F.entry_int_lt (F.args_int_lt_2 _ _) (gives_int_lt _ _ t u) (fun x => nomatch x) ?_)
  exact wpAny_of_eq (a := decide (x < y)) rfl h
theorem swap_map {ns : List Int} {its : List Value} (r : Vals (ns.map V.int) its) {i j n : Nat} {x y : Value} (hi : i < ns.length) (hj : j < ns.length) (hx : its.toArray[i]? = some x) (hy : its.toArray[j]? = some y) :
    ∃ its', Obj.mapSeq (fun xs => (xs.setIfInBounds i y).setIfInBounds j x) (lsO its n) = lsO its' n ∧ Vals ((swapI ns i j).map V.int) its' := by
  refine ⟨(its.set i y).set j x, by simp [Obj.mapSeq, lsO], ?_⟩
  obtain ⟨t, ht⟩ := val_at r hi
  obtain ⟨u, hu⟩ := val_at r hj
  rw [hx] at ht
  rw [hy] at hu
  cases ht
  cases hu
  unfold swapI
  rw [List.map_set, List.map_set]
  have ri : RelV (.int (ns.getD i 0)) (.int (ns.getD i 0) t) := ⟨_, rfl⟩
  have rj : RelV (.int (ns.getD j 0)) (.int (ns.getD j 0) u) := ⟨_, rfl⟩
  exact (r.set rj i).set ri j
theorem swap_ok {a : Addr} {i j n : Nat} {ns : List Int} {its : List Value} {x y : Value} {Q : Unit → Shared → Prop} (hi : i < ns.length) (hj : j < ns.length) (hz : ns.length ≤ sizeLine) (ho : s.heap.get? a = some (lsO its n)) (r : Vals (ns.map V.int) its) (hx : its.toArray[i]? = some x) (hy : its.toArray[j]? = some y)
    (hQ : ∀ h' its' n', Vals ((swapI ns i j).map V.int) its' → h'.get? a = some (lsO its' n') → (∀ b o, b ≠ a → s.heap.get? b = some o → h'.get? b = some o) → Q () { s with heap := h' }) :
    wpAny (model prog w) A (updateSeq a fun xs => (xs.setIfInBounds i y).setIfInBounds j x) Q E s := by
  obtain ⟨its', e1, r1⟩ := swap_map (n := n) r hi hj hx hy
  have hsz := vals_size r
  refine wpAny_updateSeq ho rfl (hQ _ its' n r1 ?_ fun b o hb e => (Heap.get?_update_other _ _ (Ne.symm hb)).trans e) (by rw [hsz]; exact hz) (by rw [Array.size_setIfInBounds, Array.size_setIfInBounds, hsz]; omega)
  rw [Heap.get?_update_self _ ho (by rw [e1] <;> rfl), e1]
theorem up_loop {a : Addr} {res : Value} {R : Result → Shared → Prop} : ∀ (f pos : Nat) (ns : List Int) (its : List Value) (n : Nat) (h : Heap) (tk : Nat) (t1 t2 t3 : Tok), pos ≤ f → pos < ns.length → ns.length ≤ sizeLine → h.get? a = some (lsO its n) → Vals (ns.map V.int) its →
    (∀ h' its' n' tk', Vals ((upF f ns pos).map V.int) its' → h'.get? a = some (lsO its' n') → (∀ b o, b ≠ a → h.get? b = some o → h'.get? b = some o) → R (.ok (.ret res)) { s with heap := h', toks := tk' }) →
    codeAny (model prog w) A (.builtin "_heapq.heapify.sift" ⟨[.ref a, .bool false, .bool false, .int (pos : Int) t1, .int ((0 : Nat) : Int) t2, res, .int (-1) t3], []⟩) R { s with heap := h, toks := tk } := by
  intro f
  induction f with
  | zero =>
    intro pos ns its n h tk t1 t2 t3 hf hp hz ho r hR
    have h0 : pos = 0 := by omega
    subst h0
    refine codeAny_builtin sift_entry ?_
    rw [Around.under_plainId sift_plain _]
    unfold Builtin.«_heapq.heapify.sift»
    dsimp only
    refine wpAny_bind ?_
    show wpAny _ _ (seqItems? (.ref a) >>= _) _ _ _
    refine wpAny_bind (wpAny_seqItems ho rfl (wpAny_pure ?_))
    rw [if_neg (by decide), if_neg (by decide), if_pos (by decide)]
    exact wpAny_pure (hR h its n tk r ho fun b o _ e => e)
  | succ f ih =>
    intro pos ns its n h tk t1 t2 t3 hf hp hz ho r hR
    refine codeAny_builtin sift_entry ?_
    rw [Around.under_plainId sift_plain _]
    unfold Builtin.«_heapq.heapify.sift»
    dsimp only
    refine wpAny_bind ?_
    show wpAny _ _ (seqItems? (.ref a) >>= _) _ _ _
    refine wpAny_bind (wpAny_seqItems ho rfl (wpAny_pure ?_))
    rw [if_neg (by decide)]
    rw [show ((pos : Int)).toNat = pos from Int.toNat_natCast pos]
    by_cases hp0 : pos > 0
    · rw [if_pos (by exact hp0)]
      have hpar : (pos - 1) / 2 < ns.length := by omega
      obtain ⟨u1, e1⟩ := val_at r hp
      obtain ⟨u2, e2⟩ := val_at r hpar
      refine wpAny_bind ?_
      show wpAny _ _ (match its.toArray[pos]? with | some v => pure v | none => _) _ _ _
      rw [e1]
      refine wpAny_pure (wpAny_bind ?_)
      show wpAny _ _ (match its.toArray[(pos - 1) / 2]? with | some v => pure v | none => _) _ _ _
      rw [e2]
      refine wpAny_pure ?_
      rw [if_neg (by decide)]
      refine wpAny_bind ?_
      show wpAny _ _ (holding _ _ >>= _) _ _ _
      refine wpAny_bind (wpAny_holding (rlt ?_))
      refine wpAny_bind ?_
      show wpAny _ _ (seqItems? (.ref a) >>= _) _ _ _
      refine wpAny_bind (wpAny_seqItems ho rfl (wpAny_pure ?_))
      dsimp only
      rw [if_neg (by simp)]
      refine wpAny_pure ?_
      have eU : upF (f + 1) ns pos = if ns.getD pos 0 < ns.getD ((pos - 1) / 2) 0 then upF f (swapI ns ((pos - 1) / 2) pos) ((pos - 1) / 2) else ns := by
        show (if pos > 0 then _ else _) = _
        rw [if_pos hp0]
      rw [eU] at hR
      by_cases hlt : ns.getD pos 0 < ns.getD ((pos - 1) / 2) 0
      · rw [if_pos hlt] at hR
        rw [if_pos (decide_eq_true hlt)]
        refine wpAny_bind ?_
        show wpAny _ _ (_ >>= _) _ _ _
        refine wpAny_bind ?_
        show wpAny _ _ (seqItems? (.ref a) >>= _) _ _ _
        refine wpAny_bind (wpAny_seqItems ho rfl (wpAny_pure (wpAny_bind ?_)))
        show wpAny _ _ (match its.toArray[(pos - 1) / 2]? with | some v => pure v | none => _) _ _ _
        rw [e2]
        refine wpAny_pure (wpAny_bind ?_)
        show wpAny _ _ (match its.toArray[pos]? with | some v => pure v | none => _) _ _ _
        rw [e1]
        refine wpAny_pure (swap_ok (s := { s with heap := h, toks := tk }) hpar hp hz ho r e2 e1 fun h' its' n' r' ho' hk => ?_)
        · show wpAny _ _ (pure (PySem.Fin.again _)) _ _ _
          refine wpAny_pure ⟨plainId_quiet sift_plain _, ?_⟩
          refine ih ((pos - 1) / 2) (swapI ns ((pos - 1) / 2) pos) its' n' h' tk _ _ _ (by omega) (by rw [swapI_len]; exact hpar) (by rw [swapI_len]; exact hz) ho' r' fun h2 its2 n2 tk2 r2 ho2 hk2 => hR h2 its2 n2 tk2 r2 ho2 fun b o hb e => hk2 b o hb (hk b o hb e)
      · rw [if_neg hlt] at hR
        rw [if_neg (by rw [decide_eq_false hlt]; decide), if_pos (by decide)]
        exact wpAny_pure (hR h its n tk r ho fun b o _ e => e)
    · have h0 : pos = 0 := by omega
      subst h0
      rw [if_neg (by decide), if_pos (by decide)]
      exact wpAny_pure (hR h its n tk r ho fun b o _ e => e)
theorem down_loop {a : Addr} {res : Value} {R : Result → Shared → Prop} : ∀ (f pos : Nat) (ns : List Int) (its : List Value) (n : Nat) (h : Heap) (tk : Nat) (t1 t2 t3 : Tok), ns.length ≤ pos + f → pos < ns.length → ns.length ≤ sizeLine → h.get? a = some (lsO its n) → Vals (ns.map V.int) its →
    (∀ h' its' n' tk', Vals ((downF f ns pos).map V.int) its' → h'.get? a = some (lsO its' n') → (∀ b o, b ≠ a → h.get? b = some o → h'.get? b = some o) → R (.ok (.ret res)) { s with heap := h', toks := tk' }) →
    codeAny (model prog w) A (.builtin "_heapq.heapify.sift" ⟨[.ref a, .bool false, .bool true, .int (pos : Int) t1, .int ((0 : Nat) : Int) t2, res, .int (-1) t3], []⟩) R { s with heap := h, toks := tk } := by
  intro f
  induction f with
  | zero =>
    intro pos ns its n h tk t1 t2 t3 hf hp
    exact absurd hp (by omega)
  | succ f ih =>
    intro pos ns its n h tk t1 t2 t3 hf hp hz ho r hR
    refine codeAny_builtin sift_entry ?_
    rw [Around.under_plainId sift_plain _]
    unfold Builtin.«_heapq.heapify.sift»
    dsimp only
    refine wpAny_bind ?_
    show wpAny _ _ (seqItems? (.ref a) >>= _) _ _ _
    refine wpAny_bind (wpAny_seqItems ho rfl (wpAny_pure ?_))
    have hsz := vals_size r
    rw [if_pos rfl]
    rw [show ((pos : Int)).toNat = pos from Int.toNat_natCast pos]
    by_cases hp0 : pos < ns.length / 2
    · have eD : downF (f + 1) ns pos = downF f (swapI ns (kidI ns pos) pos) (kidI ns pos) := by
        show (if pos < ns.length / 2 then _ else _) = _
        rw [if_pos hp0]
      rw [eD] at hR
      rw [if_pos (by rw [hsz]; exact hp0)]
      have hl : 2 * pos + 1 < ns.length := by omega
      obtain ⟨u0, e0⟩ := val_at r hp
      obtain ⟨u1, e1⟩ := val_at r hl
      have fin : ∀ (c : Nat), kidI ns pos = c → c < ns.length → pos < c → ∀ h' its' n', Vals ((swapI ns c pos).map V.int) its' → h'.get? a = some (lsO its' n') → (∀ b o, b ≠ a → h.get? b = some o → h'.get? b = some o) →
          ∀ t1 t2 t3, codeAny (model prog w) A (.builtin "_heapq.heapify.sift" ⟨[.ref a, .bool false, .bool true, .int (c : Int) t1, .int ((0 : Nat) : Int) t2, res, .int (-1) t3], []⟩) R { s with heap := h', toks := tk } := fun c ec hc hpc h' its' n' r' ho' hk t1 t2 t3 => by
        rw [ec] at hR
        exact ih c (swapI ns c pos) its' n' h' tk t1 t2 t3 (by rw [swapI_len]; omega) (by rw [swapI_len]; exact hc) (by rw [swapI_len]; exact hz) ho' r' fun h2 its2 n2 tk2 r2 ho2 hk2 => hR h2 its2 n2 tk2 r2 ho2 fun b o hb e => hk2 b o hb (hk b o hb e)
      by_cases h2 : 2 * pos + 1 + 1 < ns.length
      · rw [if_pos (by rw [hsz]; exact h2)]
        obtain ⟨u2, e2⟩ := val_at r h2
        refine wpAny_bind ?_
        show wpAny _ _ (match its.toArray[2 * pos + 1]? with | some v => pure v | none => _) _ _ _
        rw [e1]
        refine wpAny_pure (wpAny_bind ?_)
        show wpAny _ _ (match its.toArray[2 * pos + 1 + 1]? with | some v => pure v | none => _) _ _ _
        rw [e2]
        refine wpAny_pure ?_
        rw [if_neg (by decide)]
        refine wpAny_bind ?_
        show wpAny _ _ (holding _ _ >>= _) _ _ _
        refine wpAny_bind (wpAny_holding (rlt ?_))
        refine wpAny_bind ?_
        show wpAny _ _ (seqItems? (.ref a) >>= _) _ _ _
        refine wpAny_bind (wpAny_seqItems ho rfl (wpAny_pure ?_))
        dsimp only
        rw [if_neg (by simp)]
        refine wpAny_pure ?_
        by_cases hlt : ns.getD (2 * pos + 1) 0 < ns.getD (2 * pos + 1 + 1) 0
        · have ek : kidI ns pos = 2 * pos + 1 := by unfold kidI; rw [if_pos h2, if_pos hlt]
          rw [if_neg (by rw [decide_eq_true hlt]; decide)]
          refine wpAny_bind ?_
          show wpAny _ _ (_ >>= _) _ _ _
          refine wpAny_bind ?_
          show wpAny _ _ (seqItems? (.ref a) >>= _) _ _ _
          refine wpAny_bind (wpAny_seqItems ho rfl (wpAny_pure (wpAny_bind ?_)))
          show wpAny _ _ (match its.toArray[2 * pos + 1]? with | some v => pure v | none => _) _ _ _
          rw [e1]
          refine wpAny_pure (wpAny_bind ?_)
          show wpAny _ _ (match its.toArray[pos]? with | some v => pure v | none => _) _ _ _
          rw [e0]
          refine wpAny_pure (swap_ok (s := { s with heap := h, toks := tk }) hl hp hz ho r e1 e0 fun h' its' n' r' ho' hk => ?_)
          show wpAny _ _ (pure (PySem.Fin.again _)) _ _ _
          exact wpAny_pure ⟨plainId_quiet sift_plain _, fin _ ek hl (by omega) h' its' n' r' ho' hk _ _ _⟩
        · have ek : kidI ns pos = 2 * pos + 1 + 1 := by unfold kidI; rw [if_pos h2, if_neg hlt]
          rw [if_pos (by rw [decide_eq_false hlt]; decide)]
          refine wpAny_bind ?_
          show wpAny _ _ (_ >>= _) _ _ _
          refine wpAny_bind ?_
          show wpAny _ _ (seqItems? (.ref a) >>= _) _ _ _
          refine wpAny_bind (wpAny_seqItems ho rfl (wpAny_pure (wpAny_bind ?_)))
          show wpAny _ _ (match its.toArray[2 * pos + 1 + 1]? with | some v => pure v | none => _) _ _ _
          rw [e2]
          refine wpAny_pure (wpAny_bind ?_)
          show wpAny _ _ (match its.toArray[pos]? with | some v => pure v | none => _) _ _ _
          rw [e0]
          refine wpAny_pure (swap_ok (s := { s with heap := h, toks := tk }) h2 hp hz ho r e2 e0 fun h' its' n' r' ho' hk => ?_)
          show wpAny _ _ (pure (PySem.Fin.again _)) _ _ _
          exact wpAny_pure ⟨plainId_quiet sift_plain _, fin _ ek h2 (by omega) h' its' n' r' ho' hk _ _ _⟩
      · have ek : kidI ns pos = 2 * pos + 1 := by unfold kidI; rw [if_neg h2]
        rw [if_neg (by rw [hsz]; exact h2)]
        refine wpAny_bind ?_
        show wpAny _ _ (_ >>= _) _ _ _
        refine wpAny_bind ?_
        show wpAny _ _ (seqItems? (.ref a) >>= _) _ _ _
        refine wpAny_bind (wpAny_seqItems ho rfl (wpAny_pure (wpAny_bind ?_)))
        show wpAny _ _ (match its.toArray[2 * pos + 1]? with | some v => pure v | none => _) _ _ _
        rw [e1]
        refine wpAny_pure (wpAny_bind ?_)
        show wpAny _ _ (match its.toArray[pos]? with | some v => pure v | none => _) _ _ _
        rw [e0]
        refine wpAny_pure (swap_ok (s := { s with heap := h, toks := tk }) hl hp hz ho r e1 e0 fun h' its' n' r' ho' hk => ?_)
        show wpAny _ _ (pure (PySem.Fin.again _)) _ _ _
        exact wpAny_pure ⟨plainId_quiet sift_plain _, fin _ ek hl (by omega) h' its' n' r' ho' hk _ _ _⟩
    · have eD : downF (f + 1) ns pos = upF pos ns pos := by
        show (if pos < ns.length / 2 then _ else _) = _
        rw [if_neg hp0]
      rw [eD] at hR
      rw [if_neg (by rw [hsz]; exact hp0)]
      show wpAny _ _ (pure (PySem.Fin.again _)) _ _ _
      exact wpAny_pure ⟨plainId_quiet sift_plain _, up_loop pos pos ns its n h tk _ _ _ (Nat.le_refl _) hp hz ho r hR⟩
end
theorem push_entry : entryFor table "_heapq.heappush" = some Builtin.«_heapq.heappush» := entryFor_of_tree (by kernel_rfl)
theorem push_plain : plainId "_heapq.heappush" = true := by decide +kernel
theorem push_kind : builtinKind "_heapq.heappush" = none := by decide +kernel
theorem push_args (a b : Value) : argsOk "_heapq.heappush" ⟨[a, b], []⟩ := by unfold argsOk; kernel_rfl
theorem pop_entry : entryFor table "_heapq.heappop" = some Builtin.«_heapq.heappop» := entryFor_of_tree (by kernel_rfl)
theorem pop_plain : plainId "_heapq.heappop" = true := by decide +kernel
theorem pop_kind : builtinKind "_heapq.heappop" = none := by decide +kernel
theorem pop_args (a : Value) : argsOk "_heapq.heappop" ⟨[a], []⟩ := by unfold argsOk; kernel_rfl
/-- the list behind a push, behind a pop -/
def pushI (ns : List Int) (x : Int) : List Int := upF ns.length (ns ++ [x]) ns.length
def popI (ns : List Int) : List Int := if ns.length = 1 then [] else downF (ns.length - 1) (ns.dropLast.set 0 (ns.getD (ns.length - 1) 0)) 0
def rPush : List V → Hp → VK → Prop := fun xs H Q => ∃ (a : Addr) (ns : List Int) (x : Int), xs = [.ref a, .int x] ∧ H a = some (.lst (ns.map V.int)) ∧ ns.length < sizeLine ∧ Q .non (upd H a (.lst ((pushI ns x).map V.int)))
def rPop : List V → Hp → VK → Prop := fun xs H Q => ∃ (a : Addr) (ns : List Int), xs = [.ref a] ∧ H a = some (.lst (ns.map V.int)) ∧ 0 < ns.length ∧ Q (.int (ns.getD 0 0)) (upd H a (.lst ((popI ns).map V.int)))
theorem upF_len : ∀ (f : Nat) (l : List Int) (p : Nat), (upF f l p).length = l.length
  | 0, _, _ => rfl
  | f + 1, l, p => by
    show (if p > 0 then (if _ then _ else _) else _ : List Int).length = _
    by_cases h : p > 0
    · rw [if_pos h]
      by_cases h2 : l.getD p 0 < l.getD ((p - 1) / 2) 0
      · rw [if_pos h2, upF_len f, swapI_len]
      · rw [if_neg h2]
    · rw [if_neg h]
theorem downF_len : ∀ (f : Nat) (l : List Int) (p : Nat), (downF f l p).length = l.length
  | 0, l, p => upF_len _ _ _
  | f + 1, l, p => by
    show (if p < l.length / 2 then _ else _ : List Int).length = _
    by_cases h : p < l.length / 2
    · rw [if_pos h, downF_len f, swapI_len]
    · rw [if_neg h, upF_len]
section
variable {X : Cx}
theorem inv_lst {pins : List (Addr × Obj)} {σ : L2.St} {H : Hp} {s : Shared} {p : Addr} {xs ys : List V} {its' : List Value} {n' : Nat} {h' : Heap} (I : Inv X pins σ H s) (h : H p = some (.lst xs)) (e : h'.get? p = some (lsO its' n')) (hk : ∀ b o, b ≠ p → s.heap.get? b = some o → h'.get? b = some o) (r : Vals ys its') (hz : ys.length ≤ sizeLine) (t : Nat) :
    Inv X pins σ (upd H p (.lst ys)) { s with heap := h', toks := t } :=
  I.write (x := p) (e := p) (by rw [h]; trivial) (.inl rfl) (fun b u hb q => hk b u hb q) ⟨_, e⟩ ⟨hz, its', n', r, e⟩
theorem cr_push (hc : X.calm = true) : CallR X (.builtin "_heapq.heappush") rPush := by
  intro pins s σ H xs us Q I rx h
  obtain ⟨a, ns, x, rfl, ha, hz, hq⟩ := h
  cases rx with
  | cons r1 rr =>
    cases rr with
    | cons r2 rr =>
      cases rr
      cases r1
      obtain ⟨tx, rfl⟩ := r2
      obtain ⟨its, n, r, ho, _⟩ := I.lst ha
      refine PyProof.Rows.kmb_tree push_kind push_plain push_entry (push_args _ _) ?_
      unfold Builtin.«_heapq.heappush»
      refine wpAny_bind ?_
      show wpAny _ _ (noKeywords _ _ >>= _) _ _ _
      refine wpAny_bind (m := noKeywords _ _) (wpAny_pure ?_)
      refine wpAny_bind (m := checkCount _ _ _ _) (wpAny_pure ?_)
      dsimp only
      refine wpAny_bind ?_
      show wpAny _ _ (isInstance _ _ >>= _) _ _ _
      refine wpAny_bind (wpAny_isInstance (T := "list") (b := true) ⟨_, ho, rfl⟩ (by rfl) ?_)
      rw [if_pos rfl]
      refine wpAny_pure (wpAny_pure ?_)
      dsimp only
      have hsz := vals_size r
      obtain ⟨n1, eo⟩ : ∃ n1, Obj.mapSeq (fun xs : Array Value => xs.push (.int x tx)) (lsO its n) = lsO (its ++ [.int x tx]) n1 := map_lsO _ (by simp) n
      have rx : RelV (.int x) (.int x tx) := ⟨_, rfl⟩
      have r' : Vals ((ns ++ [x]).map V.int) (its ++ [.int x tx]) := by rw [List.map_append]; exact r.append (.cons rx .nil)
      have hl : (ns ++ [x]).length = ns.length + 1 := by rw [List.length_append]; rfl
      have hz' : (ns ++ [x]).length ≤ sizeLine := by rw [hl]; exact hz
      refine wpAny_bind (wpAny_updateSeq ho rfl ?_ (by rw [hsz]; exact Nat.le_of_lt hz) (by rw [Array.size_push, hsz]; omega))
      have ho' : (s.heap.update a (Obj.mapSeq fun xs : Array Value => xs.push (.int x tx))).get? a = some (lsO (its ++ [.int x tx]) n1) := by rw [Heap.get?_update_self _ ho (by rw [eo] <;> rfl), eo]
      have hk : ∀ b o, b ≠ a → s.heap.get? b = some o → (s.heap.update a (Obj.mapSeq fun xs : Array Value => xs.push (.int x tx))).get? b = some o := fun b o hb e => (Heap.get?_update_other _ _ (Ne.symm hb)).trans e
      generalize s.heap.update a (Obj.mapSeq fun xs : Array Value => xs.push (.int x tx)) = h1 at *
      refine wpAny_bind ?_
      show wpAny _ _ (seqItems? (.ref a) >>= _) _ _ _
      refine wpAny_bind (wpAny_seqItems (s := { s with heap := h1 }) ho' rfl (wpAny_pure ?_))
      show wpAny _ _ (pure (PySem.Fin.again _)) _ _ _
      refine wpAny_pure ⟨plainId_quiet sift_plain _, ?_⟩
      have hsz' : (its ++ [Value.int x tx]).toArray.size - 1 = ns.length := by rw [vals_size r', hl]; rfl
      rw [hsz']
      exact up_loop (s := s) ns.length ns.length (ns ++ [x]) _ n1 h1 s.toks _ _ _ (Nat.le_refl _) (by omega) hz' ho' r' fun h' its' n' tk' r2 ho2 hk2 => ⟨.non, _, inv_lst I ha ho2 (fun b o hb e => hk2 b o hb (hk b o hb e)) r2 (by rw [List.length_map, upF_len]; exact hz') tk', rfl, hq⟩
theorem cr_pop (hc : X.calm = true) : CallR X (.builtin "_heapq.heappop") rPop := by
  intro pins s σ H xs us Q I rx h
  obtain ⟨a, ns, rfl, ha, hn, hq⟩ := h
  cases rx with
  | cons r1 rr =>
    cases rr
    cases r1
    obtain ⟨its, n, r, ho, hz⟩ := I.lst ha
    rw [List.length_map] at hz
    have hsz := vals_size r
    obtain ⟨tl, el⟩ := val_at r (i := ns.length - 1) (by omega)
    obtain ⟨t0, e0⟩ := val_at r (i := 0) hn
    refine PyProof.Rows.kmb_tree pop_kind pop_plain pop_entry (pop_args _) ?_
    unfold Builtin.«_heapq.heappop»
    show wpAny _ _ (_ >>= _) _ _ _
    refine wpAny_bind ?_
    show wpAny _ _ (oneArg _ _ >>= _) _ _ _
    refine wpAny_bind (m := oneArg _ _) (wpAny_pure ?_)
    refine wpAny_bind ?_
    show wpAny _ _ (isInstance _ _ >>= _) _ _ _
    refine wpAny_bind (wpAny_isInstance (T := "list") (b := true) ⟨_, ho, rfl⟩ (by rfl) ?_)
    dsimp only
    rw [if_pos rfl]
    refine wpAny_pure (wpAny_pure ?_)
    dsimp only
    refine wpAny_bind ?_
    show wpAny _ _ (seqItems? (.ref a) >>= _) _ _ _
    refine wpAny_bind (wpAny_seqItems ho rfl (wpAny_pure ?_))
    have eb : its.toArray.back? = some (.int (ns.getD (ns.length - 1) 0) tl) := by
      rw [← el, Array.back?, hsz]
    rw [eb]
    dsimp only
    obtain ⟨n1, eo⟩ : ∃ n1, Obj.mapSeq (fun xs : Array Value => xs.pop) (lsO its n) = lsO its.dropLast n1 := map_lsO _ (by simp) n
    have r' : Vals (ns.dropLast.map V.int) its.dropLast := by
      have h1 := r.length
      rw [List.length_map] at h1
      have := r.take (ns.length - 1)
      rw [← List.map_take, ← List.dropLast_eq_take, h1, ← List.dropLast_eq_take] at this
      exact this
    refine wpAny_bind (wpAny_updateSeq ho rfl ?_ (by rw [hsz]; exact hz) (by rw [Array.size_pop, hsz]; omega))
    have ho' : (s.heap.update a (Obj.mapSeq fun xs : Array Value => xs.pop)).get? a = some (lsO its.dropLast n1) := by rw [Heap.get?_update_self _ ho (by rw [eo] <;> rfl), eo]
    have hk : ∀ b o, b ≠ a → s.heap.get? b = some o → (s.heap.update a (Obj.mapSeq fun xs : Array Value => xs.pop)).get? b = some o := fun b o hb e => (Heap.get?_update_other _ _ (Ne.symm hb)).trans e
    generalize s.heap.update a (Obj.mapSeq fun xs : Array Value => xs.pop) = h1 at *
    have hdl : ns.dropLast.length = ns.length - 1 := List.length_dropLast
    rw [hsz]
    by_cases h1n : ns.length = 1
    · rw [if_pos (by rw [h1n]; rfl)]
      have e : popI ns = [] := if_pos h1n
      rw [e] at hq
      rw [h1n]
      have r0 : Vals (([] : List Int).map V.int) its.dropLast := by
        have : ns.dropLast = [] := List.eq_nil_of_length_eq_zero (by rw [hdl, h1n])
        rw [this] at r'; exact r'
      exact wpAny_pure ⟨.int (ns.getD 0 0), _, inv_lst I ha ho' hk r0 (Nat.zero_le _) s.toks, ⟨_, rfl⟩, hq⟩
    · rw [if_neg (by intro z; exact h1n (by simpa using z))]
      have e : popI ns = downF (ns.length - 1) (ns.dropLast.set 0 (ns.getD (ns.length - 1) 0)) 0 := if_neg h1n
      rw [e] at hq
      refine wpAny_bind ?_
      show wpAny _ _ (match its.toArray[0]? with | some v => pure v | none => _) _ _ _
      rw [e0]
      refine wpAny_pure ?_
      have rl : RelV (.int (ns.getD (ns.length - 1) 0)) (.int (ns.getD (ns.length - 1) 0) tl) := ⟨_, rfl⟩
      have r2 : Vals ((ns.dropLast.set 0 (ns.getD (ns.length - 1) 0)).map V.int) (its.dropLast.set 0 (.int (ns.getD (ns.length - 1) 0) tl)) := by rw [List.map_set]; exact r'.set rl 0
      obtain ⟨n2, eo2⟩ : ∃ n2, Obj.mapSeq (fun xs : Array Value => xs.setIfInBounds 0 (.int (ns.getD (ns.length - 1) 0) tl)) (lsO its.dropLast n1) = lsO (its.dropLast.set 0 (.int (ns.getD (ns.length - 1) 0) tl)) n2 := map_lsO _ (by simp) n1
      have hsz' := vals_size r'
      have hl2 : (ns.dropLast.set 0 (ns.getD (ns.length - 1) 0)).length = ns.length - 1 := by rw [List.length_set, hdl]
      refine wpAny_bind (wpAny_updateSeq (s := { s with heap := h1 }) ho' rfl ?_ (by rw [hsz', hdl]; omega) (by rw [Array.size_setIfInBounds, hsz', hdl]; omega))
      have ho2 : (h1.update a (Obj.mapSeq fun xs : Array Value => xs.setIfInBounds 0 (.int (ns.getD (ns.length - 1) 0) tl))).get? a = some (lsO (its.dropLast.set 0 (.int (ns.getD (ns.length - 1) 0) tl)) n2) := by rw [Heap.get?_update_self _ ho' (by rw [eo2] <;> rfl), eo2]
      have hk2 : ∀ b o, b ≠ a → h1.get? b = some o → (h1.update a (Obj.mapSeq fun xs : Array Value => xs.setIfInBounds 0 (.int (ns.getD (ns.length - 1) 0) tl))).get? b = some o := fun b o hb e => (Heap.get?_update_other _ _ (Ne.symm hb)).trans e
      dsimp only
      generalize h1.update a (Obj.mapSeq fun xs : Array Value => xs.setIfInBounds 0 (.int (ns.getD (ns.length - 1) 0) tl)) = h2 at *
      show wpAny _ _ (pure (PySem.Fin.again _)) _ _ _
      refine wpAny_pure ⟨plainId_quiet sift_plain _, ?_⟩
      exact down_loop (s := s) (ns.length - 1) 0 _ _ n2 h2 s.toks _ _ _ (by rw [hl2]; omega) (by rw [hl2]; omega) (by rw [hl2]; omega) ho2 r2 fun h' its' n' tk' r3 ho3 hk3 => ⟨.int (ns.getD 0 0), _, inv_lst I ha ho3 (fun b o hb e => hk3 b o hb (hk2 b o hb (hk b o hb e))) r3 (by rw [List.length_map, downF_len, hl2]; omega) tk', ⟨_, rfl⟩, hq⟩
end
end HQ
namespace HQ
open PySem PySem.Spec PyProof.Rows L2
/-! ## heaps as lists: what is in them -/
theorem swap_perm {l : List Int} {i j : Nat} (hi : i < l.length) (hj : j < l.length) : (swapI l i j).Perm l := by
  rw [List.perm_iff_count]
  intro b
  unfold swapI
  have gi : l.getD i 0 = l[i] := by rw [List.getD_eq_getElem?_getD, List.getElem?_eq_getElem hi]; rfl
  have gj : l.getD j 0 = l[j] := by rw [List.getD_eq_getElem?_getD, List.getElem?_eq_getElem hj]; rfl
  rw [gi, gj, List.count_set (by rw [List.length_set]; exact hj), List.count_set hi, List.getElem_set]
  have ci : (if (l[i] == b) = true then 1 else 0) ≤ l.count b := by
    by_cases h : (l[i] == b) = true
    · rw [if_pos h]
      exact List.count_pos_iff.mpr (by rw [← eq_of_beq h]; exact List.getElem_mem hi)
    · rw [if_neg h]; exact Nat.zero_le _
  by_cases e : i = j
  · subst e
    rw [if_pos rfl]
    omega
  · rw [if_neg e]
    have cj : (if (l[j] == b) = true then 1 else 0) ≤ l.count b := by
      by_cases h : (l[j] == b) = true
      · rw [if_pos h]
        exact List.count_pos_iff.mpr (by rw [← eq_of_beq h]; exact List.getElem_mem hj)
      · rw [if_neg h]; exact Nat.zero_le _
    by_cases h1 : (l[i] == b) = true <;> by_cases h2 : (l[j] == b) = true <;> simp only [h1, h2, if_true, if_false, Bool.false_eq_true] at ci cj ⊢ <;> omega
theorem up_perm : ∀ (f : Nat) (l : List Int) (p : Nat), p < l.length → (upF f l p).Perm l
  | 0, _, _, _ => .refl _
  | f + 1, l, p, h => by
    show (if p > 0 then (if _ then _ else _) else _ : List Int).Perm l
    by_cases h0 : p > 0
    · rw [if_pos h0]
      by_cases h2 : l.getD p 0 < l.getD ((p - 1) / 2) 0
      · rw [if_pos h2]
        exact (up_perm f _ _ (by rw [swapI_len]; omega)).trans (swap_perm (by omega) h)
      · rw [if_neg h2]
    · rw [if_neg h0]
theorem kid_lt {l : List Int} {p : Nat} (h : p < l.length / 2) : kidI l p < l.length ∧ p < kidI l p := by
  unfold kidI
  by_cases h2 : 2 * p + 1 + 1 < l.length
  · rw [if_pos h2]
    by_cases h3 : l.getD (2 * p + 1) 0 < l.getD (2 * p + 1 + 1) 0
    · rw [if_pos h3]; omega
    · rw [if_neg h3]; omega
  · rw [if_neg h2]; omega
theorem down_perm : ∀ (f : Nat) (l : List Int) (p : Nat), p < l.length → (downF f l p).Perm l
  | 0, l, p, h => up_perm p l p h
  | f + 1, l, p, h => by
    show (if p < l.length / 2 then _ else _ : List Int).Perm l
    by_cases h0 : p < l.length / 2
    · rw [if_pos h0]
      have hk := kid_lt h0
      exact (down_perm f _ _ (by rw [swapI_len]; exact hk.1)).trans (swap_perm hk.1 h)
    · rw [if_neg h0]
      exact up_perm p l p h
theorem push_perm (ns : List Int) (x : Int) : (pushI ns x).Perm (x :: ns) := (up_perm _ _ _ (by rw [List.length_append]; show _ < _ + 1; omega)).trans (List.perm_append_comm.trans (List.Perm.refl _))
theorem pop_perm {ns : List Int} (h : 0 < ns.length) : (ns.getD 0 0 :: popI ns).Perm ns := by
  obtain ⟨x, rest, rfl⟩ : ∃ x rest, ns = x :: rest := by
    cases ns with
    | nil => cases h
    | cons x rest => exact ⟨x, rest, rfl⟩
  show (x :: popI (x :: rest)).Perm (x :: rest)
  refine .cons x ?_
  unfold popI
  by_cases h1 : (x :: rest).length = 1
  · rw [if_pos h1]
    have : rest = [] := List.eq_nil_of_length_eq_zero (by rw [List.length_cons] at h1; omega)
    rw [this]
  · rw [if_neg h1]
    obtain ⟨y, r2, rfl⟩ : ∃ y r2, rest = y :: r2 := by
      cases rest with
      | nil => exact absurd rfl h1
      | cons y r2 => exact ⟨y, r2, rfl⟩
    have hl : (x :: y :: r2).dropLast = x :: (y :: r2).dropLast := rfl
    refine (down_perm _ _ _ (by rw [List.length_set, hl]; exact Nat.succ_pos _)).trans ?_
    rw [hl]
    show ((x :: y :: r2).getD (r2.length + 1) 0 :: (y :: r2).dropLast).Perm _
    have hg : (x :: y :: r2).getD (r2.length + 1) 0 = (y :: r2).getLast (by simp) := by
      show (y :: r2).getD r2.length 0 = _
      rw [List.getD_eq_getElem?_getD, List.getLast_eq_getElem, List.getElem?_eq_getElem (show r2.length < (y :: r2).length by simp)]; rfl
    rw [hg]
    have := List.dropLast_concat_getLast (l := y :: r2) (by simp)
    exact (List.perm_append_comm (l₁ := [(y :: r2).getLast (by simp)]) (l₂ := (y :: r2).dropLast)).trans (by rw [this])
end HQ
/-! a dict comprehension whose keys are tuples of ints and texts -/
namespace L2
open PySem PySem.Spec PyProof.Rows
theorem put_tup {X : Cx} {ps : List (Addr × Obj)} {σ : St} {H : Hp} {s : Shared} {E : Value → Shared → Prop} {b D : Addr} {es : List (List Key × V)} {k : List Key} {v : V} {r : Value} {Q : Unit → Shared → Prop}
    (hu : X.A.units < cLine) (J : Inv X ps σ H s) (hb : H b = some (.tup (k.map kV))) (hD : H D = some (.dT es)) (hn : es.length < sizeLine) (hv : RelV v r)
    (go : ∀ s2, Inv X ps σ (upd H D (.dT (putK es k v))) s2 → Q () s2) : wpAny (model X.prog X.w) X.A (dictSet D (.ref b) r) Q E s := by
  obtain ⟨le, low, xs, rel, at_⟩ := dt_of J.hok hD
  have l1 : xs.length ≤ sizeLine := Paired.length rel ▸ le
  have l2 : (putK es k v).length ≤ sizeLine := Nat.le_trans (length_putK es k v) hn
  refine wpAny_dictSet_heap (hsz := l1) hu (key_of J.hok hb) at_ fun h2 d2 sb => go _ ?_
  obtain ⟨o2, e2, ep2, c1, c2, c3, c4, _, c6⟩ := d2
  refine d_write J (by rw [hD]; exact True.intro) sb ⟨o2, c1⟩ ⟨l2, low, _, (rel.put k hb hv).keeps fun c ys hc => ?_, o2, e2, ep2, c1, c2, c3, c4, c6⟩
  exact (upd_ne (ne_of hc hD (fun z => nomatch z))).trans hc
section
variable {X : Cx}
/-- one turn: the target, the test, the key, the value, the store -/
def dctTurn (D : Addr) (g : TG) (tt : TT) (tk tv : TE) (vs : List Nat) (σ : St) (Nx : Hp → Prop) (x : V) (H : Hp) : Prop :=
  g x (wipe σ vs) H fun τ G1 => wipe τ vs = wipe σ vs ∧ tt τ G1 fun b G2 => if b = true then tk τ G2 fun y G3 => tv τ G3 fun z G4 =>
    ∃ (es : List (List Key × V)) (k : List Key) (c : Addr), y = .ref c ∧ G4 c = some (.tup (k.map kV)) ∧ G4 D = some (.dT es) ∧ es.length < sizeLine ∧ Nx (upd G4 D (.dT (putK es k z))) else Nx G2
def tDct (wi : TI) (g : TG) (tt : TT) (tk tv : TE) (vs : List Nat) : TE := fun σ H Q => wi σ H fun J H1 => ∀ D, H1 D = none → ∃ W : Nat → Nat → Hp → Prop, (∃ m, W 0 m (upd H1 D (.dT []))) ∧
  ∀ i m G, W i m G → (J.stop i G ∧ Q (.ref D) G) ∨ (J.go i G ∧ ∃ Nx : Hp → Prop, (∀ G2, Nx G2 → ∃ m2, m2 < m ∧ W (i + 1) m2 G2) ∧ ∀ x G2, J.yld i G x G2 → dctTurn D g tt tk tv vs σ Nx x G2)
abbrev InBlk (X : Cx) (scope : Scope) (F : Cx → Prop) : Prop := ∀ (s : Shared) (H : Hp) (C : Addr) (cl : List (Str × Addr)) (fp : List Addr), F (X.blk s H scope (compEnvC scope cl C X.env) fp)
theorem pe_dct {kx vx tg iter : Expr} {ifs : List Expr} {scope : Scope} {own : List (Str × Nat)} {pos : Pos} {wi : TI} {g : TG} {tt : TT} {tk tv : TE} (calm : X.calm = true) (nd : X.N.Nodup) (hu : X.A.units < cLine)
    (walk : PI X tg iter wi) (ok : BlkOk X.N X.env.scope scope own) (bg : InBlk X scope fun Y => PG Y tg g) (bt : InBlk X scope fun Y => PTs Y ifs tt) (bk : InBlk X scope fun Y => PE Y kx tk) (bv : InBlk X scope fun Y => PE Y vx tv)
    (plain : ∀ x, foldedSetIterable iter X.env x = pure x := by intro _; rfl) : PE X (.DictComp kx vx [⟨tg, iter, ifs, 0⟩] scope pos) (tDct wi g tt tk tv (own.map (·.2))) := by
  refine ⟨fun ps s σ H Q I hyp => ?_⟩
  rw [arm_eval_DictComp]
  have clo := closure_ok (env := X.env) (scope := scope) fun y hy e => (ok.free y hy e).elim (fun k => I.ok.has _ (.inl k)) (fun k => I.ok.has _ (.inr k))
  refine wpAny_comprehension_free (use := none) rfl plain clo ok.kind (fun y hy e => (ok.uniq y hy).trans (congrArg some e)) (thn (walk.run ps s σ H _ I hyp) fun _ s1 got => thn got fun _ s2 more => ?_)
  obtain ⟨it, fp, tn, J, H2, rfl, I2, T, here, fpok, rest⟩ := more
  refine wpAny_newObj_type (newEnv_comp ?_)
  let D : Addr := s2.heap.objs.size
  have free : H2 D = none := I2.hok.fresh (Nat.le_refl _)
  obtain ⟨W, ⟨m0, start⟩, turn⟩ := rest D free
  let s3 : Shared := { s2 with heap := s2.heap.push { cls := .type "dict", data := .dict #[] } }
  have old : ∀ b o, s2.heap.get? b = some o → s3.heap.get? b = some o := fun b o e => Heap.get?_push_of_some _ e
  have I3 : Inv X ps σ (upd H2 D (.dT [])) s3 := I2.laid (t' := s2.toks) old (Nat.le_refl _) (dt_empty s2.heap I2.big)
  have small : ∀ b ∈ fp, b < s2.heap.objs.size := fun b hb => (T.obj _ _ here b hb).elim fun _ e => Heap.lt_size e.1
  have fp3 : ∀ b ∈ fp, FpOk X ps (upd H2 D (.dT [])) b ∧ b < s3.heap.objs.size := fun b hb =>
    ⟨⟨(upd_ne (Nat.ne_of_lt (small b hb))).trans (fpok b hb).1, (fpok b hb).2⟩, Nat.lt_of_lt_of_eq (Nat.lt_succ_of_lt (small b hb)) (Heap.size_push ..).symm⟩
  have here3 : tn 0 s3.heap := T.keep _ _ _ here fun b _ o e => old b o e
  have I4 := block_start I3 ok nd fp3
  generalize hH3 : upd H2 D (.dT []) = H3 at I3 I4 fp3 start
  generalize hC : s3.heap.objs.size = C at I4 ⊢
  generalize hce : compEnvC scope (cellsFrom (C + 1) scope.names (cloFrom X.env.cells scope.names [])) C X.env = ce at I4
  have locC : ce.locals = C := by rw [← hce]; rfl
  have at_ : ∀ F : Cx → Prop, InBlk X scope F → F (X.blk s3 H3 scope ce fp) := fun F hF => by rw [← hce]; exact hF ..
  have pg := at_ _ bg
  have pt := at_ _ bt
  have pk := at_ _ bk
  have pv := at_ _ bv
  let B : Cx := X.blk s3 H3 scope ce fp
  let s4 : Shared := { s3 with heap := pushCells (s3.heap.push { cls := .type "dict", data := .dict #[] }) scope.names }
  show codeAny _ _ (.compStart (.DictComp kx vx [⟨tg, iter, ifs, 0⟩] scope pos) 0 (.ref it) (.ref D) (compEnvC scope (cellsFrom (C + 1) scope.names (cloFrom X.env.cells scope.names [])) C X.env)) _ s4
  rw [hce]
  have here4 : tn 0 s4.heap := T.keep _ _ _ here3 fun b _ o e => pushCells_keeps _ _ _ _ (Heap.get?_push_of_some _ e)
  have away : ∀ {τ : St} {G : Hp} {t : Shared}, Inv B [] τ G t → (∀ b ∈ fp, G b = none) → ∀ b ∈ fp, FpOk B [] G b := fun {τ G t} J hn b hb =>
    ⟨hn b hb, (J.ok.exf b hb).1, J.ok.exfs b hb, .inl hb, fun x c e => (J.ok.exf b hb).2 x c e, fun p hp => nomatch (show p ∈ ([] : List (Addr × Obj)) ++ [] from hp)⟩
  let Iv : Nat → Shared → Prop := fun n t => ∃ i G, Inv B [] (wipe σ (own.map (·.2))) G t ∧ tn i t.heap ∧ (∀ b ∈ fp, G b = none) ∧ W i n G
  refine codeAny_compStart_dict ?loop (T.self X.A 0 _ _ _ here4 ?loop)
  refine compLoop_anyD Iv ?_ m0 ⟨0, H3, I4, here4, fun b hb => (fp3 b hb).1.1, start⟩
  rintro n t ⟨i, G, J, st, no, w⟩
  rcases turn i n G w with ⟨stop, fin⟩ | ⟨go, Nx, hNx, step⟩
  · -- the walk is over
    refine thnF (T.done B rfl rfl rfl calm i [] t _ G (fun _ _ => False) J (away J no) st stop) fun r t2 ⟨er, J2⟩ => ?_
    subst er
    have back : Inv X ps σ G t2 := I3.call' (ch := fp) J2.os J2.base J2.hok J2.bare fun b hb => ⟨(fp3 b hb).1.2.2.2.1, (fp3 b hb).1.2.1, (fp3 b hb).1.2.2.2.2.1, (fp3 b hb).1.2.2.2.2.2⟩
    have noC : G C = none := locC ▸ (show G ce.locals = none from J2.free)
    obtain ⟨m, hm, _⟩ := J2.loc
    have fo := I3.fpOk (Nat.le_of_eq hC) noC
    refine ⟨m, locC ▸ (show t2.heap.Ns ce.locals m from hm), fun h3 sb => ?_⟩
    obtain ⟨f0, f1, f2, f3, f4, f5⟩ := fo
    exact ⟨.ref D, G, back.turned (t' := t2.toks) (fun b o hb e => (sb.2 b hb).trans e) f0 f1 f3 f4 f5, rfl, fin⟩
  · refine thnF (T.item B rfl rfl rfl calm i [] t _ G (fun _ _ => False) J (away J no) st go) fun r t2 ⟨u, er, more⟩ => ?_
    subst er
    refine thnF more fun _ t3 ⟨x, G3, J3, rx, hy, st3, no3⟩ => ?_
    have J3p := J3.pinned (away J3 no3) (T.obj _ _ st3)
    refine thnF (pg.run _ t3 _ G3 x u _ J3p rx (step x G3 hy)) fun _ t4 ⟨τ, G4, J4, hw, q4⟩ => ?_
    refine thnF (pt.run _ t4 τ G4 _ J4 q4) fun b t5 ⟨G5, J5, q5⟩ => ?_
    have again : ∀ {t' : Shared} {G' : Hp}, Inv B ([] ++ pinsAt fp t3.heap) τ G' t' → Nx G' → ∃ m, m < n ∧ Iv m t' := fun {t' G'} J' nx => by
      obtain ⟨m2, lt, w2⟩ := hNx G' nx
      have kept : ∀ c ∈ fp, ∀ o, t3.heap.get? c = some o → t'.heap.get? c = some o ∧ G' c = none := fun c hc o e =>
        let z := J'.pin (c, o) (List.mem_append_right _ (List.mem_append_right _ (mem_pinsAt hc e)))
        ⟨z.1, z.2.1⟩
      have len : (wipe σ (own.map (·.2))).length = τ.length := by rw [← hw, wipe_length]
      exact ⟨m2, lt, i + 1, G', (J'.unpinned (pins := [])).weak len (fun j v e => (wipe_some (hw ▸ e)).1), T.keep _ _ _ st3 fun c hc o e => (kept c hc o e).1,
        fun c hc => (T.obj _ _ st3 c hc).elim fun o e => (kept c hc o e.1).2, w2⟩
    cases b with
    | false =>
      simp only [Bool.false_eq_true, if_false] at q5 ⊢
      exact again J5 q5
    | true =>
      simp only [if_true] at q5 ⊢
      refine thnF (pk.run _ t5 τ G5 _ J5 q5) fun kv t6 ⟨y, G6, J6, ry, q6⟩ => ?_
      refine thnF (pv.run _ t6 τ G6 _ J6 q6) fun vv t7 ⟨z, G7, J7, rz, es, k, c, ey, hc, hD, hl, nx⟩ => ?_
      subst ey
      obtain rfl : kv = Value.ref c := ry
      exact put_tup (X := B) hu J7 hc hD hl rz fun t8 J8 => again J8 nx
end
end L2
/-! y = {k: v for ..}, y a plain local: the value goes straight to its name -/
namespace L2
open PySem PySem.Spec PyProof.Rows
section
variable {X : Cx}
theorem sw_trueD {kx vx : Expr} {gs : List Comprehension} {scope : Scope} {pos py : Pos} {y : Str} {l : Nat} {env : Env} (hk : env.scope.kind = .function) (hy : env.scope.names.lookup y = some .local) (hl : (py.line == pos.line) = true)
    (ha : (scope.names.any fun (n, k) => n == y && (k == .local || k == .cell)) = false) : swapsWith (.DictComp kx vx gs scope pos) (some (.Name y py)) l env = pure true := by
  have e1 : env.kindOf y = some .local := hy
  have e2 : env.blockKind = .function := by unfold Env.blockKind; rw [hk]; rfl
  unfold swapsWith
  simp only [e1, e2, ha, hl, Expr.pos]
  rfl
theorem ps_setDc {i : Nat} {y : Str} {py : Pos} {kx vx tg iter : Expr} {ifs : List Expr} {scope : Scope} {own : List (Str × Nat)} {pos spos : Pos} {wi : TI} {g : TG} {tt : TT} {tk tv : TE} (calm : X.calm = true) (nd : X.N.Nodup) (at_ : X.N[i]? = some y) (loc : X.env.scope.names.lookup y = some .local)
    (sw : swapsWith (.DictComp kx vx [⟨tg, iter, ifs, 0⟩] scope pos) (some (.Name y py)) spos.line X.env = pure true) (walk : PI X tg iter wi) (ok : BlkOk X.N X.env.scope scope own)
    (bg : InBlk X scope fun Y => PG Y tg g) (bt : InBlk X scope fun Y => PTs Y ifs tt) (bk : InBlk X scope fun Y => PE Y kx tk) (bv : InBlk X scope fun Y => PE Y vx tv) (plain : ∀ x, foldedSetIterable iter X.env x = pure x := by intro _; rfl) :
    PS X (.Assign [.Name y py] (.DictComp kx vx [⟨tg, iter, ifs, 0⟩] scope pos) spos) (tAsg (tDc wi g tt tk tv (own.map (·.2))) (gName i)) := by
  refine ⟨fun ps s σ H D I hyp => ?_⟩
  rw [exec_Assign_Name_used _ _ _ _ sw]
  refine wpAny_bind (wpAny_standAt (wpAny_bind ?_))
  show wpAny _ X.A (do let _ ← comprehension (.DictComp kx vx [⟨tg, iter, ifs, 0⟩] scope pos) scope X.env (firstIterPos [⟨tg, iter, ifs, 0⟩] pos) newDict false (eval iter X.env) (some (assign (.Name y py) X.env))) _ _ s
  have hyp2 : tDc wi g tt tk tv (own.map (·.2)) σ H (fun x G => gName i x σ G D.nx) := hyp
  refine wpAny_bind (thn (dc_core (Qf := fun _ t => SP X ps D .next t) calm nd I walk ok bg bt bk bv plain hyp2 fun L C t m G J fin hn fo => ?_) fun _ t ht => wpAny_pure (wpAny_pure ht))
  show wpAny _ _ (assign (.Name y py) X.env (.ref L)) _ _ _
  refine wpAny_assign_Name (store_ok2 (v := V.ref L) J nd at_ (.inl loc) rfl (fun t2 J2 ⟨b, sb, hb⟩ => ?_) (.inr loc))
  obtain ⟨f0, f1, f2, f3, f4, f5⟩ := fo
  have away : C ≠ b := by
    rcases hb with z | z
    · exact z ▸ f1
    · exact fun e => f4 y b z e.symm
  exact ⟨m, hn.sameBut sb away, fun h3 sb3 => ⟨_, G, J2.turned (t' := t2.toks) (fun c o hc e => (sb3.2 c hc).trans e) f0 f1 f3 f4 f5, fin⟩⟩
end
end L2
namespace G
/-! ## decision diagrams: the mathematics -/
theorem or3 {P : Nat → Prop} {a b c p : Nat} (h : p = a ∨ p = b ∨ p = c) (ha : P a) (hb : P b) (hc : P c) : P p := by
  rcases h with e | e | e
  · rw [e]; exact ha
  · rw [e]; exact hb
  · rw [e]; exact hc
structure Nd where
  k : Nat
  lo : Nat
  hi : Nat
  deriving DecidableEq
def ndA (N : List Nd) (i : Nat) : Nd := N.getD i ⟨0, 0, 0⟩
theorem ndA_of {N : List Nd} {i : Nat} {n : Nd} (h : N[i]? = some n) : ndA N i = n := by unfold ndA; rw [List.getD_eq_getElem?_getD, h]; rfl
theorem nd_at {N : List Nd} {i : Nat} (h : i < N.length) : N[i]? = some (ndA N i) := by unfold ndA; rw [List.getD_eq_getElem?_getD, List.getElem?_eq_getElem h]; rfl
structure GoodN (N : List Nd) : Prop where
  n0 : N[0]? = some ⟨0, 0, 0⟩
  n1 : N[1]? = some ⟨0, 1, 1⟩
  lt : ∀ i n, 2 ≤ i → N[i]? = some n → n.lo < i ∧ n.hi < i ∧ n.lo ≠ n.hi
  ord : ∀ i n, 2 ≤ i → N[i]? = some n → ∀ c m, (c = n.lo ∨ c = n.hi) → 2 ≤ c → N[c]? = some m → n.k < m.k
  uniq : ∀ i j n, 2 ≤ i → 2 ≤ j → N[i]? = some n → N[j]? = some n → i = j
def evF (N : List Nd) (f : Nat → Bool) : Nat → Nat → Bool
  | 0, a => a == 1
  | n + 1, a => if a < 2 then a == 1 else evF N f n (if f (ndA N a).k = true then (ndA N a).hi else (ndA N a).lo)
def ev (N : List Nd) (a : Nat) (f : Nat → Bool) : Bool := evF N f a a
def setF (f : Nat → Bool) (k : Nat) (v : Bool) : Nat → Bool := fun j => if j = k then v else f j
/-- the variable at a is t at the least -/
def lvGe (N : List Nd) (t a : Nat) : Prop := ∀ m, 2 ≤ a → N[a]? = some m → t ≤ m.k
section
variable {N : List Nd}
theorem GoodN.two (G : GoodN N) : 2 ≤ N.length := (List.getElem?_eq_some_iff.mp G.n1).1
theorem evF_enough (G : GoodN N) (f : Nat → Bool) : ∀ n m a, a ≤ n → a ≤ m → a < N.length → evF N f n a = evF N f m a
  | 0, 0, _, _, _, _ => rfl
  | 0, m + 1, a, h, _, _ => by
    show _ = if a < 2 then a == 1 else _
    rw [if_pos (by omega)]; rfl
  | n + 1, 0, a, _, h, _ => by
    show (if a < 2 then a == 1 else _) = _
    rw [if_pos (by omega)]; rfl
  | n + 1, m + 1, a, h1, h2, hl => by
    show (if a < 2 then a == 1 else _) = if a < 2 then a == 1 else _
    by_cases h : a < 2
    · rw [if_pos h, if_pos h]
    · rw [if_neg h, if_neg h]
      obtain ⟨l1, l2, _⟩ := G.lt a _ (by omega) (nd_at hl)
      refine evF_enough G f n m _ ?_ ?_ ?_ <;> (split <;> omega)
theorem ev_lt2 {a : Nat} {f : Nat → Bool} (h : a < 2) : ev N a f = (a == 1) := by
  unfold ev
  cases a with
  | zero => rfl
  | succ a => show (if a + 1 < 2 then _ else _) = _; rw [if_pos h]
theorem ev_node (G : GoodN N) {a : Nat} {n : Nd} (h2 : 2 ≤ a) (h : N[a]? = some n) (f : Nat → Bool) : ev N a f = ev N (if f n.k = true then n.hi else n.lo) f := by
  have hl := (List.getElem?_eq_some_iff.mp h).1
  obtain ⟨l1, l2, _⟩ := G.lt a n h2 h
  obtain ⟨b, rfl⟩ : ∃ b, a = b + 1 := ⟨a - 1, by omega⟩
  unfold ev
  show (if b + 1 < 2 then _ else evF N f b (if f (ndA N (b + 1)).k = true then (ndA N (b + 1)).hi else (ndA N (b + 1)).lo)) = _
  rw [if_neg (by omega), ndA_of h]
  refine evF_enough G f _ _ _ ?_ (Nat.le_refl _) ?_ <;> (split <;> omega)
theorem ev_indep (G : GoodN N) (t : Nat) : ∀ a, a < N.length → lvGe N t a → ∀ f g : Nat → Bool, (∀ k, t ≤ k → f k = g k) → ev N a f = ev N a g := by
  intro a
  induction a using Nat.strongRecOn with
  | _ a ih =>
    intro hl hv f g e
    by_cases h : a < 2
    · rw [ev_lt2 h, ev_lt2 h]
    · have hn := nd_at hl
      obtain ⟨l1, l2, _⟩ := G.lt a _ (by omega) hn
      have hk := hv _ (by omega) hn
      rw [ev_node G (by omega) hn, ev_node G (by omega) hn, e _ hk]
      have go : ∀ c, c = (ndA N a).lo ∨ c = (ndA N a).hi → ev N c f = ev N c g := fun c hc => by
        have hca : c < a := by rcases hc with z | z <;> omega
        refine ih c hca (by omega) (fun m h2 hm => ?_) f g e
        have := G.ord a _ (by omega) hn c m hc h2 hm
        omega
      by_cases z : g (ndA N a).k = true
      · rw [if_pos z]; exact go _ (.inr rfl)
      · rw [if_neg z]; exact go _ (.inl rfl)
theorem ev_set (G : GoodN N) {b k : Nat} {v : Bool} (hl : b < N.length) (hv : lvGe N (k + 1) b) (f : Nat → Bool) : ev N b (setF f k v) = ev N b f :=
  ev_indep G (k + 1) b hl hv _ _ fun j hj => by unfold setF; rw [if_neg (by omega)]
theorem kid_lv (G : GoodN N) {a c : Nat} {n : Nd} (h2 : 2 ≤ a) (h : N[a]? = some n) (hc : c = n.lo ∨ c = n.hi) : c < N.length ∧ lvGe N (n.k + 1) c := by
  have hl := (List.getElem?_eq_some_iff.mp h).1
  obtain ⟨l1, l2, _⟩ := G.lt a n h2 h
  exact ⟨by rcases hc with z | z <;> omega, fun m hm1 hm => G.ord a n h2 h c m hc hm1 hm⟩
theorem ev_kid (G : GoodN N) {a : Nat} {n : Nd} (h2 : 2 ≤ a) (h : N[a]? = some n) (v : Bool) (f : Nat → Bool) : ev N (if v = true then n.hi else n.lo) f = ev N a (setF f n.k v) := by
  rw [ev_node G h2 h]
  have e : setF f n.k v n.k = v := by unfold setF; rw [if_pos rfl]
  rw [e]
  obtain ⟨k1, k2⟩ := kid_lv G h2 h (c := if v = true then n.hi else n.lo) (by cases v; exact .inl rfl; exact .inr rfl)
  exact (ev_set G k1 k2 f).symm
theorem canon (G : GoodN N) : ∀ n a b, a < n → b < n → a < N.length → b < N.length → (∀ f, ev N a f = ev N b f) → a = b
  | 0, _, _, h, _, _, _, _ => absurd h (Nat.not_lt_zero _)
  | n + 1, a, b, ha, hb, hal, hbl, h => by
    have ih := canon G n
    have differ : ∀ a b, a < n + 1 → 2 ≤ a → a < N.length → b < N.length → lvGe N ((ndA N a).k + 1) b → (∀ f, ev N a f = ev N b f) → False := fun a b ha h2 hal hbl hv e => by
      have hn := nd_at hal
      obtain ⟨l1, l2, l3⟩ := G.lt a _ h2 hn
      refine l3 (ih _ _ (by omega) (by omega) (by omega) (by omega) fun f => ?_)
      have e1 := ev_kid G h2 hn false f
      have e2 := ev_kid G h2 hn true f
      rw [e, ev_set G hbl hv] at e1 e2
      exact e1.trans e2.symm
    by_cases a2 : a < 2
    · by_cases b2 : b < 2
      · have := h fun _ => false
        rw [ev_lt2 a2, ev_lt2 b2] at this
        obtain rfl | rfl : a = 0 ∨ a = 1 := by omega
        · obtain rfl | rfl : b = 0 ∨ b = 1 := by omega
          · rfl
          · cases this
        · obtain rfl | rfl : b = 0 ∨ b = 1 := by omega
          · cases this
          · rfl
      · exact (differ b a hb (by omega) hbl hal (fun m h2 => absurd h2 (by omega)) fun f => (h f).symm).elim
    · by_cases b2 : b < 2
      · exact (differ a b ha (by omega) hal hbl (fun m h2 => absurd h2 (by omega)) h).elim
      · have hna := nd_at hal
        have hnb := nd_at hbl
        rcases Nat.lt_trichotomy (ndA N a).k (ndA N b).k with z | z | z
        · exact (differ a b ha (by omega) hal hbl (fun m _ hm => by rw [hnb] at hm; cases hm; omega) h).elim
        · obtain ⟨a1, a3, _⟩ := G.lt a _ (by omega) hna
          obtain ⟨b1, b3, _⟩ := G.lt b _ (by omega) hnb
          have eL : (ndA N a).lo = (ndA N b).lo := ih _ _ (by omega) (by omega) (by omega) (by omega) fun f => by
            have e1 := ev_kid G (by omega) hna false f
            have e2 := ev_kid G (by omega) hnb false f
            rw [h, z] at e1
            exact e1.trans e2.symm
          have eH : (ndA N a).hi = (ndA N b).hi := ih _ _ (by omega) (by omega) (by omega) (by omega) fun f => by
            have e1 := ev_kid G (by omega) hna true f
            have e2 := ev_kid G (by omega) hnb true f
            rw [h, z] at e1
            exact e1.trans e2.symm
          refine G.uniq a b (ndA N b) (by omega) (by omega) ?_ hnb
          rw [hna]
          congr 1
          generalize ndA N a = x at *
          generalize ndA N b = y at *
          cases x; cases y
          simp only at z eL eH
          rw [z, eL, eH]
        · exact (differ b a hb (by omega) hbl hal (fun m _ hm => by rw [hna] at hm; cases hm; omega) fun f => (h f).symm).elim
theorem canon' (G : GoodN N) {a b : Nat} (ha : a < N.length) (hb : b < N.length) (h : ∀ f, ev N a f = ev N b f) : a = b := canon G N.length a b ha hb ha hb h
theorem lv_of_indep (G : GoodN N) {r t : Nat} (hr : r < N.length) (h : ∀ f g : Nat → Bool, (∀ k, t ≤ k → f k = g k) → ev N r f = ev N r g) : lvGe N t r := by
  intro m h2 hm
  refine Decidable.byContradiction fun z => ?_
  obtain ⟨l1, l2, l3⟩ := G.lt r m h2 hm
  refine l3 (canon' G (by omega) (by omega) fun f => ?_)
  have e1 := ev_kid G h2 hm false f
  have e2 := ev_kid G h2 hm true f
  refine e1.trans ((h _ _ fun k hk => ?_).trans e2.symm)
  unfold setF
  rw [if_neg (by omega), if_neg (by omega)]
end
/-! ### one node more -/
theorem pre_at {N N' : List Nd} (p : N <+: N') {a : Nat} (h : a < N.length) : N'[a]? = N[a]? := by
  obtain ⟨l, rfl⟩ := p
  rw [List.getElem?_append_left h]
theorem pre_nd {N N' : List Nd} (p : N <+: N') {a : Nat} (h : a < N.length) : ndA N' a = ndA N a := by
  unfold ndA; rw [List.getD_eq_getElem?_getD, List.getD_eq_getElem?_getD, pre_at p h]
theorem pre_len {N N' : List Nd} (p : N <+: N') : N.length ≤ N'.length := p.length_le
theorem pre_lv {N N' : List Nd} (p : N <+: N') {a t : Nat} (h : a < N.length) : lvGe N' t a ↔ lvGe N t a := by unfold lvGe; rw [pre_at p h]
theorem pre_evF {N N' : List Nd} (G : GoodN N) (p : N <+: N') (f : Nat → Bool) : ∀ n a, a < N.length → evF N' f n a = evF N f n a
  | 0, _, _ => rfl
  | n + 1, a, h => by
    show (if a < 2 then a == 1 else evF N' f n (if f (ndA N' a).k = true then (ndA N' a).hi else (ndA N' a).lo)) = if a < 2 then a == 1 else evF N f n (if f (ndA N a).k = true then (ndA N a).hi else (ndA N a).lo)
    rw [pre_nd p h]
    by_cases z : a < 2
    · rw [if_pos z, if_pos z]
    · rw [if_neg z, if_neg z]
      obtain ⟨l1, l2, _⟩ := G.lt a _ (by omega) (nd_at h)
      refine pre_evF G p f n _ ?_
      split <;> omega
theorem pre_ev {N N' : List Nd} (G : GoodN N) (p : N <+: N') {a : Nat} (h : a < N.length) (f : Nat → Bool) : ev N' a f = ev N a f := pre_evF G p f a a h
theorem good_snoc {N : List Nd} (G : GoodN N) {n : Nd} (h1 : n.lo < N.length) (h2 : n.hi < N.length) (hne : n.lo ≠ n.hi) (v1 : lvGe N (n.k + 1) n.lo) (v2 : lvGe N (n.k + 1) n.hi) (hno : ∀ i, 2 ≤ i → N[i]? ≠ some n) : GoodN (N ++ [n]) := by
  have p : N <+: N ++ [n] := List.prefix_append _ _
  have two := G.two
  have cs : ∀ {i m}, (N ++ [n])[i]? = some m → (i < N.length ∧ N[i]? = some m) ∨ (i = N.length ∧ m = n) := fun {i m} h => by
    by_cases hi : i < N.length
    · rw [List.getElem?_append_left hi] at h; exact .inl ⟨hi, h⟩
    · have hl := (List.getElem?_eq_some_iff.mp h).1
      rw [List.length_append] at hl
      have : i < N.length + 1 := hl
      obtain rfl : i = N.length := by omega
      rw [List.getElem?_append_right (Nat.le_refl _), Nat.sub_self] at h
      cases h
      exact .inr ⟨rfl, rfl⟩
  refine ⟨by rw [pre_at p (by omega)]; exact G.n0, by rw [pre_at p (by omega)]; exact G.n1, fun i m hi hm => ?_, fun i m hi hm c q hc h2c hq => ?_, fun i j m hi hj hmi hmj => ?_⟩
  · rcases cs hm with ⟨z, y⟩ | ⟨rfl, rfl⟩
    · exact G.lt i m hi y
    · exact ⟨h1, h2, hne⟩
  · rcases cs hm with ⟨z, y⟩ | ⟨rfl, rfl⟩
    · have := G.lt i m hi y
      rw [pre_at p (by rcases hc with e | e <;> omega)] at hq
      exact G.ord i m hi y c q hc h2c hq
    · rw [pre_at p (by rcases hc with e | e <;> omega)] at hq
      rcases hc with e | e
      · subst e; exact v1 q h2c hq
      · subst e; exact v2 q h2c hq
  · rcases cs hmi with ⟨z, y⟩ | ⟨e1, e2⟩ <;> rcases cs hmj with ⟨z', y'⟩ | ⟨e1', e2'⟩
    · exact G.uniq i j m hi hj y y'
    · subst e2'; exact absurd y (hno i hi)
    · subst e2; exact absurd y' (hno j hj)
    · omega
/-! ### choices -/
structure Tsk where
  c : Nat
  a : Nat
  b : Nat
  deriving DecidableEq
def okT (N : List Nd) (τ : Tsk) : Prop := τ.c < N.length ∧ τ.a < N.length ∧ τ.b < N.length
def tF (N : List Nd) (τ : Tsk) (f : Nat → Bool) : Bool := if ev N τ.c f = true then ev N τ.a f else ev N τ.b f
def lvT (N : List Nd) (t : Nat) (τ : Tsk) : Prop := lvGe N t τ.c ∧ lvGe N t τ.a ∧ lvGe N t τ.b
def halfA (N : List Nd) (a t : Nat) (v : Bool) : Nat := if a < 2 ∨ (ndA N a).k ≠ t then a else if v = true then (ndA N a).hi else (ndA N a).lo
def halfT (N : List Nd) (τ : Tsk) (t : Nat) (v : Bool) : Tsk := ⟨halfA N τ.c t v, halfA N τ.a t v, halfA N τ.b t v⟩
def IsTop (N : List Nd) (t : Nat) (τ : Tsk) : Prop := (∃ p, (p = τ.c ∨ p = τ.a ∨ p = τ.b) ∧ 2 ≤ p ∧ (ndA N p).k = t) ∧ lvT N t τ
def knB (τ : Tsk) (look : Option Nat) : Option Nat :=
  if τ.c = 1 ∨ τ.a = τ.b then some τ.a else if τ.c = 0 then some τ.b else if (τ.a = 1 ∨ τ.a = τ.c) ∧ (τ.b = 0 ∨ τ.b = τ.c) then some τ.c else look
def MemOk (N : List Nd) (M : Tsk → Option Nat) : Prop := ∀ τ r, M τ = some r → okT N τ ∧ r < N.length ∧ ∀ f, ev N r f = tF N τ f
section
variable {N : List Nd}
theorem half_ok (G : GoodN N) {a t : Nat} {v : Bool} (hl : a < N.length) (hv : lvGe N t a) : halfA N a t v < N.length ∧ lvGe N (t + 1) (halfA N a t v) ∧ ∀ f, ev N (halfA N a t v) f = ev N a (setF f t v) := by
  unfold halfA
  by_cases h : a < 2 ∨ (ndA N a).k ≠ t
  · rw [if_pos h]
    have hv1 : lvGe N (t + 1) a := fun m h2 hm => by
      have := hv m h2 hm
      have e := ndA_of hm
      rcases h with z | z
      · omega
      · rw [e] at z; omega
    exact ⟨hl, hv1, fun f => (ev_set G hl hv1 f).symm⟩
  · rw [if_neg h]
    have h2 : 2 ≤ a := Nat.le_of_not_lt fun z => h (.inl z)
    have hk : (ndA N a).k = t := Decidable.byContradiction fun z => h (.inr z)
    have hn := nd_at hl
    obtain ⟨k1, k2⟩ := kid_lv G h2 hn (c := if v = true then (ndA N a).hi else (ndA N a).lo) (by cases v; exact .inl rfl; exact .inr rfl)
    rw [hk] at k2
    refine ⟨k1, k2, fun f => ?_⟩
    have := ev_kid G h2 hn v f
    rw [hk] at this
    exact this
theorem halfT_ok (G : GoodN N) {τ : Tsk} {t : Nat} {v : Bool} (hl : okT N τ) (hv : lvT N t τ) : okT N (halfT N τ t v) ∧ lvT N (t + 1) (halfT N τ t v) ∧ ∀ f, tF N (halfT N τ t v) f = tF N τ (setF f t v) := by
  obtain ⟨c1, c2, c3⟩ := half_ok G (v := v) hl.1 hv.1
  obtain ⟨a1, a2, a3⟩ := half_ok G (v := v) hl.2.1 hv.2.1
  obtain ⟨b1, b2, b3⟩ := half_ok G (v := v) hl.2.2 hv.2.2
  refine ⟨⟨c1, a1, b1⟩, ⟨c2, a2, b2⟩, fun f => ?_⟩
  show (if ev N (halfA N τ.c t v) f = true then ev N (halfA N τ.a t v) f else ev N (halfA N τ.b t v) f) = _
  rw [c3, a3, b3]; rfl
theorem kn_ok {τ : Tsk} {look : Option Nat} (hl : okT N τ) (hm : ∀ r, look = some r → r < N.length ∧ ∀ f, ev N r f = tF N τ f) : ∀ r, knB τ look = some r → r < N.length ∧ ∀ f, ev N r f = tF N τ f := by
  intro r h
  unfold knB at h
  by_cases h1 : τ.c = 1 ∨ τ.a = τ.b
  · rw [if_pos h1] at h
    cases h
    refine ⟨hl.2.1, fun f => ?_⟩
    unfold tF
    rcases h1 with z | z
    · rw [z, ev_lt2 (a := 1) (by decide), if_pos (show ((1 : Nat) == 1) = true by decide)]
    · rw [← z]; by_cases y : ev N τ.c f = true
      · rw [if_pos y]
      · rw [if_neg y]
  · rw [if_neg h1] at h
    by_cases h2 : τ.c = 0
    · rw [if_pos h2] at h
      cases h
      refine ⟨hl.2.2, fun f => ?_⟩
      unfold tF
      rw [h2, ev_lt2 (a := 0) (by decide), if_neg (show ¬ ((0 : Nat) == 1) = true by decide)]
    · rw [if_neg h2] at h
      by_cases h3 : (τ.a = 1 ∨ τ.a = τ.c) ∧ (τ.b = 0 ∨ τ.b = τ.c)
      · rw [if_pos h3] at h
        cases h
        refine ⟨hl.1, fun f => ?_⟩
        unfold tF
        by_cases y : ev N τ.c f = true
        · rw [if_pos y]
          rcases h3.1 with z | z
          · rw [z, ev_lt2 (a := 1) (by decide), y]; rfl
          · rw [z]
        · rw [if_neg y]
          rcases h3.2 with z | z
          · rw [z, ev_lt2 (a := 0) (by decide)]
            cases e : ev N τ.c f with
            | true => exact absurd e y
            | false => rfl
          · rw [z]
      · rw [if_neg h3] at h
        exact hm r h
theorem kn_none {τ : Tsk} {look : Option Nat} (h : knB τ look = none) : 2 ≤ τ.c ∧ look = none := by
  unfold knB at h
  by_cases h1 : τ.c = 1 ∨ τ.a = τ.b
  · rw [if_pos h1] at h; cases h
  · rw [if_neg h1] at h
    by_cases h2 : τ.c = 0
    · rw [if_pos h2] at h; cases h
    · rw [if_neg h2] at h
      by_cases h3 : (τ.a = 1 ∨ τ.a = τ.c) ∧ (τ.b = 0 ∨ τ.b = τ.c)
      · rw [if_pos h3] at h; cases h
      · rw [if_neg h3] at h
        exact ⟨by omega, h⟩
theorem pre_tF {N' : List Nd} (G : GoodN N) (p : N <+: N') {τ : Tsk} (h : okT N τ) (f : Nat → Bool) : tF N' τ f = tF N τ f := by unfold tF; rw [pre_ev G p h.1, pre_ev G p h.2.1, pre_ev G p h.2.2]
theorem okT.pre {N' : List Nd} (p : N <+: N') {τ : Tsk} (h : okT N τ) : okT N' τ := by have := pre_len p; exact ⟨by have := h.1; omega, by have := h.2.1; omega, by have := h.2.2; omega⟩
theorem MemOk.pre {N' : List Nd} {M : Tsk → Option Nat} (G : GoodN N) (p : N <+: N') (h : MemOk N M) : MemOk N' M := fun τ r e => by
  obtain ⟨h1, h2, h3⟩ := h τ r e
  exact ⟨h1.pre p, Nat.lt_of_lt_of_le h2 (pre_len p), fun f => by rw [pre_ev G p h2, pre_tF G p h1]; exact h3 f⟩
/-- what stands at a choice's top is a node of its halves' functions -/
theorem node_choice {N : List Nd} (G : GoodN N) {τ : Tsk} {t lo hi : Nat} (hl : okT N τ) (hv : lvT N t τ) (h1 : lo < N.length ∧ ∀ f, ev N lo f = tF N (halfT N τ t false) f) (h2 : hi < N.length ∧ ∀ f, ev N hi f = tF N (halfT N τ t true) f) :
    lvGe N (t + 1) lo ∧ lvGe N (t + 1) hi ∧ ∀ f, (if f t = true then ev N hi f else ev N lo f) = tF N τ f := by
  have lv : ∀ v r, r < N.length → (∀ f, ev N r f = tF N (halfT N τ t v) f) → lvGe N (t + 1) r := fun v r hr e => lv_of_indep G hr fun f g h => by
    obtain ⟨o, l, _⟩ := halfT_ok G (v := v) hl hv
    rw [e, e]
    unfold tF
    rw [ev_indep G _ _ o.1 l.1 f g h, ev_indep G _ _ o.2.1 l.2.1 f g h, ev_indep G _ _ o.2.2 l.2.2 f g h]
  refine ⟨lv false lo h1.1 h1.2, lv true hi h2.1 h2.2, fun f => ?_⟩
  obtain ⟨_, _, e0⟩ := halfT_ok G (v := false) hl hv
  obtain ⟨_, _, e1⟩ := halfT_ok G (v := true) hl hv
  have same : ∀ v, f t = v → tF N τ (setF f t v) = tF N τ f := fun v e => by
    have : setF f t v = f := by
      funext j
      unfold setF
      by_cases z : j = t
      · rw [if_pos z, z, e]
      · rw [if_neg z]
    rw [this]
  by_cases z : f t = true
  · rw [if_pos z, h2.2, e1, same true z]
  · rw [if_neg z, h1.2, e0, same false (by cases e : f t with | true => exact absurd e z | false => rfl)]
end
/-! ### the stack of choices -/
def wT : Nat → Nat
  | 0 => 1
  | r + 1 => 2 * wT r + 3
theorem wT_pos : ∀ r, 1 ≤ wT r
  | 0 => Nat.le_refl _
  | r + 1 => by show 1 ≤ 2 * wT r + 3; omega
theorem wT_mono : ∀ {r s : Nat}, r ≤ s → wT r ≤ wT s
  | 0, s, _ => wT_pos s
  | r + 1, 0, h => absurd h (Nat.not_succ_le_zero _)
  | r + 1, s + 1, h => by
    have := wT_mono (Nat.le_of_succ_le_succ h)
    show 2 * wT r + 3 ≤ 2 * wT s + 3
    omega
/-- how many variables from t on -/
def cntV (vs : List Nat) (t : Nat) : Nat := (vs.filter fun v => decide (t ≤ v)).length
theorem cnt_next {vs : List Nat} {t u : Nat} (hu : u ∈ vs) (h : t ≤ u) : cntV vs (u + 1) + 1 ≤ cntV vs t := by
  unfold cntV
  induction vs with
  | nil => cases hu
  | cons x l ih =>
    rw [List.filter_cons, List.filter_cons]
    by_cases hx : u + 1 ≤ x
    · rw [decide_eq_true hx, decide_eq_true (show t ≤ x by omega), if_pos rfl, if_pos rfl, List.length_cons, List.length_cons]
      rcases List.mem_cons.mp hu with e | e
      · omega
      · have := ih e; omega
    · rw [decide_eq_false hx, if_neg Bool.false_ne_true]
      by_cases ht : t ≤ x
      · rw [decide_eq_true ht, if_pos rfl, List.length_cons]
        have mono : (l.filter fun v => decide (u + 1 ≤ v)).length ≤ (l.filter fun v => decide (t ≤ v)).length := by
          clear ih hu
          induction l with
          | nil => exact Nat.le_refl _
          | cons y l ih2 =>
            rw [List.filter_cons, List.filter_cons]
            by_cases hy : u + 1 ≤ y
            · rw [decide_eq_true hy, decide_eq_true (show t ≤ y by omega), if_pos rfl, if_pos rfl, List.length_cons, List.length_cons]; omega
            · rw [decide_eq_false hy, if_neg Bool.false_ne_true]
              by_cases hz : t ≤ y
              · rw [decide_eq_true hz, if_pos rfl, List.length_cons]; omega
              · rw [decide_eq_false hz, if_neg Bool.false_ne_true]; exact ih2
        omega
      · rw [decide_eq_false ht, if_neg Bool.false_ne_true]
        rcases List.mem_cons.mp hu with e | e
        · omega
        · exact ih e
theorem cnt_le (vs : List Nat) (t : Nat) : cntV vs t ≤ vs.length := List.length_filter_le _ _
def VarsIn (vs : List Nat) (N : List Nd) : Prop := ∀ i n, 2 ≤ i → N[i]? = some n → n.k ∈ vs
def Kn (M : Tsk → Option Nat) (τ : Tsk) : Prop := ∃ r, knB τ (M τ) = some r
/-- what a task on the stack still costs -/
def Cost (vs : List Nat) (N : List Nd) (M : Tsk → Option Nat) (S : List Tsk) (i : Nat) (τ : Tsk) (m : Nat) : Prop :=
  Kn M τ ∨ (∃ t, lvT N t τ ∧ wT (cntV vs t) ≤ m) ∨ (2 ≤ m ∧ ∃ t, IsTop N t τ ∧ ∀ v, Kn M (halfT N τ t v) ∨ ∃ j, i < j ∧ S[j]? = some (halfT N τ t v))
structure SInv (vs : List Nat) (N : List Nd) (M : Tsk → Option Nat) (goal : Tsk) (S : List Tsk) (ws : List Nat) : Prop where
  len : S.length = ws.length
  one : ∀ m ∈ ws, 1 ≤ m
  ok : ∀ τ ∈ S, okT N τ
  cost : ∀ (i : Nat) (τ : Tsk) (m : Nat), S[i]? = some τ → ws[i]? = some m → Cost vs N M S i τ m
  goal : Kn M goal ∨ goal ∈ S
theorem IsTop.uniq {N : List Nd} {τ : Tsk} {t u : Nat} (h : IsTop N t τ) (g : IsTop N u τ) (hl : okT N τ) : t = u := by
  have le : ∀ {t u}, IsTop N t τ → IsTop N u τ → t ≤ u := fun {t u} h g => by
    obtain ⟨⟨p, hp, p2, pk⟩, _⟩ := g
    have hpl : p < N.length := or3 (P := fun q => q < N.length) hp hl.1 hl.2.1 hl.2.2
    have : lvGe N t p := or3 (P := fun q => lvGe N t q) hp h.2.1 h.2.2.1 h.2.2.2
    have := this _ p2 (nd_at hpl)
    omega
  exact Nat.le_antisymm (le h g) (le g h)
theorem IsTop.mem {vs : List Nat} {N : List Nd} {τ : Tsk} {t : Nat} (h : IsTop N t τ) (hl : okT N τ) (hv : VarsIn vs N) : t ∈ vs := by
  obtain ⟨⟨p, hp, p2, pk⟩, _⟩ := h
  have hpl : p < N.length := or3 (P := fun q => q < N.length) hp hl.1 hl.2.1 hl.2.2
  rw [← pk]
  exact hv p _ p2 (nd_at hpl)
theorem IsTop.ge {N : List Nd} {τ : Tsk} {t u : Nat} (h : IsTop N t τ) (hl : okT N τ) (g : lvT N u τ) : u ≤ t := by
  obtain ⟨⟨p, hp, p2, pk⟩, _⟩ := h
  have hpl : p < N.length := or3 (P := fun q => q < N.length) hp hl.1 hl.2.1 hl.2.2
  have : lvGe N u p := or3 (P := fun q => lvGe N u q) hp g.1 g.2.1 g.2.2
  have := this _ p2 (nd_at hpl)
  omega
theorem SInv.start {vs : List Nat} {N : List Nd} {M : Tsk → Option Nat} {goal : Tsk} (h : okT N goal) : SInv vs N M goal [goal] [wT vs.length] := by
  refine ⟨rfl, fun m hm => ?_, fun τ hτ => ?_, fun i τ m hi hm => ?_, .inr (List.mem_singleton.mpr rfl)⟩
  · rw [List.mem_singleton.mp hm]; exact wT_pos _
  · rw [List.mem_singleton.mp hτ]; exact h
  · cases i with
    | zero => cases hi; cases hm; exact .inr (.inl ⟨0, ⟨fun _ _ _ => Nat.zero_le _, fun _ _ _ => Nat.zero_le _, fun _ _ _ => Nat.zero_le _⟩, wT_mono (cnt_le vs 0)⟩)
    | succ i => cases hi
theorem SInv.pop {vs : List Nat} {N : List Nd} {M : Tsk → Option Nat} {goal τ : Tsk} {S : List Tsk} {ws : List Nat} {m : Nat} (I : SInv vs N M goal (S ++ [τ]) (ws ++ [m])) (hk : Kn M τ) : SInv vs N M goal S ws := by
  have hl : S.length = ws.length := by have := I.len; rw [List.length_append, List.length_append] at this; exact Nat.succ.inj this
  refine ⟨hl, fun m h => I.one m (List.mem_append_left _ h), fun τ h => I.ok τ (List.mem_append_left _ h), fun i σ m' hi hm => ?_, ?_⟩
  · have hil := (List.getElem?_eq_some_iff.mp hi).1
    rcases I.cost i σ m' (by rw [List.getElem?_append_left hil]; exact hi) (by rw [List.getElem?_append_left (by omega)]; exact hm) with z | z | ⟨z1, t, z2, z3⟩
    · exact .inl z
    · exact .inr (.inl z)
    · refine .inr (.inr ⟨z1, t, z2, fun v => ?_⟩)
      rcases z3 v with y | ⟨j, hj, y⟩
      · exact .inl y
      · by_cases hjl : j < S.length
        · rw [List.getElem?_append_left hjl] at y; exact .inr ⟨j, hj, y⟩
        · have := (List.getElem?_eq_some_iff.mp y).1
          rw [List.length_append] at this
          have : j < S.length + 1 := this
          obtain rfl : j = S.length := by omega
          rw [List.getElem?_append_right (Nat.le_refl _), Nat.sub_self] at y
          cases y
          exact .inl hk
  · rcases I.goal with z | z
    · exact .inl z
    · rcases List.mem_append.mp z with y | y
      · exact .inr y
      · rw [List.mem_singleton.mp y]; exact .inl hk
theorem SInv.push {vs : List Nat} {N : List Nd} {M : Tsk → Option Nat} {goal τ : Tsk} {S : List Tsk} {ws : List Nat} {m t : Nat} {op : List Tsk} (G : GoodN N) (hV : VarsIn vs N) (I : SInv vs N M goal (S ++ [τ]) (ws ++ [m])) (hk : ¬ Kn M τ) (ht : IsTop N t τ)
    (ho : ∀ v, Kn M (halfT N τ t v) ∨ halfT N τ t v ∈ op) (hop : ∀ σ ∈ op, ∃ v, σ = halfT N τ t v ∧ ¬ Kn M σ) (hne : op ≠ []) (h2 : op.length ≤ 2) : ∃ ws', SInv vs N M goal (S ++ [τ] ++ op) ws' ∧ ws'.sum < (ws ++ [m]).sum := by
  have hl : S.length = ws.length := by have := I.len; rw [List.length_append, List.length_append] at this; exact Nat.succ.inj this
  have hτ := I.ok τ (List.mem_append_right _ (List.mem_singleton.mpr rfl))
  have htop : (S ++ [τ])[S.length]? = some τ := by rw [List.getElem?_append_right (Nat.le_refl _), Nat.sub_self]; rfl
  have hwm : (ws ++ [m])[S.length]? = some m := by rw [hl, List.getElem?_append_right (Nat.le_refl _), Nat.sub_self]; rfl
  have hm : 2 * wT (cntV vs (t + 1)) + 3 ≤ m := by
    rcases I.cost _ τ m htop hwm with z | ⟨u, z1, z2⟩ | ⟨z1, u, z2, z3⟩
    · exact absurd z hk
    · have h1 := ht.ge hτ z1
      have h3 := cnt_next (t := u) (ht.mem hτ hV) h1
      have h4 := wT_mono h3
      have h5 : wT (cntV vs (t + 1) + 1) = 2 * wT (cntV vs (t + 1)) + 3 := rfl
      omega
    · exfalso
      obtain ⟨σ, hσ⟩ := List.exists_mem_of_ne_nil op hne
      obtain ⟨v, rfl, hnk⟩ := hop σ hσ
      rw [ht.uniq z2 hτ] at hnk
      rcases z3 v with y | ⟨j, hj, y⟩
      · exact hnk y
      · have := (List.getElem?_eq_some_iff.mp y).1
        rw [List.length_append] at this
        have : j < S.length + 1 := this
        omega
  refine ⟨ws ++ [2] ++ op.map fun _ => wT (cntV vs (t + 1)), ⟨by simp [hl], fun x hx => ?_, fun σ hσ => ?_, fun i σ x hi hx => ?_, ?_⟩, ?_⟩
  · rcases List.mem_append.mp hx with z | z
    · rcases List.mem_append.mp z with y | y
      · exact I.one x (List.mem_append_left _ y)
      · rw [List.mem_singleton.mp y]; decide
    · obtain ⟨_, _, rfl⟩ := List.mem_map.mp z
      exact wT_pos _
  · rcases List.mem_append.mp hσ with z | z
    · exact I.ok σ z
    · obtain ⟨v, rfl, _⟩ := hop σ z
      exact (halfT_ok G hτ ht.2).1
  · have hil := (List.getElem?_eq_some_iff.mp hi).1
    by_cases h1 : i < S.length
    · rw [List.append_assoc, List.getElem?_append_left h1] at hi
      rw [List.append_assoc, List.getElem?_append_left (by omega)] at hx
      rcases I.cost i σ x (by rw [List.getElem?_append_left h1]; exact hi) (by rw [List.getElem?_append_left (by omega)]; exact hx) with z | z | ⟨z1, u, z2, z3⟩
      · exact .inl z
      · exact .inr (.inl z)
      · refine .inr (.inr ⟨z1, u, z2, fun v => ?_⟩)
        rcases z3 v with y | ⟨j, hj, y⟩
        · exact .inl y
        · exact .inr ⟨j, hj, by rw [List.getElem?_append_left (List.getElem?_eq_some_iff.mp y).1]; exact y⟩
    · by_cases h3 : i = S.length
      · subst h3
        rw [List.getElem?_append_left (by rw [List.length_append]; show _ < _ + 1; omega), htop] at hi
        cases hi
        rw [List.append_assoc, hl, List.getElem?_append_right (Nat.le_refl _), Nat.sub_self] at hx
        cases hx
        refine .inr (.inr ⟨Nat.le_refl _, t, ht, fun v => ?_⟩)
        rcases ho v with y | y
        · exact .inl y
        · obtain ⟨j, hj, e⟩ := List.getElem_of_mem y
          refine .inr ⟨S.length + 1 + j, by omega, ?_⟩
          have e1 : (S ++ [τ]).length = S.length + 1 := by rw [List.length_append]; rfl
          rw [List.getElem?_append_right (by omega), e1, show S.length + 1 + j - (S.length + 1) = j by omega, List.getElem?_eq_getElem hj, e]
      · have e1 : (S ++ [τ]).length = S.length + 1 := by rw [List.length_append]; rfl
        have e2 : (ws ++ [2]).length = S.length + 1 := by rw [List.length_append, ← hl]; rfl
        rw [List.getElem?_append_right (by omega)] at hi hx
        have hmem := List.mem_of_getElem? hi
        obtain ⟨v, rfl, _⟩ := hop σ hmem
        obtain ⟨_, _, rfl⟩ := List.mem_map.mp (List.mem_of_getElem? hx)
        exact .inr (.inl ⟨t + 1, (halfT_ok G hτ ht.2).2.1, Nat.le_refl _⟩)
  · rcases I.goal with z | z
    · exact .inl z
    · exact .inr (List.mem_append_left _ z)
  · have e : (op.map fun _ => wT (cntV vs (t + 1))).sum ≤ 2 * wT (cntV vs (t + 1)) := by
      have : ∀ l : List Tsk, (l.map fun _ => wT (cntV vs (t + 1))).sum = l.length * wT (cntV vs (t + 1)) := fun l => by
        induction l with
        | nil => simp
        | cons x l ih => rw [List.map_cons, List.sum_cons, ih, List.length_cons, Nat.succ_mul]; omega
      rw [this]
      exact Nat.mul_le_mul_right _ h2
    rw [List.sum_append, List.sum_append, List.sum_append]
    simp only [List.sum_cons, List.sum_nil]
    omega
theorem Kn.more {M M' : Tsk → Option Nat} (h : ∀ τ r, M τ = some r → M' τ = some r) {τ : Tsk} (k : Kn M τ) : Kn M' τ := by
  obtain ⟨r, e⟩ := k
  unfold Kn
  cases e2 : knB τ (M' τ) with
  | some r2 => exact ⟨r2, rfl⟩
  | none =>
    exfalso
    have := (kn_none e2).2
    cases e3 : M τ with
    | some q => rw [h _ _ e3] at this; cases this
    | none => rw [e3, ← this, e2] at e; cases e
theorem SInv.done {vs : List Nat} {N N' : List Nd} {M M' : Tsk → Option Nat} {goal τ : Tsk} {S : List Tsk} {ws : List Nat} {m t : Nat} (hV : VarsIn vs N) (I : SInv vs N M goal (S ++ [τ]) (ws ++ [m])) (hk : ¬ Kn M τ) (ht : IsTop N t τ)
    (p : N <+: N') (hM : ∀ τ r, M τ = some r → M' τ = some r) (hk' : Kn M' τ) : SInv vs N' M' goal (S ++ [τ]) (ws ++ [1]) ∧ (ws ++ [1]).sum + 1 ≤ (ws ++ [m]).sum := by
  have hl : S.length = ws.length := by have := I.len; rw [List.length_append, List.length_append] at this; exact Nat.succ.inj this
  have hτ := I.ok τ (List.mem_append_right _ (List.mem_singleton.mpr rfl))
  have htop : (S ++ [τ])[S.length]? = some τ := by rw [List.getElem?_append_right (Nat.le_refl _), Nat.sub_self]; rfl
  have hwm : (ws ++ [m])[S.length]? = some m := by rw [hl, List.getElem?_append_right (Nat.le_refl _), Nat.sub_self]; rfl
  have hm : 2 ≤ m := by
    rcases I.cost _ τ m htop hwm with z | ⟨u, z1, z2⟩ | ⟨z1, _⟩
    · exact absurd z hk
    · have h1 := ht.ge hτ z1
      have h3 := cnt_next (t := u) (ht.mem hτ hV) h1
      have h4 := wT_mono h3
      have h5 : wT (cntV vs (t + 1) + 1) = 2 * wT (cntV vs (t + 1)) + 3 := rfl
      omega
    · exact z1
  have lvp : ∀ {σ u}, okT N σ → lvT N u σ → lvT N' u σ := fun {σ u} o h => ⟨(pre_lv p o.1).mpr h.1, (pre_lv p o.2.1).mpr h.2.1, (pre_lv p o.2.2).mpr h.2.2⟩
  have hfp : ∀ {a u v}, a < N.length → halfA N' a u v = halfA N a u v := fun {a u v} h => by unfold halfA; rw [pre_nd p h]
  have htp : ∀ {σ u v}, okT N σ → halfT N' σ u v = halfT N σ u v := fun {σ u v} o => by unfold halfT; rw [hfp o.1, hfp o.2.1, hfp o.2.2]
  refine ⟨⟨by rw [List.length_append, List.length_append, hl]; rfl, fun x hx => ?_, fun σ hσ => (I.ok σ hσ).pre p, fun i σ x hi hx => ?_, ?_⟩, ?_⟩
  · rcases List.mem_append.mp hx with z | z
    · exact I.one x (List.mem_append_left _ z)
    · rw [List.mem_singleton.mp z]; decide
  · have hil := (List.getElem?_eq_some_iff.mp hi).1
    rw [List.length_append] at hil
    have hil : i < S.length + 1 := hil
    by_cases h1 : i < S.length
    · rw [List.getElem?_append_left (by omega)] at hx
      have hσ := I.ok σ (List.mem_of_getElem? hi)
      rcases I.cost i σ x hi (by rw [List.getElem?_append_left (by omega)]; exact hx) with z | ⟨u, z1, z2⟩ | ⟨z1, u, z2, z3⟩
      · exact .inl (z.more hM)
      · exact .inr (.inl ⟨u, lvp hσ z1, z2⟩)
      · refine .inr (.inr ⟨z1, u, ⟨?_, lvp hσ z2.2⟩, fun v => ?_⟩)
        · obtain ⟨q, hq, q2, qk⟩ := z2.1
          have hql : q < N.length := or3 (P := fun q => q < N.length) hq hσ.1 hσ.2.1 hσ.2.2
          exact ⟨q, hq, q2, by rw [pre_nd p hql]; exact qk⟩
        · rw [htp hσ]
          rcases z3 v with y | y
          · exact .inl (y.more hM)
          · exact .inr y
    · obtain rfl : i = S.length := by omega
      rw [htop] at hi
      cases hi
      exact .inl hk'
  · rcases I.goal with z | z
    · exact .inl (z.more hM)
    · exact .inr z
  · rw [List.sum_append, List.sum_append]
    simp only [List.sum_cons, List.sum_nil]
    omega
end G
namespace G
open PySem PySem.Spec PyProof.Rows L2 Evl
/-! ## two lists side by side -/
def All2 {α β : Type} (R : α → β → Prop) (as : List α) (bs : List β) : Prop := as.length = bs.length ∧ ∀ (i : Nat) (a : α) (b : β), as[i]? = some a → bs[i]? = some b → R a b
theorem All2.nil {α β : Type} {R : α → β → Prop} : All2 R [] [] := ⟨rfl, fun _ _ _ h => nomatch h⟩
theorem All2.imp {α β : Type} {R S : α → β → Prop} {as : List α} {bs : List β} (h : All2 R as bs) (f : ∀ a b, R a b → S a b) : All2 S as bs := ⟨h.1, fun i a b h1 h2 => f _ _ (h.2 i a b h1 h2)⟩
theorem All2.snoc {α β : Type} {R : α → β → Prop} {as : List α} {bs : List β} {a : α} {b : β} (h : All2 R as bs) (r : R a b) : All2 R (as ++ [a]) (bs ++ [b]) := by
  refine ⟨by rw [List.length_append, List.length_append, h.1]; rfl, fun i x y h1 h2 => ?_⟩
  by_cases hi : i < as.length
  · rw [List.getElem?_append_left hi] at h1
    rw [List.getElem?_append_left (h.1 ▸ hi)] at h2
    exact h.2 i x y h1 h2
  · rw [List.getElem?_append_right (by omega)] at h1
    rw [List.getElem?_append_right (by rw [← h.1]; omega), ← h.1] at h2
    cases e : i - as.length with
    | zero =>
      rw [e] at h1 h2
      cases h1; cases h2; exact r
    | succ n => rw [e] at h1; exact nomatch h1
theorem All2.at_ {α β : Type} {R : α → β → Prop} {as : List α} {bs : List β} (h : All2 R as bs) {i : Nat} {a : α} (e : as[i]? = some a) : ∃ b, bs[i]? = some b ∧ R a b := by
  have hi : i < bs.length := by rw [← h.1]; exact (List.getElem?_eq_some_iff.mp e).1
  exact ⟨bs[i], List.getElem?_eq_getElem hi, h.2 i a _ e (List.getElem?_eq_getElem hi)⟩
theorem All2.of {α β : Type} {R : α → β → Prop} {as : List α} {bs : List β} (h : All2 R as bs) {i : Nat} {b : β} (e : bs[i]? = some b) : ∃ a, as[i]? = some a ∧ R a b := by
  have hi : i < as.length := by rw [h.1]; exact (List.getElem?_eq_some_iff.mp e).1
  exact ⟨as[i], List.getElem?_eq_getElem hi, h.2 i _ b (List.getElem?_eq_getElem hi) e⟩
theorem All2.cons {α β : Type} {R : α → β → Prop} {as : List α} {bs : List β} {a : α} {b : β} (r : R a b) (h : All2 R as bs) : All2 R (a :: as) (b :: bs) := by
  refine ⟨by rw [List.length_cons, List.length_cons, h.1], fun i x y h1 h2 => ?_⟩
  cases i with
  | zero => cases h1; cases h2; exact r
  | succ i => exact h.2 i x y h1 h2
theorem take_snoc1 {α : Type} {l : List α} {j : Nat} {x : α} (h : l[j]? = some x) : l.take (j + 1) = l.take j ++ [x] := by rw [List.take_add_one, h]; rfl
theorem refs_get {as : List Addr} {k : Nat} {x : V} (hx : (as.map V.ref)[k]? = some x) : ∃ a, as[k]? = some a ∧ x = .ref a := by
  rw [List.getElem?_map] at hx
  cases e : as[k]? with
  | none => rw [e] at hx; cases hx
  | some a => rw [e] at hx; cases hx; exact ⟨a, rfl, rfl⟩
/-! ## walks: any body -/
theorem wk_list {K : PySem.W.Frag} {a : Addr} {xs : List V} {body : (Hp → Prop) → V → Hp → Prop} {H0 : Hp} {Qd : Hp → Prop} (Pv : Nat → Hp → Prop) (h0 : Pv 0 H0) (hl : ∀ i H, i ≤ xs.length → Pv i H → SqL K H a xs)
    (hs : ∀ i x H, xs[i]? = some x → Pv i H → body (Pv (i + 1)) x H) (hd : ∀ H, Pv xs.length H → Qd H) :
    ∃ W : Nat → Nat → Hp → Prop, (∃ m, W 0 m H0) ∧ ∀ i m H, W i m H → ((Itl K a).stop i H ∧ Qd H) ∨ ((Itl K a).go i H ∧ ∃ Nx : Hp → Prop, (∀ H', Nx H' → ∃ m', m' < m ∧ W (i + 1) m' H') ∧ ∀ x H', (Itl K a).yld i H x H' → body Nx x H') := by
  refine ⟨fun i m H => m = xs.length - i ∧ i ≤ xs.length ∧ Pv i H, ⟨xs.length, by simp, Nat.zero_le _, h0⟩, ?_⟩
  rintro i m H ⟨rfl, hi, p⟩
  have q := hl i H hi p
  rcases Nat.lt_or_ge i xs.length with lt | ge
  · have e : xs[i]? = some xs[i] := List.getElem?_eq_getElem lt
    refine .inr ⟨⟨xs, xs[i], q, e⟩, Pv (i + 1), fun H' p' => ⟨xs.length - (i + 1), by omega, rfl, lt, p'⟩, fun x H' y => ?_⟩
    obtain ⟨rfl, y⟩ := y
    exact hs i x _ (y xs q) p
  · have e : i = xs.length := by omega
    subst e
    exact .inl ⟨⟨xs, q, Nat.le_refl _⟩, hd H p⟩
theorem wk_tup {K : PySem.W.Frag} {a : Addr} {xs : List V} {body : (Hp → Prop) → V → Hp → Prop} {H0 : Hp} {Qd : Hp → Prop} (Pv : Nat → Hp → Prop) (h0 : Pv 0 H0) (hl : ∀ i H, i ≤ xs.length → Pv i H → SqT K H a xs)
    (hs : ∀ i x H, xs[i]? = some x → Pv i H → body (Pv (i + 1)) x H) (hd : ∀ H, Pv xs.length H → Qd H) :
    ∃ W : Nat → Nat → Hp → Prop, (∃ m, W 0 m H0) ∧ ∀ i m H, W i m H → ((Itt K a).stop i H ∧ Qd H) ∨ ((Itt K a).go i H ∧ ∃ Nx : Hp → Prop, (∀ H', Nx H' → ∃ m', m' < m ∧ W (i + 1) m' H') ∧ ∀ x H', (Itt K a).yld i H x H' → body Nx x H') := by
  refine ⟨fun i m H => m = xs.length - i ∧ i ≤ xs.length ∧ Pv i H, ⟨xs.length, by simp, Nat.zero_le _, h0⟩, ?_⟩
  rintro i m H ⟨rfl, hi, p⟩
  have q := hl i H hi p
  rcases Nat.lt_or_ge i xs.length with lt | ge
  · have e : xs[i]? = some xs[i] := List.getElem?_eq_getElem lt
    refine .inr ⟨⟨xs, xs[i], q, e⟩, Pv (i + 1), fun H' p' => ⟨xs.length - (i + 1), by omega, rfl, lt, p'⟩, fun x H' y => ?_⟩
    obtain ⟨rfl, y⟩ := y
    exact hs i x _ (y xs q) p
  · have e : i = xs.length := by omega
    subst e
    exact .inl ⟨⟨xs, q, Nat.le_refl _⟩, hd H p⟩
theorem wk_it {J : It} {n : Nat} {Gd : Hp → Prop} {Y : Nat → Hp → V → Hp → Prop} (w : Walk J n Gd Y) {body : (Hp → Prop) → V → Hp → Prop} {H0 : Hp} {Qd : Hp → Prop} (Pv : Nat → Hp → Prop) (h0 : Pv 0 H0) (hG : ∀ i H, i ≤ n → Pv i H → Gd H)
    (hs : ∀ i x H H', i < n → Pv i H → Y i H x H' → body (Pv (i + 1)) x H') (hd : ∀ H, Pv n H → Qd H) :
    ∃ W : Nat → Nat → Hp → Prop, (∃ m, W 0 m H0) ∧ ∀ i m H, W i m H → (J.stop i H ∧ Qd H) ∨ (J.go i H ∧ ∃ Nx : Hp → Prop, (∀ H', Nx H' → ∃ m', m' < m ∧ W (i + 1) m' H') ∧ ∀ x H', J.yld i H x H' → body Nx x H') := by
  refine ⟨fun i m H => m = n - i ∧ i ≤ n ∧ Pv i H, ⟨n, by simp, Nat.zero_le _, h0⟩, ?_⟩
  rintro i m H ⟨rfl, hi, p⟩
  rcases Nat.lt_or_ge i n with lt | ge
  · exact .inr ⟨w.goes i H lt (hG i H hi p), Pv (i + 1), fun H' p' => ⟨n - (i + 1), by omega, rfl, lt, p'⟩, fun x H' y => hs i x H H' lt p (w.yields i H x H' lt (hG i H hi p) y)⟩
  · have e : i = n := by omega
    subst e
    exact .inl ⟨w.stops H (hG i H hi p), hd H p⟩
/-! ## tuples joined and cut, whatever object that is -/
theorem cat_tup {K : PySem.W.Frag} {H : Hp} {a b : Addr} {xs ys : List V} {Q : VK} (ha : H a = some (.tup xs)) (hb : H b = some (.tup ys)) (hl : xs.length + ys.length ≤ sizeLine) (q : ∀ c H', Ex H H' → H' c = some (.tup (xs ++ ys)) → Q (.ref c) H') : rCatA K (.ref a) (.ref b) H Q := by
  refine ⟨a, b, xs, ys, rfl, rfl, SqT.of ha, SqT.of hb, hl, fun e => ?_, fun _ e => ?_, fun _ _ p np => ?_⟩
  · subst e; exact q b H (Ex.refl _) hb
  · subst e; exact q a H (Ex.refl _) (by rw [List.append_nil]; exact ha)
  · exact q p _ (Ex.new np) upd_same
theorem cut_tup {K : PySem.W.Frag} {H : Hp} {a : Addr} {xs : List V} {lo hi : Option Int} {Q : VK} (ha : H a = some (.tup xs)) (q : ∀ c H', Ex H H' → H' c = some (.tup (cutV xs lo hi)) → Q (.ref c) H') : rSlA K (.ref a) lo hi H Q := by
  refine ⟨a, xs, rfl, SqT.of ha, fun e => ?_, fun _ p np => q p _ (Ex.new np) upd_same⟩
  refine q a H (Ex.refl _) ?_
  rw [ha]
  unfold cutV
  rw [e.1, e.2, List.drop_zero, Nat.sub_zero, List.take_length]
theorem cutV_head {xs : List V} {k : Nat} (h : k ≤ xs.length) : cutV xs none (some (k : Int)) = xs.take k := by
  unfold cutV
  rw [HT.sIx_none, HT.sIx_nat, List.drop_zero, Nat.sub_zero, Nat.min_eq_left h]
theorem cutV_tail {xs : List V} {k : Nat} (h : k ≤ xs.length) : cutV xs (some (k : Int)) none = xs.drop k := by
  unfold cutV
  rw [HT.sIx_none, HT.sIx_nat, Nat.min_eq_left h, List.take_of_length_le]
  rw [List.length_drop]; exact Nat.le_refl _
end G
namespace G
open PySem PySem.Spec PyProof.Rows L2 Evl
theorem tYes_in {σ : L2.St} {H : Hp} {A B : Hp → Prop} (h : A H) : tYes σ H (fun b H3 => if b = true then A H3 else B H3) := by
  show if true = true then A H else B H
  exact iteT h
def tabV (bs : List Bool) : HO := .tup (bs.map V.bl)
theorem inV_ints {k : Int} {l : List Int} : inV (.int k) (l.map V.int) = l.contains k := by
  unfold inV
  rw [List.any_map, List.contains_eq_any_beq]
  congr 1
  funext y
  show (y == k) = (k == y)
  rw [Bool.eq_iff_iff]; simp; exact eq_comm
theorem inV_bls {k : Bool} {l : List Bool} : inV (.bl k) (l.map V.bl) = l.contains k := by
  unfold inV
  rw [List.any_map, List.contains_eq_any_beq]
  congr 1
  funext y
  show (y == k) = (k == y)
  cases y <;> cases k <;> rfl
theorem flat_map {α : Type} {f : α → V} (h : ∀ x, flatV (f x) = true) (l : List α) : (l.map f).all flatV = true := by
  rw [List.all_map]
  exact List.all_eq_true.mpr fun x _ => h x
theorem tif_by {tt : TE} {σ : L2.St} {H : Hp} {Q : VK} (R : V → Hp → Prop) (h : ∀ Q' : VK, (∀ v H', R v H' → Q' v H') → tt σ H Q') (rest : ∀ v H', R v H' → Q v H') : tt σ H Q := h Q rest
theorem bl_eq (a b : Bool) : decide (V.bl a = V.bl b) = decide (a = b) := by cases a <;> cases b <;> rfl
end G
namespace G
open PySem PySem.Spec PyProof.Rows L2
def topS (i : Nat) : Stmt := PySem.Challenge.pw_signoff_k20_settled_values.main.body.getD i (.Pass ⟨0, 0, 0, 0⟩)
abbrev s_wall : Stmt := topS 1
abbrev s_sources : Stmt := topS 6
abbrev s_gate_order : Stmt := topS 7
abbrev s_least_order : Stmt := topS 8
abbrev s_gates_read : Stmt := topS 9
abbrev s_look_up : Stmt := topS 11
abbrev s_settle : Stmt := topS 13
abbrev s_functions : Stmt := topS 14
abbrev s_settled : Stmt := topS 15
abbrev s_Diagrams_init : Stmt := inClass (topS 19) 0
abbrev s_Diagrams_variable : Stmt := inClass (topS 19) 1
abbrev s_Diagrams_negate : Stmt := inClass (topS 19) 2
abbrev s_Diagrams_both : Stmt := inClass (topS 19) 3
abbrev s_Diagrams_either : Stmt := inClass (topS 19) 4
abbrev s_Diagrams_choose : Stmt := inClass (topS 19) 5
abbrev s_Diagrams_all_of : Stmt := inClass (topS 19) 6
abbrev s_Diagrams_any_of : Stmt := inClass (topS 19) 7
abbrev s_Diagrams_applied : Stmt := inClass (topS 19) 8
abbrev s_Diagrams_fix : Stmt := inClass (topS 19) 9
abbrev s_Diagrams_value : Stmt := inClass (topS 19) 10
abbrev s_Diagrams_support : Stmt := inClass (topS 19) 11
abbrev s_Diagrams_count : Stmt := inClass (topS 19) 12
abbrev s_Diagrams_least : Stmt := inClass (topS 19) 13
abbrev s_Diagrams_node : Stmt := inClass (topS 19) 14
abbrev s_Diagrams_half : Stmt := inClass (topS 19) 15
abbrev s_Diagrams_known_choice : Stmt := inClass (topS 19) 16
abbrev s_Diagrams_level : Stmt := inClass (topS 19) 17
abbrev s_Diagrams_below : Stmt := inClass (topS 19) 18
abbrev s_law_pool : Stmt := topS 21
abbrev s_law_spread : Stmt := topS 22
abbrev s_law_draw : Stmt := topS 23
abbrev s_law_same : Stmt := topS 24
abbrev s_law_bits : Stmt := topS 25
abbrev s_law_table : Stmt := topS 26
abbrev s_law_register : Stmt := topS 27
abbrev s_law_shuffled : Stmt := topS 28
abbrev s_law_circuit : Stmt := topS 29
abbrev s_law_order : Stmt := topS 30
abbrev s_law_settled : Stmt := topS 31
abbrev s_law_listed_values : Stmt := topS 32
abbrev s_law : Stmt := topS 33
end G
namespace G
open PySem PySem.Spec PyProof.Rows L2 Evl
structure TxtL (mg : Str → Option Value) : Prop where
  int : mg "int" = none
  len : mg "len" = none
  list : mg "list" = none
  range : mg "range" = none
section
variable {P : Program} {w : World} {K : PySem.W.Frag} {mg : Str → Option Value} {base : Heap}
def spSpread : Sp := fun vs H Q _ => ∃ (c : Int), vs = [.int c] ∧ ∀ v : Int, Q (.int v) H
theorem sc_law_spread : FnScope ["cell", "mixed", "total", "k"] ["cell"] (defScope s_law_spread) := ⟨rfl, rfl, rfl, by decide +kernel, rfl, by decide +kernel, by decide +kernel⟩
theorem ok_law_spread (D : Dfd K mg "_law_spread" s_law_spread ["cell"]) (T : TxtL mg) : Has P w K mg base 1 "_law_spread" ["cell"] spSpread := by
  refine D.has fun f fd F => F.ok sc_law_spread (fun vs H Q E h => ?_) (fun cdv A outer s H vs Q E hr h => ?_)
  · obtain ⟨c, rfl, _⟩ := h
    rfl
  · obtain ⟨c, rfl, q⟩ := h
    refine ⟨_, (pss_cons (ps_set (i := 1) sc_law_spread.nd rfl (.inl rfl) (pe_op op_mod (pe_callTy call_int1 (by rfl) T.int (by decide +kernel) (pa_cons (pv 0) pa_nil)) pe_int))
      (pss_cons (ps_set (i := 2) sc_law_spread.nd rfl (.inl rfl) pe_int)
      (pss_cons (ps_for PassesOwn.never rfl (pi_range1 rfl T.range (pa_cons pe_int pa_nil)) (pg_name (i := 3) sc_law_spread.nd rfl (.inl rfl))
        (pss_cons (ps_set (i := 1) sc_law_spread.nd rfl (.inl rfl) (pe_op op_mod (pe_callTy call_int1 (by rfl) T.int (by decide +kernel) (pa_cons (pe_op op_add (pe_op op_add (pe_op op_mul (pv 1) pe_int) pe_int) (pv 3)) pa_nil)) pe_int))
        (pss_one (ps_set (i := 2) sc_law_spread.nd rfl (.inl rfl) (pe_op op_add (pe_op op_mul (pv 2) pe_int) (pv 1))))))
      (pss_one (ps_ret (pv 2)))))), ?_⟩
    refine ⟨_, rfl, .inl ⟨_, rfl, _, _, rfl, rfl, (by show (0 : Int) < 2147483647; decide), 4, rfl, by decide, by decide, for_range (n := 4) (fun _ σ H' => H' = H ∧ ∃ (x y : Int) (z : Option V), σ = [some (.int c), some (.int x), some (.int y), z]) ⟨rfl, _, _, _, rfl⟩ ?_ ?_⟩⟩
    · rintro i σ H' hi ⟨rfl, x, y, z, rfl⟩
      refine ⟨_, rfl, _, _, rfl, rfl, .inr ⟨by decide, by decide⟩, _, _, rfl, rfl, _, rfl, _, _, rfl, rfl, .inl ⟨_, rfl, _, _, rfl, rfl, (by show (0 : Int) < 2147483647; decide), _, rfl, _, _, rfl, rfl, .inr ⟨by decide, by decide⟩, _, rfl, _, _, rfl, rfl, rfl, _, _, _, rfl⟩⟩
    · rintro σ H' ⟨rfl, x, y, z, rfl⟩
      exact ⟨_, rfl, q y⟩
/-- a draw below n -/
def spDraw : Sp := fun vs H Q _ => ∃ (p a : Addr) (n : Int), vs = [.ref p, .int n] ∧ 0 < n ∧ n.natAbs.log2 < 9000 ∧ PoolOk p a H ∧ ∀ (v : Int) (o : HO), 0 ≤ v → v < n → PoolOk p a (upd H p o) → Q (.int v) (upd H p o)
theorem sc_law_draw : FnScope ["pool", "many", "cell", "mixed", "value"] ["pool", "many"] (defScope s_law_draw) := ⟨rfl, rfl, rfl, by decide +kernel, rfl, by decide +kernel, by decide +kernel⟩
theorem ok_law_draw (D : Dfd K mg "_law_draw" s_law_draw ["pool", "many"]) (T : TxtL mg) (C : Has P w K mg base 1 "_law_spread" ["cell"] spSpread) : Has P w K mg base 2 "_law_draw" ["pool", "many"] spDraw := by
  obtain ⟨f_law_spread, d_law_spread, G_law_spread, g_law_spread, k_law_spread, b_law_spread⟩ := C
  refine D.has fun f fd F => F.ok sc_law_draw (fun vs H Q E h => ?_) (fun cdv A outer s H vs Q E hr h => ?_)
  · obtain ⟨p, a, n, rfl, _⟩ := h
    rfl
  · obtain ⟨p, a, n, rfl, n0, n9, hp, q⟩ := h
    refine ⟨_, (pss_cut (ps_if (PW.pt (pw_and (pt_cmpR op_le (pe_ix ix_list (pv 0) pe_int (fun _ _ => rfl)) pe_int (nomark _)) (pw_and1 (pt_cmpR op_lt (pe_ix ix_list (pv 0) pe_int (fun _ _ => rfl)) (pe_callB call_len_seq (by rfl) T.len (by decide +kernel) (pa_cons (pe_ix ix_list (pv 0) pe_int (fun _ _ => rfl)) pa_nil)) (nomark _)))))
      (pss_cons (ps_set (i := 2) sc_law_draw.nd rfl (.inl rfl) (pe_ix ix_list (pe_ix ix_list (pv 0) pe_int (fun _ _ => rfl)) (pe_ix ix_list (pv 0) pe_int (fun _ _ => rfl)) (fun _ _ => rfl)))
      (pss_cons (ps_asg (pe_op op_add (pe_ix ix_list (pv 0) pe_int (fun _ _ => rfl)) pe_int) (pg_sub (pv 0) pe_int set_list))
      (pss_cons (ps_asg (pv 2) (pg_sub (pv 0) pe_int set_list))
      (pss_one (ps_if (pt_cmpR op_lt (pv 2) pe_int (nomark _))
        (pss_one (ps_asg (pe_call G_law_spread hr (by rfl) g_law_spread k_law_spread b_law_spread .nil pass0 (pa_cons (pv 2) pa_nil)) (pg_sub (pv 0) pe_int set_list)))
        pss_nil)))))
      pss_nil)
    (pss_cons (ps_asg (pe_op op_add (pe_ix ix_list (pv 0) pe_int (fun _ _ => rfl)) pe_int) (pg_sub (pv 0) pe_int set_list))
    (pss_cons (ps_if (pt_cmpR op_le (pe_ix ix_list (pv 0) pe_int (fun _ _ => rfl)) pe_int (nomark _))
      (pss_cons (ps_set (i := 3) sc_law_draw.nd rfl (.inl rfl) (pe_op op_mod (pe_callTy call_int1 (by rfl) T.int (by decide +kernel) (pa_cons (pe_op op_add (pe_op op_add (pe_op op_mul (pe_ix ix_list (pv 0) pe_int (fun _ _ => rfl)) pe_int) (pe_op op_mul (pe_ix ix_list (pv 0) pe_int (fun _ _ => rfl)) pe_int)) pe_int) pa_nil)) pe_int))
      (pss_cons (ps_set (i := 3) sc_law_draw.nd rfl (.inl rfl) (pe_op op_mod (pe_callTy call_int1 (by rfl) T.int (by decide +kernel) (pa_cons (pe_op op_add (pe_op op_mul (pv 3) pe_int) (pe_ix ix_list (pv 0) pe_int (fun _ _ => rfl))) pa_nil)) pe_int))
      (pss_one (ps_ret (pe_op op_mod (pe_op op_fdiv (pv 3) pe_int) (pv 1))))))
      pss_nil)
    (pss_cons (ps_set (i := 4) sc_law_draw.nd rfl (.inl rfl) (pe_op op_mod (pe_callTy call_int1 (by rfl) T.int (by decide +kernel) (pa_cons (pe_ix ix_list (pv 0) pe_int (fun _ _ => rfl)) pa_nil)) (pv 1)))
    (pss_cons (ps_asg (pe_op op_fdivW (pe_ix ix_list (pv 0) pe_int (fun _ _ => rfl)) (pv 1)) (pg_sub (pv 0) pe_int set_list))
    (pss_one (ps_ret (pv 4)))))))), ?_⟩
    obtain ⟨ns, i, c, k, s5, hl, ha, hn⟩ := hp
    have hap : a ≠ p := hid_neq ha
    have haH := hid_get ha
    -- the pool as it stands after writes
    have pk : ∀ (i' : Nat) (c' k' s' : Int), PoolOk p a (upd H p (.lst [.ref a, .int i', .int c', .int k', .int s'])) := fun i' c' k' s' =>
      ⟨ns, i', c', k', s', upd_same, by rw [hid_upd]; exact ha, hn⟩
    refine ⟨fun σ H' => ∃ (i' : Nat) (c' k' s' : Int) (o1 : Option V), σ = [some (.ref p), some (.int n), o1, none, none] ∧ H' p = some (.lst [.ref a, .int i', .int c', .int k', .int s']) ∧ (∀ o, upd H' p o = upd H p o), ?_, ?_⟩
    · refine ⟨_, rfl, _, _, _, _, rfl, rfl, SqL.of hl, atI_nat (j := 2) rfl, _, _, rfl, rfl, _, rfl, ite2 (fun e1 => ?_) (fun e1 => ?_)⟩
      · refine ⟨_, rfl, _, _, _, _, rfl, rfl, SqL.of hl, atI_nat (j := 1) rfl, _, rfl, _, _, _, _, rfl, rfl, SqL.of hl, atI_nat (j := 0) rfl, _, _, rfl, .inl (SqL.of haH), _, _, rfl, rfl, _, rfl, ite2 (fun e2 => ?_) (fun e2 => ?_)⟩
        · have hi : i < (ns.map V.int).length := by have := of_decide_eq_true e2; omega
          have hi' : i < ns.length := by rw [List.length_map] at hi; exact hi
          have gi : (ns.map V.int)[i]? = some (.int ns[i]) := by rw [List.getElem?_map, List.getElem?_eq_getElem hi']; rfl
          refine ⟨_, rfl, _, _, _, _, rfl, rfl, SqL.of hl, atI_nat (j := 0) rfl, _, rfl, _, _, _, _, rfl, rfl, SqL.of hl, atI_nat (j := 1) rfl, _, _, _, _, rfl, rfl, SqL.of haH, atI_nat gi, ?_⟩
          refine ⟨_, rfl, _, _, _, _, rfl, rfl, SqL.of hl, atI_nat (j := 1) rfl, _, _, rfl, rfl, _, rfl, _, _, _, 1, rfl, rfl, hl, rfl, ?_⟩
          refine ⟨_, rfl, _, rfl, _, _, _, 2, rfl, rfl, upd_same, rfl, ?_⟩
          refine ⟨_, rfl, _, _, rfl, rfl, _, rfl, ite2 (fun e3 => ?_) (fun e3 => ?_)⟩
          · refine ⟨_, rfl, _, rfl, fun v => ⟨_, rfl, _, _, _, 2, rfl, rfl, upd_same, rfl, ?_⟩⟩
            exact ⟨i + 1, v, k, s5, _, rfl, upd_same, fun o => by rw [upd_upd, upd_upd, upd_upd]⟩
          · exact ⟨i + 1, ns[i], k, s5, _, rfl, upd_same, fun o => by rw [upd_upd, upd_upd]⟩
        · exact ⟨i, c, k, s5, _, rfl, hl, fun _ => rfl⟩
      · exact iteF ⟨i, c, k, s5, _, rfl, hl, fun _ => rfl⟩
    · rintro σ H' ⟨i, c, k, s5, o1, rfl, hl', hu⟩
      refine ⟨_, rfl, _, _, _, _, rfl, rfl, SqL.of hl', atI_nat (j := 3) rfl, _, _, rfl, rfl, _, rfl, _, _, _, 3, rfl, rfl, hl', rfl, ?_⟩
      refine ⟨_, rfl, _, _, _, _, rfl, rfl, SqL.of upd_same, atI_nat (j := 2) rfl, _, _, rfl, rfl, _, rfl, ite2 (fun e1 => ?_) (fun e1 => ?_)⟩
      · refine ⟨_, rfl, _, _, _, _, rfl, rfl, SqL.of upd_same, atI_nat (j := 4) rfl, _, _, rfl, rfl, .inr ⟨by decide, by decide⟩, _, rfl, _, _, _, _, rfl, rfl, SqL.of upd_same, atI_nat (j := 3) rfl, _, _, rfl, rfl, .inr ⟨by decide, by decide⟩, _, _, rfl, rfl, _, _, rfl, rfl, .inl ⟨_, rfl, _, _, rfl, rfl, (by show (0 : Int) < 2147483647; decide), ?_⟩⟩
        refine ⟨_, rfl, _, _, rfl, rfl, .inr ⟨by decide, by decide⟩, _, rfl, _, _, _, _, rfl, rfl, SqL.of upd_same, atI_nat (j := 3) rfl, _, _, rfl, rfl, .inl ⟨_, rfl, _, _, rfl, rfl, (by show (0 : Int) < 2147483629; decide), ?_⟩⟩
        refine ⟨_, rfl, _, _, rfl, rfl, ⟨by decide, by decide⟩, _, rfl, _, _, rfl, rfl, n0, ?_⟩
        show Q _ _
        rw [hu]
        exact q _ _ (Int.emod_nonneg _ (by omega)) (Int.emod_lt_of_pos _ n0) (pk i c (k + 1) s5)
      · refine ⟨_, rfl, _, _, _, _, rfl, rfl, SqL.of upd_same, atI_nat (j := 2) rfl, .inl ⟨_, rfl, _, rfl, _, _, rfl, rfl, n0, ?_⟩⟩
        refine ⟨_, rfl, _, _, _, _, rfl, rfl, SqL.of upd_same, atI_nat (j := 2) rfl, _, rfl, _, _, rfl, rfl, ⟨n0, n9⟩, _, rfl, _, _, _, 2, rfl, rfl, upd_same, rfl, _, rfl, ?_⟩
        show Q _ _
        rw [upd_upd, hu]
        exact q _ _ (Int.emod_nonneg _ (by omega)) (Int.emod_lt_of_pos _ n0) (pk i (c / n) (k + 1) s5)
/-- the same, the heap behind it a letter -/
def spDrawX : Sp := fun vs H Q _ => ∃ (p a : Addr) (n : Int), vs = [.ref p, .int n] ∧ 0 < n ∧ n ≤ 2 ^ 70 ∧ PoolOk p a H ∧ ∀ (v : Nat) (H' : Hp), (v : Int) < n → Px p a H H' → (∀ b, b ≠ p → H' b = H b) → Q (.int v) H'
theorem log2_small {n : Int} (h0 : 0 < n) (h : n ≤ 2 ^ 70) : n.natAbs.log2 < 9000 := by
  have h1 : n.natAbs < 2 ^ 71 := by omega
  have := PySem.Flt.log2_lt_of (by decide : 0 < 71) h1
  omega
theorem drawX (C : Has P w K mg base 2 "_law_draw" ["pool", "many"] spDraw) : Has P w K mg base 2 "_law_draw" ["pool", "many"] spDrawX :=
  C.imp fun vs H Q E h => by
    obtain ⟨p, a, n, rfl, h0, h1, hp, q⟩ := h
    refine ⟨p, a, n, rfl, h0, log2_small h0 h1, hp, fun v o v0 v1 hq => ?_⟩
    have e : v = ((v.toNat : Nat) : Int) := by omega
    rw [e]
    exact q v.toNat _ (by omega) (Px.draw hp hq) fun b hb => upd_ne hb
end
end G
namespace G
open PySem PySem.Spec PyProof.Rows L2 Evl
/-! ## data -/
inductive D where
  | non | bl (b : Bool) | int (i : Int) | str (s : Str) | tup (l : List D) | lst (l : List D)
def okD : Nat → D → Prop
  | 0, .tup _ => False
  | 0, .lst _ => False
  | n + 1, .tup l => l.length < 2 ^ 61 ∧ ∀ d ∈ l, okD n d
  | n + 1, .lst l => l.length < 2 ^ 61 ∧ ∀ d ∈ l, okD n d
  | _, _ => True
inductive Rep (H : Hp) : V → D → Prop where
  | non : Rep H .non .non
  | bl (b : Bool) : Rep H (.bl b) (.bl b)
  | int (i : Int) : Rep H (.int i) (.int i)
  | str (s : Str) : Rep H (.str s) (.str s)
  | tup {a : Addr} {xs : List V} {ds : List D} (h : H a = some (.tup xs)) (hl : xs.length = ds.length) (hr : ∀ (i : Nat) (x : V) (d : D), xs[i]? = some x → ds[i]? = some d → Rep H x d) : Rep H (.ref a) (.tup ds)
  | lst {a : Addr} {xs : List V} {ds : List D} (h : H a = some (.lst xs)) (hl : xs.length = ds.length) (hr : ∀ (i : Nat) (x : V) (d : D), xs[i]? = some x → ds[i]? = some d → Rep H x d) : Rep H (.ref a) (.lst ds)
theorem Rep.ex {H H' : Hp} (e : Ex H H') {x : V} {d : D} (r : Rep H x d) : Rep H' x d := by
  induction r with
  | non => exact .non
  | bl b => exact .bl b
  | int i => exact .int i
  | str s => exact .str s
  | tup h hl _ ih => exact .tup (e _ _ h) hl ih
  | lst h hl _ ih => exact .lst (e _ _ h) hl ih
theorem okD.mono : ∀ {n m : Nat} {d : D}, n ≤ m → okD n d → okD m d
  | 0, 0, d, _, h => h
  | 0, m + 1, .non, _, _ => trivial
  | 0, m + 1, .bl _, _, _ => trivial
  | 0, m + 1, .int _, _, _ => trivial
  | 0, m + 1, .str _, _, _ => trivial
  | 0, m + 1, .tup _, _, h => h.elim
  | 0, m + 1, .lst _, _, h => h.elim
  | n + 1, m + 1, .non, _, _ => trivial
  | n + 1, m + 1, .bl _, _, _ => trivial
  | n + 1, m + 1, .int _, _, _ => trivial
  | n + 1, m + 1, .str _, _, _ => trivial
  | n + 1, m + 1, .tup l, le, h => ⟨h.1, fun d hd => okD.mono (Nat.le_of_succ_le_succ le) (h.2 d hd)⟩
  | n + 1, m + 1, .lst l, le, h => ⟨h.1, fun d hd => okD.mono (Nat.le_of_succ_le_succ le) (h.2 d hd)⟩
structure TxtS (mg : Str → Option Value) : Prop where
  isinstance : mg "isinstance" = none
  tuple : mg "tuple" = none
  list : mg "list" = none
  len : mg "len" = none
  range : mg "range" = none
  bool : mg "bool" = none
  int : mg "int" = none
  str : mg "str" = none
section
variable {P : Program} {w : World} {K : PySem.W.Frag} {mg : Str → Option Value} {base : Heap}
/-- equal data: the answer is True -/
def spSame : Nat → Sp
  | 0 => fun _ _ _ _ => False
  | n + 1 => fun vs H Q _ => ∃ (x y : V) (d : D), vs = [x, y] ∧ Rep H x d ∧ Rep H y d ∧ okD n d ∧ Q (.bl true) H
theorem sc_law_same : FnScope ["actual", "due", "k"] ["actual", "due"] (defScope s_law_same) := ⟨rfl, rfl, rfl, by decide +kernel, rfl, by decide +kernel, by decide +kernel⟩
theorem fn_law_same {f : Addr} {fd : FuncData} (F : Fun K "_law_same" "_law_same" s_law_same f fd) (g_law_same : mg "_law_same" = some (.ref f)) (b_law_same : Binds K fd ["actual", "due"] []) (T : TxtS mg) : ∀ n, FnOk P w K mg base CX0 n f fd ["actual", "due"] (spSame n)
  | 0 => ⟨fun _ _ _ _ h => h.elim, fun _ _ _ _ _ _ _ _ _ _ _ _ _ h => h.elim⟩
  | n + 1 => by
    have G_law_same := fn_law_same F g_law_same b_law_same T n
    have k_law_same := F.kp
    refine F.ok sc_law_same (fun vs H Q E h => ?_) (fun cdv A outer s H vs Q E hr h => ?_)
    · obtain ⟨x, y, d, rfl, _⟩ := h
      rfl
    · obtain ⟨x, y, d, rfl, rx, ry, hd, q⟩ := h
      refine ⟨_, (pss_cons (ps_if (PW.pt (pw_or (pt_val (pe_callB call_isi (by rfl) T.isinstance (by decide +kernel) (pa_cons (pv 1) (pa_cons (pe_bltn (v := .ty "tuple") (by rfl) T.tuple (by decide +kernel) rfl) pa_nil)))) (pw_or1 (pt_val (pe_callB call_isi (by rfl) T.isinstance (by decide +kernel) (pa_cons (pv 1) (pa_cons (pe_bltn (v := .ty "list") (by rfl) T.list (by decide +kernel) rfl) pa_nil)))))))
      (pss_cons (ps_if (PW.pt (pw_or (pt_cmpR op_ne (pe_callB call_isi (by rfl) T.isinstance (by decide +kernel) (pa_cons (pv 1) (pa_cons (pe_bltn (v := .ty "tuple") (by rfl) T.tuple (by decide +kernel) rfl) pa_nil))) (pe_callB call_isi (by rfl) T.isinstance (by decide +kernel) (pa_cons (pv 0) (pa_cons (pe_bltn (v := .ty "tuple") (by rfl) T.tuple (by decide +kernel) rfl) pa_nil))) (nomark _)) (pw_or1 (pt_cmpR op_ne (pe_callB call_isi (by rfl) T.isinstance (by decide +kernel) (pa_cons (pv 1) (pa_cons (pe_bltn (v := .ty "list") (by rfl) T.list (by decide +kernel) rfl) pa_nil))) (pe_callB call_isi (by rfl) T.isinstance (by decide +kernel) (pa_cons (pv 0) (pa_cons (pe_bltn (v := .ty "list") (by rfl) T.list (by decide +kernel) rfl) pa_nil))) (nomark _)))))
        (pss_one (ps_ret pe_bl))
        pss_nil)
      (pss_cons (ps_if (pt_cmpR op_ne (pe_callB call_len_seq (by rfl) T.len (by decide +kernel) (pa_cons (pv 0) pa_nil)) (pe_callB call_len_seq (by rfl) T.len (by decide +kernel) (pa_cons (pv 1) pa_nil)) (nomark _))
        (pss_one (ps_ret pe_bl))
        pss_nil)
      (pss_cons (ps_for PassesOwn.never rfl (pi_range1 rfl T.range (pa_cons (pe_callB call_len_seq (by rfl) T.len (by decide +kernel) (pa_cons (pv 1) pa_nil)) pa_nil)) (pg_name (i := 2) sc_law_same.nd rfl (.inl rfl))
        (pss_one (ps_if (pt_not (pt_val (pe_call G_law_same hr (by rfl) g_law_same k_law_same b_law_same .nil pass0 (pa_cons (pe_ix ix_seq (pv 0) (pv 2) (fun _ _ => rfl)) (pa_cons (pe_ix ix_seq (pv 1) (pv 2) (fun _ _ => rfl)) pa_nil)))))
          (pss_one (ps_ret pe_bl))
          pss_nil)))
      (pss_one (ps_ret pe_bl)))))
      pss_nil)
    (pss_cons (ps_if (pt_cmpR op_isN (pv 1) pe_non (nomark _))
      (pss_one (ps_ret (pe_cmpR op_isN (pv 0) pe_non (nomark _))))
      pss_nil)
    (pss_cons (ps_if (pt_val (pe_callB call_isi (by rfl) T.isinstance (by decide +kernel) (pa_cons (pv 1) (pa_cons (pe_bltn (v := .ty "bool") (by rfl) T.bool (by decide +kernel) rfl) pa_nil))))
      (pss_one (ps_ret (pe_and (pe_callB call_isi (by rfl) T.isinstance (by decide +kernel) (pa_cons (pv 0) (pa_cons (pe_bltn (v := .ty "bool") (by rfl) T.bool (by decide +kernel) rfl) pa_nil))) (pe_one (pe_cmpR op_eq (pv 0) (pv 1) (nomark _))))))
      pss_nil)
    (pss_cons (ps_if (pt_val (pe_callB call_isi (by rfl) T.isinstance (by decide +kernel) (pa_cons (pv 1) (pa_cons (pe_bltn (v := .ty "int") (by rfl) T.int (by decide +kernel) rfl) pa_nil))))
      (pss_one (ps_ret (pe_and (pe_callB call_isi (by rfl) T.isinstance (by decide +kernel) (pa_cons (pv 0) (pa_cons (pe_bltn (v := .ty "int") (by rfl) T.int (by decide +kernel) rfl) pa_nil))) (pe_and (pe_not (pe_callB call_isi (by rfl) T.isinstance (by decide +kernel) (pa_cons (pv 0) (pa_cons (pe_bltn (v := .ty "bool") (by rfl) T.bool (by decide +kernel) rfl) pa_nil)))) (pe_one (pe_cmpR op_eq (pv 0) (pv 1) (nomark _)))))))
      pss_nil)
    (pss_one (ps_ret (pe_and (pe_callB call_isi (by rfl) T.isinstance (by decide +kernel) (pa_cons (pv 0) (pa_cons (pe_bltn (v := .ty "str") (by rfl) T.str (by decide +kernel) rfl) pa_nil))) (pe_one (pe_cmpR op_eq (pv 0) (pv 1) (nomark _)))))))))), ?_⟩
      cases rx with
      | non =>
        cases ry
        refine ⟨_, rfl, _, _, _, _, _, rfl, .ty "tuple", .base .non, kit_ty (a := "NoneType") (r := false) (by decide +kernel), _, rfl, iteF ⟨_, rfl, _, _, _, _, _, rfl, .ty "list", .base .non, kit_ty (a := "NoneType") (r := false) (by decide +kernel), _, rfl, iteF ⟨_, rfl, rfl, _, rfl, iteT ⟨_, rfl, rfl, ?_⟩⟩⟩⟩
        exact q
      | bl b =>
        cases ry
        refine ⟨_, rfl, _, _, _, _, _, rfl, .ty "tuple", .base (.bl _), kit_ty (a := "bool") (r := false) (by decide +kernel), _, rfl, iteF ⟨_, rfl, _, _, _, _, _, rfl, .ty "list", .base (.bl _), kit_ty (a := "bool") (r := false) (by decide +kernel), _, rfl, iteF ⟨_, rfl, rfl, _, rfl, iteF ⟨_, rfl, _, _, _, _, _, rfl, .ty "bool", .base (.bl _), kit_ty (a := "bool") (r := true) (by decide +kernel), _, rfl, iteT ⟨_, rfl, _, _, _, _, _, rfl, .ty "bool", .base (.bl _), kit_ty (a := "bool") (r := true) (by decide +kernel), _, rfl, iteT ⟨_, rfl, _, rfl, rfl, ?_⟩⟩⟩⟩⟩⟩
        rw [decide_eq_true rfl]
        exact q
      | int b =>
        cases ry
        refine ⟨_, rfl, _, _, _, _, _, rfl, .ty "tuple", .base (.int _), kit_ty (a := "int") (r := false) (by decide +kernel), _, rfl, iteF ⟨_, rfl, _, _, _, _, _, rfl, .ty "list", .base (.int _), kit_ty (a := "int") (r := false) (by decide +kernel), _, rfl, iteF ⟨_, rfl, rfl, _, rfl, iteF ⟨_, rfl, _, _, _, _, _, rfl, .ty "bool", .base (.int _), kit_ty (a := "int") (r := false) (by decide +kernel), _, rfl, iteF ⟨_, rfl, _, _, _, _, _, rfl, .ty "int", .base (.int _), kit_ty (a := "int") (r := true) (by decide +kernel), _, rfl, iteT ⟨_, rfl, _, _, _, _, _, rfl, .ty "int", .base (.int _), kit_ty (a := "int") (r := true) (by decide +kernel), _, rfl, iteT ⟨_, rfl, _, _, _, _, _, rfl, .ty "bool", .base (.int _), kit_ty (a := "int") (r := false) (by decide +kernel), _, rfl, _, rfl, iteT ⟨_, rfl, _, rfl, rfl, ?_⟩⟩⟩⟩⟩⟩⟩⟩
        rw [decide_eq_true rfl]
        exact q
      | str b =>
        cases ry
        refine ⟨_, rfl, _, _, _, _, _, rfl, .ty "tuple", .base (.str _), kit_ty (a := "str") (r := false) (by decide +kernel), _, rfl, iteF ⟨_, rfl, _, _, _, _, _, rfl, .ty "list", .base (.str _), kit_ty (a := "str") (r := false) (by decide +kernel), _, rfl, iteF ⟨_, rfl, rfl, _, rfl, iteF ⟨_, rfl, _, _, _, _, _, rfl, .ty "bool", .base (.str _), kit_ty (a := "str") (r := false) (by decide +kernel), _, rfl, iteF ⟨_, rfl, _, _, _, _, _, rfl, .ty "int", .base (.str _), kit_ty (a := "str") (r := false) (by decide +kernel), _, rfl, iteF ⟨_, rfl, _, _, _, _, _, rfl, .ty "str", .base (.str _), kit_ty (a := "str") (r := true) (by decide +kernel), _, rfl, iteT ⟨_, rfl, _, rfl, rfl, ?_⟩⟩⟩⟩⟩⟩⟩
        rw [decide_eq_true rfl]
        exact q
      | @tup a xs ds hx lx rx =>
        cases ry with
        | @tup b ys _ hy ly ry =>
          cases n with
          | zero => exact hd.elim
          | succ m =>
            obtain ⟨hlen, hall⟩ := hd
            refine ⟨_, rfl, _, _, _, _, _, rfl, .ty "tuple", .base (.tup hy), kit_ty (a := "tuple") (r := true) (by decide +kernel), _, rfl, iteT (iteT ⟨_, rfl, _, _, _, _, _, rfl, .ty "tuple", .base (.tup hy), kit_ty (a := "tuple") (r := true) (by decide +kernel), _, rfl, _, _, _, _, _, rfl, .ty "tuple", .base (.tup hx), kit_ty (a := "tuple") (r := true) (by decide +kernel), rfl, _, rfl, iteF ⟨_, rfl, _, _, _, _, _, rfl, .ty "list", .base (.tup hy), kit_ty (a := "tuple") (r := false) (by decide +kernel), _, rfl, _, _, _, _, _, rfl, .ty "list", .base (.tup hx), kit_ty (a := "tuple") (r := false) (by decide +kernel), rfl, _, rfl, iteF ⟨_, rfl, _, _, rfl, .inr (SqT.of hx), _, rfl, _, _, rfl, .inr (SqT.of hy), rfl, _, rfl, ?_⟩⟩⟩)⟩
            have el : decide (V.int (xs.length : Int) = V.int (ys.length : Int)) = true := decide_eq_true (by rw [lx, ly])
            rw [el]
            refine ⟨_, rfl, _, _, rfl, .inr (SqT.of hy), _, rfl, by omega, by omega, for_range (n := (ys.length : Int).toNat) (fun _ σ H' => H' = H ∧ ∃ z : Option V, σ = [some (.ref a), some (.ref b), z]) ⟨rfl, _, rfl⟩ ?_ ?_⟩
            · rintro i σ H' hi ⟨rfl, z, rfl⟩
              have hi' : i < ds.length := by omega
              have e0 : (0 : Int) + (i : Int) = (i : Int) := Int.zero_add _
              have g1 : xs[i]? = some xs[i] := List.getElem?_eq_getElem (by omega)
              have g2 : ys[i]? = some ys[i] := List.getElem?_eq_getElem (by omega)
              have g3 : ds[i]? = some ds[i] := List.getElem?_eq_getElem hi'
              rw [e0]
              refine ⟨_, rfl, _, rfl, .inr (.inl ⟨_, _, _, _, rfl, rfl, SqT.of hx, atI_nat g1, _, rfl, _, rfl, .inr (.inl ⟨_, _, _, _, rfl, rfl, SqT.of hy, atI_nat g2, ?_⟩)⟩)⟩
              exact ⟨_, _, ds[i], rfl, rx i _ _ g1 g3, ry i _ _ g2 g3, hall _ (List.getElem_mem hi'), _, rfl, rfl, _, rfl⟩
            · rintro σ H' ⟨rfl, z, rfl⟩
              exact q
      | @lst a xs ds hx lx rx =>
        cases ry with
        | @lst b ys _ hy ly ry =>
          cases n with
          | zero => exact hd.elim
          | succ m =>
            obtain ⟨hlen, hall⟩ := hd
            refine ⟨_, rfl, _, _, _, _, _, rfl, .ty "tuple", .base (.lst hy), kit_ty (a := "list") (r := false) (by decide +kernel), _, rfl, iteF ⟨_, rfl, _, _, _, _, _, rfl, .ty "list", .base (.lst hy), kit_ty (a := "list") (r := true) (by decide +kernel), _, rfl, iteT ⟨_, rfl, _, _, _, _, _, rfl, .ty "tuple", .base (.lst hy), kit_ty (a := "list") (r := false) (by decide +kernel), _, rfl, _, _, _, _, _, rfl, .ty "tuple", .base (.lst hx), kit_ty (a := "list") (r := false) (by decide +kernel), rfl, _, rfl, iteF ⟨_, rfl, _, _, _, _, _, rfl, .ty "list", .base (.lst hy), kit_ty (a := "list") (r := true) (by decide +kernel), _, rfl, _, _, _, _, _, rfl, .ty "list", .base (.lst hx), kit_ty (a := "list") (r := true) (by decide +kernel), rfl, _, rfl, iteF ⟨_, rfl, _, _, rfl, .inl (SqL.of hx), _, rfl, _, _, rfl, .inl (SqL.of hy), rfl, _, rfl, ?_⟩⟩⟩⟩⟩
            have el : decide (V.int (xs.length : Int) = V.int (ys.length : Int)) = true := decide_eq_true (by rw [lx, ly])
            rw [el]
            refine ⟨_, rfl, _, _, rfl, .inl (SqL.of hy), _, rfl, by omega, by omega, for_range (n := (ys.length : Int).toNat) (fun _ σ H' => H' = H ∧ ∃ z : Option V, σ = [some (.ref a), some (.ref b), z]) ⟨rfl, _, rfl⟩ ?_ ?_⟩
            · rintro i σ H' hi ⟨rfl, z, rfl⟩
              have hi' : i < ds.length := by omega
              have e0 : (0 : Int) + (i : Int) = (i : Int) := Int.zero_add _
              have g1 : xs[i]? = some xs[i] := List.getElem?_eq_getElem (by omega)
              have g2 : ys[i]? = some ys[i] := List.getElem?_eq_getElem (by omega)
              have g3 : ds[i]? = some ds[i] := List.getElem?_eq_getElem hi'
              rw [e0]
              refine ⟨_, rfl, _, rfl, .inl ⟨_, _, _, _, rfl, rfl, SqL.of hx, atI_nat g1, _, rfl, _, rfl, .inl ⟨_, _, _, _, rfl, rfl, SqL.of hy, atI_nat g2, ?_⟩⟩⟩
              exact ⟨_, _, ds[i], rfl, rx i _ _ g1 g3, ry i _ _ g2 g3, hall _ (List.getElem_mem hi'), _, rfl, rfl, _, rfl⟩
            · rintro σ H' ⟨rfl, z, rfl⟩
              exact q
theorem ok_law_same (D : Dfd K mg "_law_same" s_law_same ["actual", "due"]) (T : TxtS mg) (n : Nat) : Has P w K mg base n "_law_same" ["actual", "due"] (spSame n) := by
  obtain ⟨f, fd, F, g, b⟩ := D
  exact ⟨f, fd, fn_law_same F g b T n, g, F.kp, b⟩
end
/-! ## data made of flat lists -/
theorem rep_map {H : Hp} {α : Type} {f : α → V} {g : α → D} {l : List α} (h : ∀ x, Rep H (f x) (g x)) : (l.map f).length = (l.map g).length ∧ ∀ (i : Nat) (x : V) (d : D), (l.map f)[i]? = some x → (l.map g)[i]? = some d → Rep H x d := by
  refine ⟨by rw [List.length_map, List.length_map], fun i x d hx hd => ?_⟩
  rw [List.getElem?_map] at hx hd
  cases e : l[i]? with
  | none => rw [e] at hx; cases hx
  | some y =>
    rw [e] at hx hd
    have e1 : f y = x := Option.some.inj hx
    have e2 : g y = d := Option.some.inj hd
    rw [← e1, ← e2]
    exact h y
theorem rep_ints {H : Hp} {a : Addr} {l : List Int} (h : H a = some (.lst (l.map V.int))) : Rep H (.ref a) (.lst (l.map D.int)) :=
  let r := rep_map (H := H) (f := V.int) (g := D.int) (l := l) fun i => .int i
  .lst h r.1 r.2
theorem rep_bls {H : Hp} {a : Addr} {l : List Bool} (h : H a = some (.tup (l.map V.bl))) : Rep H (.ref a) (.tup (l.map D.bl)) :=
  let r := rep_map (H := H) (f := V.bl) (g := D.bl) (l := l) fun i => .bl i
  .tup h r.1 r.2
theorem okD_ints {l : List Int} (h : l.length < 2 ^ 61) : okD 1 (.lst (l.map D.int)) := ⟨by rw [List.length_map]; exact h, fun d hd => by obtain ⟨_, _, rfl⟩ := List.mem_map.mp hd; trivial⟩
end G
namespace G
open PySem PySem.Spec PyProof.Rows L2 Evl
section
variable {P : Program} {w : World} {K : PySem.W.Frag} {mg : Str → Option Value} {base : Heap}
theorem cutV_mem {xs : List V} {lo hi : Option Int} {i : Nat} {x : V} (h : (cutV xs lo hi)[i]? = some x) : x ∈ xs := by
  unfold cutV at h
  exact List.mem_of_mem_drop (List.mem_of_mem_take (List.mem_of_getElem? h))
theorem int_of {ns : List Int} {x : V} (h : x ∈ ns.map V.int) : ∃ z, x = .int z := by
  obtain ⟨z, _, e⟩ := List.mem_map.mp h
  exact ⟨z, e.symm⟩
def spPool (K : PySem.W.Frag) : Sp := fun vs H Q _ => ∃ (s : Addr) (ns : List Int), vs = [.ref s] ∧ SqL K H s (ns.map V.int) ∧ ns.length ≤ 1000 ∧ ∀ (p a : Addr) (H' : Hp), PoolOk p a H' → Ex H H' → H p = none → Q (.ref p) H'
theorem sc_law_pool : FnScope ["script", "salt", "cell"] ["script"] (defScope s_law_pool) := ⟨rfl, rfl, rfl, by decide +kernel, rfl, by decide +kernel, by decide +kernel⟩
theorem ok_law_pool (D : Dfd K mg "_law_pool" s_law_pool ["script"]) (T : TxtL mg) : Has P w K mg base 1 "_law_pool" ["script"] (spPool K) := by
  refine D.has fun f fd F => F.ok sc_law_pool (fun vs H Q E h => ?_) (fun cdv A outer s H vs Q E hr h => ?_)
  · obtain ⟨c, _, rfl, _⟩ := h
    rfl
  · obtain ⟨sa, ns, rfl, hs, hn, q⟩ := h
    refine ⟨_, (pss_cons (ps_set (i := 1) sc_law_pool.nd rfl (.inl rfl) pe_int)
      (pss_cons (ps_for PassesOwn.never rfl (pi_list (pe_slice sl_list (pv 0) po_none (po_some pe_int))) (pg_name (i := 2) sc_law_pool.nd rfl (.inl rfl))
        (pss_one (ps_set (i := 1) sc_law_pool.nd rfl (.inl rfl) (pe_op op_mod (pe_callTy call_int1 (by rfl) T.int (by decide +kernel) (pa_cons (pe_op op_add (pe_op op_mul (pv 1) pe_int) (pv 2)) pa_nil)) pe_int))))
      (pss_one (ps_ret (pe_lst (pa_cons (pe_callTy call_list_of (by rfl) T.list (by decide +kernel) (pa_cons (pv 0) pa_nil)) (pa_cons pe_int (pa_cons pe_int (pa_cons pe_int (pa_cons (pv 1) pa_nil)))))))))), ?_⟩
    refine ⟨_, rfl, _, rfl, sa, _, rfl, hs, fun c nc => ⟨c, rfl, ⟨_, SqL.of upd_same⟩, for_list (K := K) (a := c) (xs := cutV (ns.map V.int) none (some 63)) (fun _ σ H' => H' = upd H c (.lst (cutV (ns.map V.int) none (some 63))) ∧ ∃ (x : Int) (z : Option V), σ = [some (.ref sa), some (.int x), z]) ⟨rfl, _, _, rfl⟩ ?_ ?_ ?_⟩⟩
    · rintro i σ H' _ ⟨rfl, _⟩
      exact SqL.of upd_same
    · rintro i x σ H' hi ⟨rfl, y, z, rfl⟩
      obtain ⟨m, rfl⟩ := int_of (cutV_mem hi)
      exact ⟨_, rfl, _, _, rfl, rfl, .inr ⟨by decide, by decide⟩, _, rfl, _, _, rfl, rfl, .inl ⟨_, rfl, _, _, rfl, rfl, (by show (0 : Int) < 1000003; decide), rfl, _, _, rfl⟩⟩
    · rintro σ H' ⟨rfl, y, z, rfl⟩
      have e1 : Ex H (upd H c (.lst (cutV (ns.map V.int) none (some 63)))) := Ex.new nc
      refine ⟨_, rfl, _, _, rfl, .inl (ex_l e1 hs), fun l nl => ⟨_, rfl, (by show 5 ≤ sizeLine; decide), fun p np => ?_⟩⟩
      have e2 := e1.trans (Ex.new (o := .lst (ns.map V.int)) nl)
      have npl : l ≠ p := ne_of_none upd_same np
      exact q p l _ ⟨ns, 0, 0, 0, y, upd_same, by rw [hid_ne npl, upd_ne npl]; exact upd_same, hn⟩ (e2.trans (Ex.new np)) (fresh_back e2 np)
end
end G
namespace G
open PySem PySem.Spec PyProof.Rows L2 Evl
def bitsOf (x m : Nat) : List Bool := (List.range m).map fun k => x.testBit k
theorem bitsOf_len (x m : Nat) : (bitsOf x m).length = m := by unfold bitsOf; rw [List.length_map, List.length_range]
theorem bitsOf_succ (x m : Nat) : bitsOf x (m + 1) = bitsOf x m ++ [x.testBit m] := by unfold bitsOf; rw [List.range_succ, List.map_append]; rfl
theorem bit_at (x i : Nat) : decide (V.int (((x / 2 ^ i : Nat) : Int) % 2) = V.int 1) = x.testBit i := by
  rw [Nat.testBit_eq_decide_div_mod_eq, Bool.eq_iff_iff, decide_eq_true_iff, decide_eq_true_iff, V.int.injEq]
  omega
theorem half_at (x i : Nat) : ((x / 2 ^ i : Nat) : Int) / 2 = ((x / 2 ^ (i + 1) : Nat) : Int) := by
  rw [Nat.pow_succ, ← Nat.div_div_eq_div_mul]
  omega
section
variable {P : Program} {w : World} {K : PySem.W.Frag} {mg : Str → Option Value} {base : Heap}
def spBits : Sp := fun vs H Q _ => ∃ (x m : Nat), vs = [.int x, .int m] ∧ m ≤ 1000 ∧ ∀ (t : Addr) (H' : Hp), H t = none → Ex H H' → H' t = some (.tup ((bitsOf x m).map V.bl)) → Q (.ref t) H'
theorem sc_law_bits : FnScope ["index", "many", "out", "k"] ["index", "many"] (defScope s_law_bits) := ⟨rfl, rfl, rfl, by decide +kernel, rfl, by decide +kernel, by decide +kernel⟩
theorem ok_law_bits (D : Dfd K mg "_law_bits" s_law_bits ["index", "many"]) (T : TxtS mg) : Has P w K mg base 1 "_law_bits" ["index", "many"] spBits := by
  refine D.has fun f fd F => F.ok sc_law_bits (fun vs H Q E h => ?_) (fun cdv A outer s H vs Q E hr h => ?_)
  · obtain ⟨c, _, rfl, _⟩ := h
    rfl
  · obtain ⟨x, m, rfl, hm, q⟩ := h
    refine ⟨_, (pss_cons (ps_set (i := 2) sc_law_bits.nd rfl (.inl rfl) (pe_lst pa_nil))
    (pss_cons (ps_for PassesOwn.never rfl (pi_range1 rfl T.range (pa_cons (pv 1) pa_nil)) (pg_name (i := 3) sc_law_bits.nd rfl (.inl rfl))
      (pss_cons (ps_expr (pe_bm PySem.F.plainAttrs_list PySem.F.slot_list_append PySem.F.type_list_append mt_append (pv 2) (pa_cons (pe_cmpR op_eq (pe_op op_mod (pe_callTy call_int1 (by rfl) T.int (by decide +kernel) (pa_cons (pv 0) pa_nil)) pe_int) pe_int (nomark _)) pa_nil)))
      (pss_one (ps_set (i := 0) sc_law_bits.nd rfl (.inl rfl) (pe_op op_fdiv (pv 0) pe_int)))))
    (pss_one (ps_ret (pe_callTy call_tuple_of (by rfl) T.tuple (by decide +kernel) (pa_cons (pv 2) pa_nil)))))), ?_⟩
    refine ⟨Nat.zero_le _, fun o no => ⟨_, rfl, _, rfl, by omega, by omega, for_range (n := ((m : Int)).toNat) (fun i σ H' => H' = upd H o (.lst ((bitsOf x i).map V.bl)) ∧ ∃ z : Option V, σ = [some (.int ((x / 2 ^ i : Nat) : Int)), some (.int m), some (.ref o), z]) ⟨rfl, _, by rw [Nat.pow_zero, Nat.div_one]; rfl⟩ ?_ ?_⟩⟩
    · rintro i σ H' hi ⟨rfl, z, rfl⟩
      refine ⟨_, rfl, .inl ⟨rfl, _, SqL.of upd_same⟩, _, rfl, .inl ⟨_, rfl, _, _, rfl, rfl, (by show (0 : Int) < 2; decide), rfl, o, _, _, rfl, rfl, upd_same, ?_, _, rfl, _, _, rfl, rfl, ⟨by decide, by decide⟩, ?_, some (.int (0 + (i : Int))), ?_⟩⟩
      · exact sz_lt (by rw [List.length_map, bitsOf_len]; omega)
      · rw [upd_upd, bit_at, bitsOf_succ, List.map_append]; rfl
      · rw [← half_at]; rfl
    · rintro σ H' ⟨rfl, z, rfl⟩
      refine ⟨_, rfl, _, _, rfl, .inl ⟨SqL.of upd_same, fun t nt => ?_⟩⟩
      have e1 : Ex H (upd H o (.lst ((bitsOf x ((m : Int)).toNat).map V.bl))) := Ex.new no
      exact q t _ (fresh_back e1 nt) (e1.trans (Ex.new nt)) upd_same
end
end G
namespace G
open PySem PySem.Spec PyProof.Rows L2 Evl
theorem pow7 : ∀ {m : Nat}, m ≤ 6 → ([.int 1, .int 2, .int 4, .int 8, .int 16, .int 32, .int 64] : List V)[m]? = some (.int ((2 ^ m : Nat) : Int))
  | 0, _ => rfl | 1, _ => rfl | 2, _ => rfl | 3, _ => rfl | 4, _ => rfl | 5, _ => rfl | 6, _ => rfl
  | n + 7, h => by omega
theorem pow6 : ∀ {m : Nat}, m ≤ 5 → ([.int 1, .int 2, .int 4, .int 8, .int 16, .int 32] : List V)[m]? = some (.int ((2 ^ m : Nat) : Int))
  | 0, _ => rfl | 1, _ => rfl | 2, _ => rfl | 3, _ => rfl | 4, _ => rfl | 5, _ => rfl
  | n + 6, h => by omega
theorem pow_le64 {m : Nat} (h : m ≤ 6) : 2 ^ m ≤ 64 := Nat.le_trans (Nat.pow_le_pow_right (by decide) h) (by decide)
theorem pow_pos2 (m : Nat) : 0 < 2 ^ m := Nat.pow_pos (by decide)
theorem divW_small {i : Int} {j : Nat} (h : 0 < j) (h9 : j ≤ 1000) : CDivW i (j : Int) := wide_div (b := 20) (by omega) (by
  rw [Int.natAbs_natCast]
  exact Nat.lt_of_le_of_lt h9 (by decide)) (by decide) (by decide)
section
variable {P : Program} {w : World} {K : PySem.W.Frag} {mg : Str → Option Value} {base : Heap}
/-- a table of m inputs -/
def spTable : Sp := fun vs H Q _ => ∃ (p a : Addr) (m : Nat), vs = [.ref p, .int m] ∧ m ≤ 6 ∧ PoolOk p a H ∧ ∀ (t : Addr) (bs : List Bool) (H' : Hp), bs.length = 2 ^ m → Px p a H H' → H t = none → H' t = some (.tup (bs.map V.bl)) → Q (.ref t) H'
theorem sc_law_table : FnScope ["pool", "many", "size", "kind", "value", "low", "place", "number", "bit", "k"] ["pool", "many"] (defScope s_law_table) := ⟨rfl, rfl, rfl, by decide +kernel, rfl, by decide +kernel, by decide +kernel⟩
theorem ok_law_table (D : Dfd K mg "_law_table" s_law_table ["pool", "many"]) (T : TxtS mg) (C : Has P w K mg base 2 "_law_draw" ["pool", "many"] spDrawX) (C2 : Has P w K mg base 1 "_law_bits" ["index", "many"] spBits) : Has P w K mg base 3 "_law_table" ["pool", "many"] spTable := by
  obtain ⟨f_law_draw, d_law_draw, G_law_draw, g_law_draw, k_law_draw, b_law_draw⟩ := C
  obtain ⟨f_law_bits, d_law_bits, G_law_bits, g_law_bits, k_law_bits, b_law_bits⟩ := C2
  refine D.has fun f fd F => F.ok sc_law_table (fun vs H Q E h => ?_) (fun cdv A outer s H vs Q E hr h => ?_)
  · obtain ⟨c, _, _, rfl, _⟩ := h
    rfl
  · obtain ⟨p, a, m, rfl, hm, hp, q⟩ := h
    have h64 := pow_le64 hm
    have hpos := pow_pos2 m
    refine ⟨_, (pss_cons (ps_set (i := 2) sc_law_table.nd rfl (.inl rfl) (pe_ix ix_list (pe_lst (pa_cons pe_int (pa_cons pe_int (pa_cons pe_int (pa_cons pe_int (pa_cons pe_int (pa_cons pe_int (pa_cons pe_int pa_nil)))))))) (pv 1) (fun _ _ => rfl)))
    (pss_cons (ps_set (i := 3) sc_law_table.nd rfl (.inl rfl) (pe_call G_law_draw hr (by rfl) g_law_draw k_law_draw b_law_draw .nil pass0 (pa_cons (pv 0) (pa_cons pe_int pa_nil))))
    (pss_cons (ps_if (pt_cmpR op_eq (pv 3) pe_int (nomark _))
      (pss_cons (ps_set (i := 4) sc_law_table.nd rfl (.inr rfl) (pe_cmpR op_eq (pe_call G_law_draw hr (by rfl) g_law_draw k_law_draw b_law_draw .nil pass0 (pa_cons (pv 0) (pa_cons pe_int pa_nil))) pe_int (nomark _)))
      (pss_one (ps_ret (pe_callTy call_tuple_of (by rfl) T.tuple (by decide +kernel) (pa_cons (pe_lc (own := [("k", 9)]) (g := gName 9) (tt := tYes) rfl sc_law_table.nd (pi_range1 rfl T.range (pa_cons (pv 2) pa_nil)) (blkOk_by (N := ["pool", "many", "size", "kind", "value", "low", "place", "number", "bit", "k"]) (sc := defScope s_law_table) (own := [("k", 9)]) (by decide +kernel)) (fun _ _ _ _ _ => (pg_name (i := 9) sc_law_table.nd rfl (.inl rfl))) (fun _ _ _ _ _ => pts_nil) (fun _ _ _ _ _ => (pv 4))) pa_nil)))))
      pss_nil)
    (pss_cut (ps_if (PW.pt (pw_and (pt_cmpR op_eq (pv 3) pe_int (nomark _)) (pw_and1 (pt_cmpR op_gt (pv 1) pe_int (nomark _)))))
      (pss_cons (ps_set (i := 5) sc_law_table.nd rfl (.inr rfl) (pe_ix ix_list (pe_lst (pa_cons pe_int (pa_cons pe_int (pa_cons pe_int (pa_cons pe_int (pa_cons pe_int (pa_cons pe_int pa_nil))))))) (pe_call G_law_draw hr (by rfl) g_law_draw k_law_draw b_law_draw .nil pass0 (pa_cons (pv 0) (pa_cons (pv 1) pa_nil))) (fun _ _ => rfl)))
      (pss_one (ps_ret (pe_callTy call_tuple_of (by rfl) T.tuple (by decide +kernel) (pa_cons (pe_lc (own := [("k", 9)]) (g := gName 9) (tt := tYes) rfl sc_law_table.nd (pi_range1 rfl T.range (pa_cons (pv 2) pa_nil)) (blkOk_by (N := ["pool", "many", "size", "kind", "value", "low", "place", "number", "bit", "k"]) (sc := defScope s_law_table) (own := [("k", 9)]) (by decide +kernel)) (fun _ _ _ _ _ => (pg_name (i := 9) sc_law_table.nd rfl (.inl rfl))) (fun _ _ _ _ _ => pts_nil) (fun _ _ _ _ _ => (pe_cmpR op_eq (pe_op op_mod (pe_callTy call_int1 (by rfl) T.int (by decide +kernel) (pa_cons (pe_op op_fdivW (pv 9) (pv 5)) pa_nil)) pe_int) pe_int (nomark _)))) pa_nil)))))
      pss_nil)
    (pss_cons (ps_if (pt_cmpR op_eq (pv 3) pe_int (nomark _))
      (pss_cons (ps_set (i := 6) sc_law_table.nd rfl (.inr rfl) (pe_call G_law_draw hr (by rfl) g_law_draw k_law_draw b_law_draw .nil pass0 (pa_cons (pv 0) (pa_cons (pv 2) pa_nil))))
      (pss_one (ps_ret (pe_callTy call_tuple_of (by rfl) T.tuple (by decide +kernel) (pa_cons (pe_lc (own := [("k", 9)]) (g := gName 9) (tt := tYes) rfl sc_law_table.nd (pi_range1 rfl T.range (pa_cons (pv 2) pa_nil)) (blkOk_by (N := ["pool", "many", "size", "kind", "value", "low", "place", "number", "bit", "k"]) (sc := defScope s_law_table) (own := [("k", 9)]) (by decide +kernel)) (fun _ _ _ _ _ => (pg_name (i := 9) sc_law_table.nd rfl (.inl rfl))) (fun _ _ _ _ _ => pts_nil) (fun _ _ _ _ _ => (pe_cmpR op_eq (pv 9) (pv 6) (nomark _)))) pa_nil)))))
      pss_nil)
    (pss_cons (ps_set (i := 7) sc_law_table.nd rfl (.inl rfl) (pe_call G_law_draw hr (by rfl) g_law_draw k_law_draw b_law_draw .nil pass0 (pa_cons (pv 0) (pa_cons (pe_op op_pow pe_int pe_int) pa_nil))))
    (pss_one (ps_ret (pe_callTy call_tuple_of (by rfl) T.tuple (by decide +kernel) (pa_cons (pe_lc (own := [("bit", 8)]) (g := gName 8) (tt := tYes) rfl sc_law_table.nd (pi_tup (pe_call G_law_bits (hr.mono (by decide)) (by rfl) g_law_bits k_law_bits b_law_bits .nil pass0 (pa_cons (pv 7) (pa_cons (pv 2) pa_nil)))) (blkOk_by (N := ["pool", "many", "size", "kind", "value", "low", "place", "number", "bit", "k"]) (sc := defScope s_law_table) (own := [("bit", 8)]) (by decide +kernel)) (fun _ _ _ _ _ => (pg_name (i := 8) sc_law_table.nd rfl (.inl rfl))) (fun _ _ _ _ _ => pts_nil) (fun _ _ _ _ _ => (pv 8))) pa_nil)))))))))), ?_⟩
    refine ⟨(by show 7 ≤ sizeLine; decide), fun l nl => ⟨_, rfl, _, _, _, _, rfl, rfl, SqL.of upd_same, atI_nat (pow7 hm), ?_⟩⟩
    have X1 : Px p a H (upd H l (.lst [.int 1, .int 2, .int 4, .int 8, .int 16, .int 32, .int 64])) := (Px.refl hp).new nl
    refine ⟨_, rfl, p, a, 6, rfl, by decide, by decide, X1.pool, fun kind H2 hk X2 _ => ?_⟩
    have Y2 := X1.trans X2
    refine ⟨_, rfl, rfl, _, rfl, ite2 (fun e => ?_) (fun e => ?_)⟩
    · refine ⟨_, rfl, p, a, 2, rfl, by decide, by decide, Y2.pool, fun v H3 hv X3 _ => ⟨rfl, ?_⟩⟩
      have Y3 := Y2.trans X3
      refine ⟨_, rfl, _, rfl, by omega, by omega, fun L nL => lcRv (fun _ => .bl (decide (V.int v = V.int 1))) (by omega) (fun _ => rfl) (fun i H4 _ _ Q q => ⟨_, rfl, q⟩) ⟨_, _, rfl, .inl ⟨SqL.of upd_same, fun t nt => ?_⟩⟩⟩
      exact q t ((List.range ((2 ^ m : Nat) : Int).toNat).map fun _ => decide (V.int v = V.int 1)) _ (by rw [List.length_map, List.length_range]; omega) ((Y3.new nL).new nt) ((Y3.new nL).free nt) (by rw [upd_same, List.map_map]; rfl)
    · refine ⟨fun σ H' => σ = [some (.ref p), some (.int m), some (.int ((2 ^ m : Nat) : Int)), some (.int kind), none, none, none, none, none, none] ∧ H' = H2, ?_, ?_⟩
      · refine ⟨_, rfl, rfl, _, rfl, ite2 (fun e1 => ?_) (fun e1 => iteF ⟨rfl, rfl⟩)⟩
        refine ⟨_, rfl, _, _, rfl, rfl, _, rfl, ite2 (fun e2 => ?_) (fun e2 => ⟨rfl, rfl⟩)⟩
        have hm0 : 0 < m := by have := of_decide_eq_true e2; omega
        refine ⟨(by show 6 ≤ sizeLine; decide), fun l2 nl2 => ⟨_, rfl, _, rfl, p, a, m, rfl, by omega, by omega, (Y2.new nl2).pool, fun v H3 hv X3 hk3 => ?_⟩⟩
        have Y3 := (Y2.new nl2).trans X3
        have h2 : H3 l2 = some (.lst [.int 1, .int 2, .int 4, .int 8, .int 16, .int 32]) := by rw [hk3 _ (Y2.pool.ne nl2)]; exact upd_same
        refine ⟨_, _, _, _, rfl, rfl, SqL.of h2, atI_nat (pow6 (by omega)), ?_⟩
        refine ⟨_, rfl, _, rfl, by omega, by omega, fun L nL => lcRv (fun (i : Nat) => .bl (decide (V.int ((0 + (i : Int)) / ((2 ^ v : Nat) : Int) % 2) = V.int 1))) (by omega) (fun _ => rfl) (fun i H4 _ _ Q q => ⟨_, rfl, _, rfl, _, _, rfl, rfl, divW_small (pow_pos2 v) (Nat.le_trans (pow_le64 (by omega)) (by decide)), .inl ⟨_, rfl, _, _, rfl, rfl, (by show (0 : Int) < 2; decide), rfl, q⟩⟩) ⟨_, _, rfl, .inl ⟨SqL.of upd_same, fun t nt => ?_⟩⟩⟩
        exact q t ((List.range ((2 ^ m : Nat) : Int).toNat).map fun (i : Nat) => decide (V.int ((0 + (i : Int)) / ((2 ^ v : Nat) : Int) % 2) = V.int 1)) _ (by rw [List.length_map, List.length_range]; omega) ((Y3.new nL).new nt) ((Y3.new nL).free nt) (by rw [upd_same, List.map_map]; rfl)
      · rintro σ H' ⟨rfl, rfl⟩
        refine ⟨_, rfl, rfl, _, rfl, ite2 (fun e1 => ?_) (fun e1 => ?_)⟩
        · refine ⟨_, rfl, _, rfl, p, a, ((2 ^ m : Nat) : Int), rfl, by omega, by omega, Y2.pool, fun v H3 hv X3 _ => ?_⟩
          have Y3 := Y2.trans X3
          refine ⟨_, rfl, _, rfl, by omega, by omega, fun L nL => lcRv (fun (i : Nat) => .bl (decide (V.int (0 + (i : Int)) = V.int v))) (by omega) (fun _ => rfl) (fun i H4 _ _ Q q => ⟨_, rfl, _, rfl, rfl, q⟩) ⟨_, _, rfl, .inl ⟨SqL.of upd_same, fun t nt => ?_⟩⟩⟩
          exact q t ((List.range ((2 ^ m : Nat) : Int).toNat).map fun (i : Nat) => decide (V.int (0 + (i : Int)) = V.int v)) _ (by rw [List.length_map, List.length_range]; omega) ((Y3.new nL).new nt) ((Y3.new nL).free nt) (by rw [upd_same, List.map_map]; rfl)
        · refine ⟨_, rfl, _, _, rfl, rfl, ⟨by decide, by decide, by decide⟩, p, a, _, rfl, by decide, by decide, Y2.pool, fun v H3 hv X3 _ => ?_⟩
          have Y3 := Y2.trans X3
          refine ⟨_, rfl, _, rfl, v, 2 ^ m, rfl, by omega, fun t1 H4 n1 E1 h1 => ⟨t1, rfl, ⟨_, SqT.of h1⟩, fun L nL => lcTm (xs := (bitsOf v (2 ^ m)).map V.bl) id (SqT.of h1) nL (by rw [List.length_map, bitsOf_len]; omega) (fun _ => rfl) (fun i x H4 _ _ Q q => ⟨_, rfl, q⟩) ⟨_, _, rfl, .inl ⟨SqL.of upd_same, fun t nt => ?_⟩⟩⟩⟩
          have Y4 := Y3.more E1
          exact q t (bitsOf v (2 ^ m)) _ (bitsOf_len _ _) ((Y4.new nL).new nt) ((Y4.new nL).free nt) (by rw [upd_same, List.map_id])
end
end G
namespace G
open PySem PySem.Spec PyProof.Rows L2 Evl
/-! ## tuples never change -/
def TEx (H H' : Hp) : Prop := ∀ (b : Addr) (xs : List V), H b = some (.tup xs) → H' b = some (.tup xs)
theorem TEx.refl (H : Hp) : TEx H H := fun _ _ h => h
theorem TEx.trans {H H1 H2 : Hp} (a : TEx H H1) (b : TEx H1 H2) : TEx H H2 := fun c xs h => b c xs (a c xs h)
theorem TEx.of {H H' : Hp} (e : Ex H H') : TEx H H' := fun b xs h => e b _ h
theorem TEx.px {p a : Addr} {H H' : Hp} (x : Px p a H H') : TEx H H' := fun b xs h => by
  obtain ⟨_, _, _, _, _, e, _⟩ := x.was
  exact x.at_ (b := b) (o := .tup xs) (by rw [hid_ne (ne_of h e (by intro z; cases z))]; exact h)
theorem TEx.new {H : Hp} {b : Addr} {o : HO} (n : H b = none) : TEx H (upd H b o) := .of (Ex.new n)
theorem TEx.mut {H : Hp} {b : Addr} {l : List V} {o : HO} (h : H b = some (.lst l)) : TEx H (upd H b o) := fun c xs hc => by
  rw [upd_ne (ne_of hc h (by intro z; cases z))]; exact hc
/-! ## circuits -/
structure GateD where
  name : Str
  tab : List Bool
  pins : List Str
  rng : List (Int × Int)
structure RegD where
  name : Str
  net : Str
  edge : Int × Int
  out : Int × Int
  setup : Int
  hold : Int
  start : Bool
structure CircD where
  ins : List Str
  gates : List GateD
  regs : List RegD
  outs : List (Str × Str)
def IntsAt (H : Hp) (a : Addr) (p : Int × Int) : Prop := H a = some (.tup [.int p.1, .int p.2])
def GateAt (H : Hp) (a : Addr) (g : GateD) : Prop := ∃ (t pt rt : Addr) (ra : List Addr), H a = some (.tup [.str g.name, .ref t, .ref pt, .ref rt]) ∧ H t = some (.tup (g.tab.map V.bl)) ∧ H pt = some (.tup (g.pins.map V.str)) ∧ H rt = some (.tup (ra.map V.ref)) ∧ All2 (IntsAt H) ra g.rng
def RegAt (H : Hp) (a : Addr) (r : RegD) : Prop := ∃ ea oa : Addr, H a = some (.tup [.str r.name, .str r.net, .ref ea, .ref oa, .int r.setup, .int r.hold, .bl r.start]) ∧ IntsAt H ea r.edge ∧ IntsAt H oa r.out
def OutAt (H : Hp) (a : Addr) (o : Str × Str) : Prop := H a = some (.tup [.str o.1, .str o.2])
structure CircAt (H : Hp) (c : Addr) (d : CircD) (it gt rt ot : Addr) (ga ra oa : List Addr) : Prop where
  top : H c = some (.tup [.ref it, .ref gt, .ref rt, .ref ot])
  ins : H it = some (.tup (d.ins.map V.str))
  gts : H gt = some (.tup (ga.map V.ref))
  rgs : H rt = some (.tup (ra.map V.ref))
  ots : H ot = some (.tup (oa.map V.ref))
  gates : All2 (GateAt H) ga d.gates
  regs : All2 (RegAt H) ra d.regs
  outs : All2 (OutAt H) oa d.outs
section
variable {H H' : Hp} {a c it gt rt ot : Addr} {g : GateD} {r : RegD} {d : CircD} {ga ra oa : List Addr}
theorem IntsAt.te {p : Int × Int} (e : TEx H H') (h : IntsAt H a p) : IntsAt H' a p := e _ _ h
theorem GateAt.te (e : TEx H H') (h : GateAt H a g) : GateAt H' a g := by
  obtain ⟨t, pt, rt, ra, h1, h2, h3, h4, h5⟩ := h
  exact ⟨t, pt, rt, ra, e _ _ h1, e _ _ h2, e _ _ h3, e _ _ h4, h5.imp fun _ _ z => z.te e⟩
theorem RegAt.te (e : TEx H H') (h : RegAt H a r) : RegAt H' a r := by
  obtain ⟨ea, oa, h1, h2, h3⟩ := h
  exact ⟨ea, oa, e _ _ h1, h2.te e, h3.te e⟩
theorem CircAt.te (e : TEx H H') (h : CircAt H c d it gt rt ot ga ra oa) : CircAt H' c d it gt rt ot ga ra oa :=
  ⟨e _ _ h.top, e _ _ h.ins, e _ _ h.gts, e _ _ h.rgs, e _ _ h.ots, h.gates.imp fun _ _ z => z.te e, h.regs.imp fun _ _ z => z.te e, h.outs.imp fun _ _ z => e _ _ z⟩
end
/-! ### the names that are given -/
def nm (c : Str) (k : Nat) : Str := c ++ Str.ofString (toString ((k : Nat) : Int))
structure RegWf (r : RegD) : Prop where
  e0 : 0 ≤ r.edge.1 ∧ r.edge.1 ≤ 2
  e1 : r.edge.1 ≤ r.edge.2 ∧ r.edge.2 ≤ r.edge.1 + 2
  o0 : 0 ≤ r.out.1 ∧ r.out.1 ≤ 3
  o1 : r.out.1 + 1 ≤ r.out.2 ∧ r.out.2 ≤ r.out.1 + 4
  su : 0 ≤ r.setup ∧ r.setup ≤ 3
  ho : 0 ≤ r.hold ∧ r.hold < r.out.2
structure GateWf (ns : List Str) (k : Nat) (g : GateD) : Prop where
  name : g.name = nm "g" k
  few : g.pins.length ≤ 3
  pins : ∀ x ∈ g.pins, x ∈ ns
  tab : g.tab.length = 2 ^ g.pins.length
  many : g.rng.length = g.pins.length
  rng : ∀ r ∈ g.rng, 0 ≤ r.1 ∧ r.1 ≤ 4 ∧ r.1 + 2 ≤ r.2 ∧ r.2 ≤ r.1 + 6
/-- the gates in the order of their making: each reads what stood before it -/
structure CircWf (most : Nat) (d : CircD) (G : List GateD) : Prop where
  ins : ∃ n, 1 ≤ n ∧ n ≤ 3 ∧ d.ins = (List.range n).map (nm "i")
  regs : ∃ n, n ≤ 3 ∧ d.regs.map (·.name) = (List.range n).map (nm "r")
  few : G.length ≤ most
  gates : ∀ k g, G[k]? = some g → GateWf (d.ins ++ d.regs.map (·.name) ++ (List.range k).map (nm "g")) k g
  perm : d.gates.Perm G
  rwf : ∀ r ∈ d.regs, RegWf r ∧ r.net ∈ d.ins ++ d.regs.map (·.name) ++ (List.range G.length).map (nm "g")
  outs : ∃ n, n ≤ 3 ∧ d.outs.map (·.1) = (List.range n).map (nm "p")
  onet : ∀ o ∈ d.outs, o.2 ∈ d.ins ++ d.regs.map (·.name) ++ (List.range G.length).map (nm "g")
section
variable {P : Program} {w : World} {K : PySem.W.Frag} {mg : Str → Option Value} {base : Heap}
def spReg : Sp := fun vs H Q _ => ∃ (p a : Addr) (n net : Str), vs = [.ref p, .str n, .str net] ∧ PoolOk p a H ∧ ∀ (x : Addr) (r : RegD) (H' : Hp), Px p a H H' → H x = none → RegAt H' x r → r.name = n → r.net = net → RegWf r → Q (.ref x) H'
theorem sc_law_register : FnScope ["pool", "name", "net", "edge", "out", "high", "wide"] ["pool", "name", "net"] (defScope s_law_register) := ⟨rfl, rfl, rfl, by decide +kernel, rfl, by decide +kernel, by decide +kernel⟩
theorem ok_law_register (D : Dfd K mg "_law_register" s_law_register ["pool", "name", "net"]) (C : Has P w K mg base 2 "_law_draw" ["pool", "many"] spDrawX) : Has P w K mg base 3 "_law_register" ["pool", "name", "net"] spReg := by
  obtain ⟨f_law_draw, d_law_draw, G_law_draw, g_law_draw, k_law_draw, b_law_draw⟩ := C
  refine D.has fun f fd F => F.ok sc_law_register (fun vs H Q E h => ?_) (fun cdv A outer s H vs Q E hr h => ?_)
  · obtain ⟨p, a, n, net, rfl, _⟩ := h
    rfl
  · obtain ⟨p, a, n, net, rfl, hp, q⟩ := h
    refine ⟨_, (pss_cons (ps_set (i := 3) sc_law_register.nd rfl (.inl rfl) (pe_call G_law_draw (hr.mono (by omega)) (by rfl) g_law_draw k_law_draw b_law_draw .nil pass0 (pa_cons (pv 0) (pa_cons pe_int pa_nil))))
    (pss_cons (ps_set (i := 4) sc_law_register.nd rfl (.inl rfl) (pe_call G_law_draw (hr.mono (by omega)) (by rfl) g_law_draw k_law_draw b_law_draw .nil pass0 (pa_cons (pv 0) (pa_cons pe_int pa_nil))))
    (pss_cons (ps_set (i := 5) sc_law_register.nd rfl (.inl rfl) (pe_op op_add (pe_op op_add (pv 4) pe_int) (pe_call G_law_draw (hr.mono (by omega)) (by rfl) g_law_draw k_law_draw b_law_draw .nil pass0 (pa_cons (pv 0) (pa_cons pe_int pa_nil)))))
    (pss_cons (ps_set (i := 6) sc_law_register.nd rfl (.inl rfl) (pe_op op_add (pv 3) (pe_call G_law_draw (hr.mono (by omega)) (by rfl) g_law_draw k_law_draw b_law_draw .nil pass0 (pa_cons (pv 0) (pa_cons pe_int pa_nil)))))
    (pss_one (ps_ret (pe_tup (pa_cons (pv 1) (pa_cons (pv 2) (pa_cons (pe_tup (pa_cons (pv 3) (pa_cons (pv 6) pa_nil))) (pa_cons (pe_tup (pa_cons (pv 4) (pa_cons (pv 5) pa_nil))) (pa_cons (pe_call G_law_draw (hr.mono (by omega)) (by rfl) g_law_draw k_law_draw b_law_draw .nil pass0 (pa_cons (pv 0) (pa_cons pe_int pa_nil))) (pa_cons (pe_call G_law_draw (hr.mono (by omega)) (by rfl) g_law_draw k_law_draw b_law_draw .nil pass0 (pa_cons (pv 0) (pa_cons (pv 5) pa_nil))) (pa_cons (pe_cmpR op_eq (pe_call G_law_draw (hr.mono (by omega)) (by rfl) g_law_draw k_law_draw b_law_draw .nil pass0 (pa_cons (pv 0) (pa_cons pe_int pa_nil))) pe_int (nomark _)) pa_nil)))))))))))))), ?_⟩
    refine ⟨_, rfl, p, a, 3, rfl, by decide, by decide, hp, fun v1 H1 h1 X1 _ => ?_⟩
    refine ⟨_, rfl, p, a, 4, rfl, by decide, by decide, X1.pool, fun v2 H2 h2 X2 _ => ?_⟩
    refine ⟨_, rfl, _, _, rfl, rfl, _, rfl, p, a, 4, rfl, by decide, by decide, X2.pool, fun v3 H3 h3 X3 _ => ⟨_, _, rfl, rfl, ?_⟩⟩
    refine ⟨_, rfl, _, rfl, p, a, 3, rfl, by decide, by decide, X3.pool, fun v4 H4 h4 X4 _ => ⟨_, _, rfl, rfl, ?_⟩⟩
    have Y4 := X1.trans (X2.trans (X3.trans X4))
    refine ⟨_, rfl, _, rfl, _, rfl, _, rfl, (by show 2 ≤ sizeLine; decide), fun e1 n1 => ⟨_, rfl, _, rfl, (by show 2 ≤ sizeLine; decide), fun e2 n2 => ?_⟩⟩
    have Y5 := (Y4.new (o := .tup [.int v1, .int ((v1 : Int) + v4)]) n1).new (o := .tup [.int v2, .int ((v2 : Int) + 1 + v3)]) n2
    have t1 : upd (upd H4 e1 (.tup [.int v1, .int ((v1 : Int) + v4)])) e2 (.tup [.int v2, .int ((v2 : Int) + 1 + v3)]) e1 = some (.tup [.int v1, .int ((v1 : Int) + v4)]) := by rw [upd_ne (ne_of_none upd_same n2)]; exact upd_same
    have t2 : upd (upd H4 e1 (.tup [.int v1, .int ((v1 : Int) + v4)])) e2 (.tup [.int v2, .int ((v2 : Int) + 1 + v3)]) e2 = some (.tup [.int v2, .int ((v2 : Int) + 1 + v3)]) := upd_same
    generalize upd (upd H4 e1 (.tup [.int v1, .int ((v1 : Int) + v4)])) e2 (.tup [.int v2, .int ((v2 : Int) + 1 + v3)]) = H5 at *
    refine ⟨_, rfl, p, a, 4, rfl, by decide, by decide, Y5.pool, fun v5 H6 h5 X6 _ => ?_⟩
    refine ⟨_, rfl, _, rfl, p, a, (v2 : Int) + 1 + v3, rfl, by omega, by omega, X6.pool, fun v6 H7 h6 X7 _ => ?_⟩
    refine ⟨_, rfl, p, a, 2, rfl, by decide, by decide, X7.pool, fun v7 H8 h7 X8 _ => ⟨rfl, (by show 7 ≤ sizeLine; decide), fun x nx => ?_⟩⟩
    have Y8 := X6.trans (X7.trans X8)
    have T8 := (TEx.px Y8).trans (TEx.new (o := .tup [.str n, .str net, .ref e1, .ref e2, .int v5, .int v6, .bl (decide (V.int v7 = V.int 1))]) nx)
    exact q x ⟨n, net, (v1, (v1 : Int) + v4), (v2, (v2 : Int) + 1 + v3), v5, v6, decide (V.int v7 = V.int 1)⟩ _ ((Y5.trans Y8).new nx) ((Y5.trans Y8).free nx) ⟨e1, e2, upd_same, T8 _ _ t1, T8 _ _ t2⟩ rfl rfl
      ⟨by constructor <;> simp <;> omega, by constructor <;> simp <;> omega, by constructor <;> simp <;> omega, by constructor <;> simp <;> omega, by constructor <;> simp <;> omega, by constructor <;> simp <;> omega⟩
theorem nm_small : ∀ c ∈ (["i", "r", "g", "p"] : List Str), ∀ k, k < 20 → c.length + (Str.ofString (toString ((k : Nat) : Int))).length ≤ 1000 ∧ ((k : Nat) : Int).natAbs.log2 < 1920 := by decide +kernel
/-- 'x' + str(k), read -/
theorem nm_read {c : Str} {k : Nat} (hc : c ∈ (["i", "r", "g", "p"] : List Str)) (hk : k < 20) : ((k : Nat) : Int).natAbs.log2 < 1920 ∧ c.length + (Str.ofString (toString ((k : Nat) : Int))).length ≤ sizeLine :=
  ⟨(nm_small c hc k hk).2, sz_of (Nat.le_trans (nm_small c hc k hk).1 (by decide))⟩
theorem keep1 {p M x : Addr} {H : Hp} {o o' : HO} (e : hid p H x = some o) (hx : x ≠ M) (hM : M ≠ p) : hid p (upd H M o') x = some o := by
  rw [hid_upd_ne hM, upd_ne hx]; exact e
theorem hid_new {p M : Addr} {H : Hp} {o : HO} (hM : M ≠ p) : hid p (upd H M o) M = some o := by
  rw [hid_ne hM]; exact upd_same
theorem erase_perm {α : Type} : ∀ (l : List α) (v : Nat) (h : v < l.length), (l[v] :: l.eraseIdx v).Perm l
  | [], v, h => absurd h (Nat.not_lt_zero _)
  | a :: r, 0, _ => .refl _
  | a :: r, v + 1, h => by
    have h' : v < r.length := Nat.lt_of_succ_lt_succ h
    have ih := erase_perm r v h'
    show (r[v] :: a :: r.eraseIdx v).Perm (a :: r)
    exact (List.Perm.swap ..).trans (ih.cons a)
def spShuf : Sp := fun vs H Q _ => ∃ (p a l : Addr) (xs : List V), vs = [.ref p, .ref l] ∧ PoolOk p a H ∧ hid p H l = some (.lst xs) ∧ xs.length ≤ 100 ∧ ∀ (o : Addr) (ys : List V) (H' : Hp), Px p a H H' → H o = none → H' o = some (.lst ys) → ys.Perm xs → Q (.ref o) H'
theorem sc_law_shuffled : FnScope ["pool", "rows", "left", "out", "k"] ["pool", "rows"] (defScope s_law_shuffled) := ⟨rfl, rfl, rfl, by decide +kernel, rfl, by decide +kernel, by decide +kernel⟩
theorem ok_law_shuffled (D : Dfd K mg "_law_shuffled" s_law_shuffled ["pool", "rows"]) (T : TxtS mg) (C : Has P w K mg base 2 "_law_draw" ["pool", "many"] spDrawX) : Has P w K mg base 3 "_law_shuffled" ["pool", "rows"] spShuf := by
  obtain ⟨f_law_draw, d_law_draw, G_law_draw, g_law_draw, k_law_draw, b_law_draw⟩ := C
  refine D.has fun f fd F => F.ok sc_law_shuffled (fun vs H Q E h => ?_) (fun cdv A outer s H vs Q E hr h => ?_)
  · obtain ⟨p, a, l, xs, rfl, _⟩ := h
    rfl
  · obtain ⟨p, a, l, xs, rfl, hp, hl, hn, q⟩ := h
    refine ⟨_, (pss_cons (ps_set (i := 2) sc_law_shuffled.nd rfl (.inl rfl) (pe_callTy call_list_of (by rfl) T.list (by decide +kernel) (pa_cons (pv 1) pa_nil)))
    (pss_cons (ps_set (i := 3) sc_law_shuffled.nd rfl (.inl rfl) (pe_lst pa_nil))
    (pss_cons (ps_for PassesOwn.never rfl (pi_range1 rfl T.range (pa_cons (pe_callB call_len_seq (by rfl) T.len (by decide +kernel) (pa_cons (pv 1) pa_nil)) pa_nil)) (pg_name (i := 4) sc_law_shuffled.nd rfl (.inl rfl))
      (pss_one (ps_expr (pe_bm PySem.F.plainAttrs_list PySem.F.slot_list_append PySem.F.type_list_append mt_append (pv 3) (pa_cons (pe_bm PySem.F.plainAttrs_list PySem.F.slot_list_pop PySem.F.type_list_pop mt_popAt (pv 2) (pa_cons (pe_call G_law_draw (hr.mono (by omega)) (by rfl) g_law_draw k_law_draw b_law_draw .nil pass0 (pa_cons (pv 0) (pa_cons (pe_callB call_len_seq (by rfl) T.len (by decide +kernel) (pa_cons (pv 2) pa_nil)) pa_nil))) pa_nil)) pa_nil)))))
    (pss_one (ps_ret (pv 3)))))), ?_⟩
    refine ⟨_, rfl, _, _, rfl, .inl (SqL.of (hid_get hl)), fun lf nlf => ⟨Nat.zero_le _, fun o no => ?_⟩⟩
    have X0 := ((Px.refl hp).new (o := .lst xs) nlf).new (o := .lst []) no
    have plf := hp.ne nlf
    have nlo : lf ≠ o := ne_of_none upd_same no
    have nHo : H o = none := by
      have z := no
      rw [upd_ne nlo.symm] at z; exact z
    have po := hp.ne nHo
    have h1 : hid p (upd (upd H lf (.lst xs)) o (.lst [])) lf = some (.lst xs) := keep1 (hid_new plf) nlo po
    have h2 : hid p (upd (upd H lf (.lst xs)) o (.lst [])) o = some (.lst []) := hid_new po
    generalize upd (upd H lf (.lst xs)) o (.lst []) = H0 at *
    refine ⟨_, rfl, _, _, rfl, .inl (SqL.of (X0.at_ hl)), _, rfl, by omega, by omega, for_range (n := ((xs.length : Nat) : Int).toNat)
      (fun i σ H' => Px p a H H' ∧ ∃ (ls os : List V) (z : Option V), hid p H' lf = some (.lst ls) ∧ hid p H' o = some (.lst os) ∧ (os ++ ls).Perm xs ∧ os.length = i ∧ σ = [some (.ref p), some (.ref l), some (.ref lf), some (.ref o), z])
      ⟨X0, xs, [], _, h1, h2, .refl _, rfl, rfl⟩ ?_ ?_⟩
    · rintro i σ H1 hi ⟨X1, ls, os, z, hls, hos, hperm, hoi, rfl⟩
      rw [Int.toNat_natCast] at hi
      have hlen := hperm.length_eq
      rw [List.length_append] at hlen
      have hpos : 0 < ls.length := by omega
      refine ⟨_, rfl, .inl ⟨rfl, _, SqL.of (hid_get hos)⟩, _, rfl, .inl ⟨rfl, _, SqL.of (hid_get hls)⟩, _, rfl, _, rfl, _, _, rfl, .inl (SqL.of (hid_get hls)), p, a, ls.length, rfl, by omega, by omega, X1.pool, fun v H2 hv X2 _ => ?_⟩
      have hv' : v < ls.length := by omega
      have hls2 := X2.get hls
      have hos2 := X2.get hos
      refine ⟨lf, ls, (v : Int), v, ls[v], rfl, rfl, hid_get hls2, by omega, by omega, ?_, List.getElem?_eq_getElem hv', ?_⟩
      · have := PyProof.Rows.seqIndex_at (i := (v : Int)) (n := ls.length) (by omega) (by omega)
        rw [Int.toNat_natCast] at this
        exact this
      · have hos3 : hid p (upd H2 lf (.lst (ls.eraseIdx v))) o = some (.lst os) := keep1 hos2 nlo.symm plf
        have X3 := (X1.trans X2).mut (o := .lst (ls.eraseIdx v)) nlf
        have hls3 : hid p (upd H2 lf (.lst (ls.eraseIdx v))) lf = some (.lst (ls.eraseIdx v)) := hid_new plf
        generalize upd H2 lf (.lst (ls.eraseIdx v)) = H3 at *
        refine ⟨o, os, ls[v], rfl, rfl, hid_get hos3, sz_lt (by omega), X3.mut nHo, ls.eraseIdx v, os ++ [ls[v]], _, keep1 hls3 nlo po, hid_new po, ?_, by rw [List.length_append, hoi]; rfl, rfl⟩
        refine List.Perm.trans ?_ hperm
        rw [List.append_assoc]
        exact List.Perm.append_left _ (erase_perm ls v hv')
    · rintro σ H1 ⟨X1, ls, os, z, hls, hos, hperm, hoi, rfl⟩
      rw [Int.toNat_natCast] at hoi
      have hlen := hperm.length_eq
      rw [List.length_append] at hlen
      have : ls = [] := List.length_eq_zero_iff.mp (by omega)
      rw [this, List.append_nil] at hperm
      exact ⟨_, rfl, q o os H1 X1 nHo (hid_get hos) hperm⟩
theorem nmi_str : ("i" : Str) ∈ (["i", "r", "g", "p"] : List Str) := by decide
theorem nmr_str : ("r" : Str) ∈ (["i", "r", "g", "p"] : List Str) := by decide
theorem nmg_str : ("g" : Str) ∈ (["i", "r", "g", "p"] : List Str) := by decide
theorem nmp_str : ("p" : Str) ∈ (["i", "r", "g", "p"] : List Str) := by decide
theorem strV_at {us : List Str} {i : Nat} (h : i < us.length) : (us.map V.str)[i]? = some (.str us[i]) := by rw [List.getElem?_map, List.getElem?_eq_getElem h]; rfl
theorem nms_snoc (c : Str) (k : Nat) : (List.range (k + 1)).map (nm c) = (List.range k).map (nm c) ++ [nm c k] := by rw [List.range_succ, List.map_append]; rfl
theorem All2.te {R : Hp → Addr → β → Prop} {as : List Addr} {bs : List β} {H H' : Hp} (f : ∀ a b, R H a b → R H' a b) (h : All2 (R H) as bs) : All2 (R H') as bs := h.imp f
/-- what a permutation of references refers to -/
theorem perm_refs {R : Addr → GateD → Prop} {as : List Addr} {G : List GateD} (h : All2 R as G) {vs : List V} (p : vs.Perm (as.map V.ref)) : ∃ (bs : List Addr) (F : List GateD), vs = bs.map V.ref ∧ All2 R bs F ∧ F.Perm G := by
  have z : ∀ {xs ys : List V}, xs.Perm ys → ∀ (as : List Addr) (G : List GateD), ys = as.map V.ref → All2 R as G → ∃ (bs : List Addr) (F : List GateD), xs = bs.map V.ref ∧ All2 R bs F ∧ F.Perm G := by
    intro xs ys pp
    induction pp with
    | nil =>
      intro as G e h
      have : as = [] := by
        cases as with
        | nil => rfl
        | cons _ _ => cases e
      subst this
      have : G = [] := List.length_eq_zero_iff.mp h.1.symm
      subst this
      exact ⟨[], [], rfl, .nil, .refl _⟩
    | @cons x l1 l2 _ ih =>
      intro as G e h
      cases as with
      | nil => cases e
      | cons a as =>
        cases G with
        | nil => exact nomatch h.1
        | cons g G =>
          obtain ⟨e1, e2⟩ := List.cons.inj e
          have h2 : All2 R as G := ⟨Nat.succ.inj h.1, fun i x y q1 q2 => h.2 (i + 1) x y q1 q2⟩
          obtain ⟨bs, F, f1, f2, f3⟩ := ih as G e2 h2
          exact ⟨a :: bs, g :: F, by rw [e1, f1]; rfl, .cons (h.2 0 a g rfl rfl) f2, f3.cons g⟩
    | @swap x y l =>
      intro as G e h
      match as, G, h with
      | [], _, _ => cases e
      | [_], _, _ => cases e
      | _ :: _ :: _, [], h => exact nomatch h.1
      | _ :: _ :: _, [_], h => exact nomatch Nat.succ.inj h.1
      | a :: b :: as, g :: k :: G, h =>
        obtain ⟨e1, e2⟩ := List.cons.inj e
        obtain ⟨e3, e4⟩ := List.cons.inj e2
        have h2 : All2 R as G := ⟨Nat.succ.inj (Nat.succ.inj h.1), fun i x y q1 q2 => h.2 (i + 2) x y q1 q2⟩
        exact ⟨b :: a :: as, k :: g :: G, by rw [e1, e3, e4]; rfl, .cons (h.2 1 b k rfl rfl) (.cons (h.2 0 a g rfl rfl) h2), .swap ..⟩
    | trans _ _ ih1 ih2 =>
      intro as G e h
      obtain ⟨bs, F, f1, f2, f3⟩ := ih2 as G e h
      obtain ⟨cs, F2, g1, g2, g3⟩ := ih1 bs F f1 f2
      exact ⟨cs, F2, g1, g2, g3.trans f3⟩
  exact z p as G rfl h
def spCirc : Sp := fun vs H Q _ => ∃ (p a : Addr) (most : Nat), vs = [.ref p, .int most] ∧ most ≤ 15 ∧ PoolOk p a H ∧ ∀ (c : Addr) (d : CircD) (G : List GateD) (it gt rt ot : Addr) (ga ra oa : List Addr) (H' : Hp), Px p a H H' → CircAt H' c d it gt rt ot ga ra oa → CircWf most d G → Q (.ref c) H'
theorem sc_law_circuit : FnScope ["pool", "most", "k", "inputs", "stored", "nets", "gates", "pins", "ranges", "pin", "low", "regs", "outputs", "name", "j"] ["pool", "most"] (defScope s_law_circuit) := ⟨rfl, rfl, rfl, by decide +kernel, rfl, by decide +kernel, by decide +kernel⟩
theorem ok_law_circuit (D : Dfd K mg "_law_circuit" s_law_circuit ["pool", "most"]) (T : TxtS mg) (C1 : Has P w K mg base 2 "_law_draw" ["pool", "many"] spDrawX) (C2 : Has P w K mg base 3 "_law_table" ["pool", "many"] spTable) (C3 : Has P w K mg base 3 "_law_register" ["pool", "name", "net"] spReg)
    (C4 : Has P w K mg base 3 "_law_shuffled" ["pool", "rows"] spShuf) : Has P w K mg base 4 "_law_circuit" ["pool", "most"] spCirc := by
  obtain ⟨f_law_draw, d_law_draw, G_law_draw, g_law_draw, k_law_draw, b_law_draw⟩ := C1
  obtain ⟨f_law_table, d_law_table, G_law_table, g_law_table, k_law_table, b_law_table⟩ := C2
  obtain ⟨f_law_register, d_law_register, G_law_register, g_law_register, k_law_register, b_law_register⟩ := C3
  obtain ⟨f_law_shuffled, d_law_shuffled, G_law_shuffled, g_law_shuffled, k_law_shuffled, b_law_shuffled⟩ := C4
  refine D.has fun f fd F => F.ok sc_law_circuit (fun vs H Q E h => ?_) (fun cdv A outer s H vs Q E hr h => ?_)
  · obtain ⟨p, a, most, rfl, _⟩ := h
    rfl
  · obtain ⟨p, a, most, rfl, hmost, hp, q⟩ := h
    refine ⟨_, (pss_cons (ps_setLc (i := 3) (own := [("k", 2)]) (g := gName 2) (tt := tYes) rfl sc_law_circuit.nd rfl rfl (sw_true rfl rfl rfl (by decide +kernel)) (pi_range1 rfl T.range (pa_cons (pe_op op_add pe_int (pe_call G_law_draw (hr.mono (by omega)) (by rfl) g_law_draw k_law_draw b_law_draw .nil pass0 (pa_cons (pv 0) (pa_cons pe_int pa_nil)))) pa_nil)) (blkOk_by (N := ["pool", "most", "k", "inputs", "stored", "nets", "gates", "pins", "ranges", "pin", "low", "regs", "outputs", "name", "j"]) (sc := defScope s_law_circuit) (own := [("k", 2)]) (by decide +kernel)) (fun _ _ _ _ _ => (pg_name (i := 2) sc_law_circuit.nd rfl (.inl rfl))) (fun _ _ _ _ _ => pts_nil) (fun _ _ _ _ _ => (pe_op op_add_str pe_str (pe_callTy call_str_int (by rfl) T.str (by decide +kernel) (pa_cons (pv 2) pa_nil)))))
    (pss_cons (ps_setLc (i := 4) (own := [("k", 2)]) (g := gName 2) (tt := tYes) rfl sc_law_circuit.nd rfl rfl (sw_true rfl rfl rfl (by decide +kernel)) (pi_range1 rfl T.range (pa_cons (pe_call G_law_draw (hr.mono (by omega)) (by rfl) g_law_draw k_law_draw b_law_draw .nil pass0 (pa_cons (pv 0) (pa_cons pe_int pa_nil))) pa_nil)) (blkOk_by (N := ["pool", "most", "k", "inputs", "stored", "nets", "gates", "pins", "ranges", "pin", "low", "regs", "outputs", "name", "j"]) (sc := defScope s_law_circuit) (own := [("k", 2)]) (by decide +kernel)) (fun _ _ _ _ _ => (pg_name (i := 2) sc_law_circuit.nd rfl (.inl rfl))) (fun _ _ _ _ _ => pts_nil) (fun _ _ _ _ _ => (pe_op op_add_str pe_str (pe_callTy call_str_int (by rfl) T.str (by decide +kernel) (pa_cons (pv 2) pa_nil)))))
    (pss_cons (ps_set (i := 5) sc_law_circuit.nd rfl (.inr rfl) (pe_op op_cat (pv 3) (pv 4)))
    (pss_cons (ps_set (i := 6) sc_law_circuit.nd rfl (.inl rfl) (pe_lst pa_nil))
    (pss_cons (ps_for PassesOwn.never rfl (pi_range1 rfl T.range (pa_cons (pe_call G_law_draw (hr.mono (by omega)) (by rfl) g_law_draw k_law_draw b_law_draw .nil pass0 (pa_cons (pv 0) (pa_cons (pe_op op_add (pv 1) pe_int) pa_nil))) pa_nil)) (pg_name (i := 2) sc_law_circuit.nd rfl (.inl rfl))
      (pss_cons (ps_set (i := 7) sc_law_circuit.nd rfl (.inl rfl) (pe_callTy call_tuple_of (by rfl) T.tuple (by decide +kernel) (pa_cons (pe_lc (own := [("j", 14)]) (g := gName 14) (tt := tYes) rfl sc_law_circuit.nd (pi_range1 rfl T.range (pa_cons (pe_ix ix_list (pe_lst (pa_cons pe_int (pa_cons pe_int (pa_cons pe_int (pa_cons pe_int (pa_cons pe_int (pa_cons pe_int pa_nil))))))) (pe_call G_law_draw (hr.mono (by omega)) (by rfl) g_law_draw k_law_draw b_law_draw .nil pass0 (pa_cons (pv 0) (pa_cons pe_int pa_nil))) (fun _ _ => rfl)) pa_nil)) (blkOk_by (N := ["pool", "most", "k", "inputs", "stored", "nets", "gates", "pins", "ranges", "pin", "low", "regs", "outputs", "name", "j"]) (sc := defScope s_law_circuit) (own := [("j", 14)]) (by decide +kernel)) (fun _ _ _ _ _ => (pg_name (i := 14) sc_law_circuit.nd rfl (.inl rfl))) (fun _ _ _ _ _ => pts_nil) (fun _ _ _ _ _ => (pe_ix (kIxL (K := K) rfl) (pv 5) (pe_call G_law_draw (hr.mono (by omega)) (by rfl) g_law_draw k_law_draw b_law_draw .nil pass0 (pa_cons (pv 0) (pa_cons (pe_callB (kLen (K := K) rfl) (by rfl) T.len (by decide +kernel) (pa_cons (pv 5) pa_nil)) pa_nil))) (fun _ _ => rfl)))) pa_nil)))
      (pss_cons (ps_set (i := 8) sc_law_circuit.nd rfl (.inl rfl) (pe_lst pa_nil))
      (pss_cons (ps_for PassesOwn.never rfl (pi_tup (pv 7)) (pg_name (i := 9) sc_law_circuit.nd rfl (.inl rfl))
        (pss_cons (ps_set (i := 10) sc_law_circuit.nd rfl (.inl rfl) (pe_call G_law_draw (hr.mono (by omega)) (by rfl) g_law_draw k_law_draw b_law_draw .nil pass0 (pa_cons (pv 0) (pa_cons pe_int pa_nil))))
        (pss_one (ps_expr (pe_bm PySem.F.plainAttrs_list PySem.F.slot_list_append PySem.F.type_list_append mt_append (pv 8) (pa_cons (pe_tup (pa_cons (pv 10) (pa_cons (pe_op op_add (pe_op op_add (pv 10) pe_int) (pe_call G_law_draw (hr.mono (by omega)) (by rfl) g_law_draw k_law_draw b_law_draw .nil pass0 (pa_cons (pv 0) (pa_cons pe_int pa_nil)))) pa_nil))) pa_nil))))))
      (pss_cons (ps_expr (pe_bm PySem.F.plainAttrs_list PySem.F.slot_list_append PySem.F.type_list_append mt_append (pv 6) (pa_cons (pe_tup (pa_cons (pe_op op_add_str pe_str (pe_callTy call_str_int (by rfl) T.str (by decide +kernel) (pa_cons (pv 2) pa_nil))) (pa_cons (pe_call G_law_table (hr.mono (by omega)) (by rfl) g_law_table k_law_table b_law_table .nil pass0 (pa_cons (pv 0) (pa_cons (pe_callB call_len_seq (by rfl) T.len (by decide +kernel) (pa_cons (pv 7) pa_nil)) pa_nil))) (pa_cons (pv 7) (pa_cons (pe_callTy call_tuple_of (by rfl) T.tuple (by decide +kernel) (pa_cons (pv 8) pa_nil)) pa_nil))))) pa_nil)))
      (pss_one (ps_expr (pe_bm PySem.F.plainAttrs_list PySem.F.slot_list_append PySem.F.type_list_append mt_append (pv 5) (pa_cons (pe_op op_add_str pe_str (pe_callTy call_str_int (by rfl) T.str (by decide +kernel) (pa_cons (pv 2) pa_nil))) pa_nil)))))))))
    (pss_cons (ps_setLc (i := 11) (own := [("name", 13)]) (g := gName 13) (tt := tYes) rfl sc_law_circuit.nd rfl rfl (sw_true rfl rfl rfl (by decide +kernel)) (pi_list (pv 4)) (blkOk_by (N := ["pool", "most", "k", "inputs", "stored", "nets", "gates", "pins", "ranges", "pin", "low", "regs", "outputs", "name", "j"]) (sc := defScope s_law_circuit) (own := [("name", 13)]) (by decide +kernel)) (fun _ _ _ _ _ => (pg_name (i := 13) sc_law_circuit.nd rfl (.inl rfl))) (fun _ _ _ _ _ => pts_nil) (fun _ _ _ _ _ => (pe_call G_law_register (hr.mono (by omega)) (by rfl) g_law_register k_law_register b_law_register .nil pass0 (pa_cons (pv 0) (pa_cons (pv 13) (pa_cons (pe_ix (kIxL (K := K) rfl) (pv 5) (pe_call G_law_draw (hr.mono (by omega)) (by rfl) g_law_draw k_law_draw b_law_draw .nil pass0 (pa_cons (pv 0) (pa_cons (pe_callB (kLen (K := K) rfl) (by rfl) T.len (by decide +kernel) (pa_cons (pv 5) pa_nil)) pa_nil))) (fun _ _ => rfl)) pa_nil))))))
    (pss_cons (ps_setLc (i := 12) (own := [("k", 2)]) (g := gName 2) (tt := tYes) rfl sc_law_circuit.nd rfl rfl (sw_true rfl rfl rfl (by decide +kernel)) (pi_range1 rfl T.range (pa_cons (pe_call G_law_draw (hr.mono (by omega)) (by rfl) g_law_draw k_law_draw b_law_draw .nil pass0 (pa_cons (pv 0) (pa_cons pe_int pa_nil))) pa_nil)) (blkOk_by (N := ["pool", "most", "k", "inputs", "stored", "nets", "gates", "pins", "ranges", "pin", "low", "regs", "outputs", "name", "j"]) (sc := defScope s_law_circuit) (own := [("k", 2)]) (by decide +kernel)) (fun _ _ _ _ _ => (pg_name (i := 2) sc_law_circuit.nd rfl (.inl rfl))) (fun _ _ _ _ _ => pts_nil) (fun _ _ _ _ _ => (pe_tup (pa_cons (pe_op op_add_str pe_str (pe_callTy call_str_int (by rfl) T.str (by decide +kernel) (pa_cons (pv 2) pa_nil))) (pa_cons (pe_ix (kIxL (K := K) rfl) (pv 5) (pe_call G_law_draw (hr.mono (by omega)) (by rfl) g_law_draw k_law_draw b_law_draw .nil pass0 (pa_cons (pv 0) (pa_cons (pe_callB (kLen (K := K) rfl) (by rfl) T.len (by decide +kernel) (pa_cons (pv 5) pa_nil)) pa_nil))) (fun _ _ => rfl)) pa_nil)))))
    (pss_one (ps_ret (pe_tup (pa_cons (pe_callTy call_tuple_of (by rfl) T.tuple (by decide +kernel) (pa_cons (pv 3) pa_nil)) (pa_cons (pe_callTy call_tuple_of (by rfl) T.tuple (by decide +kernel) (pa_cons (pe_call G_law_shuffled (hr.mono (by omega)) (by rfl) g_law_shuffled k_law_shuffled b_law_shuffled .nil pass0 (pa_cons (pv 0) (pa_cons (pv 6) pa_nil))) pa_nil)) (pa_cons (pe_callTy call_tuple_of (by rfl) T.tuple (by decide +kernel) (pa_cons (pv 11) pa_nil)) (pa_cons (pe_callTy call_tuple_of (by rfl) T.tuple (by decide +kernel) (pa_cons (pv 12) pa_nil)) pa_nil)))))))))))))), ?_⟩
    -- inputs
    refine ⟨_, rfl, p, a, 3, rfl, by decide, by decide, hp, fun na H1 hna X1 _ => ⟨_, _, rfl, rfl, _, rfl, by omega, by omega, fun L3 nL3 => lcRv (fun k => .str (nm "i" k)) (by omega) (fun _ => rfl) (fun k H2 hk _ Q q => ?_) ?_⟩⟩
    · rw [Int.zero_add]
      have := nm_read nmi_str (k := k) (by omega)
      exact ⟨_, rfl, _, rfl, this.1, _, _, rfl, rfl, this.2, q⟩
    have e1 : ((1 : Int) + (na : Int)).toNat = na + 1 := by omega
    rw [e1] at *
    have X3 := X1.new (o := .lst ((List.range (na + 1)).map fun k => V.str (nm "i" k))) nL3
    have h3 : hid p (upd H1 L3 (.lst ((List.range (na + 1)).map fun k => V.str (nm "i" k)))) L3 = some (.lst (((List.range (na + 1)).map (nm "i")).map V.str)) := by
      rw [hid_new (X1.pool.ne nL3), List.map_map]; rfl
    generalize upd H1 L3 (.lst ((List.range (na + 1)).map fun k => V.str (nm "i" k))) = H2 at *
    -- stored
    refine ⟨_, rfl, p, a, 4, rfl, by decide, by decide, X3.pool, fun nb H3 hnb X4 _ => ⟨_, rfl, by omega, by omega, fun L4 nL4 => lcRv (fun k => .str (nm "r" k)) (by omega) (fun _ => rfl) (fun k H2 hk _ Q q => ?_) ?_⟩⟩
    · rw [Int.zero_add]
      have := nm_read nmr_str (k := k) (by omega)
      exact ⟨_, rfl, _, rfl, this.1, _, _, rfl, rfl, this.2, q⟩
    rw [Int.toNat_natCast] at *
    have n34 : L3 ≠ L4 := ne_of_none (hid_get (X4.get h3)) nL4
    have X5 := (X3.trans X4).new (o := .lst ((List.range nb).map fun k => V.str (nm "r" k))) nL4
    have h4 : hid p (upd H3 L4 (.lst ((List.range nb).map fun k => V.str (nm "r" k)))) L4 = some (.lst (((List.range nb).map (nm "r")).map V.str)) := by
      rw [hid_new (X4.pool.ne nL4), List.map_map]; rfl
    have h35 : hid p (upd H3 L4 (.lst ((List.range nb).map fun k => V.str (nm "r" k)))) L3 = some (.lst (((List.range (na + 1)).map (nm "i")).map V.str)) := keep1 (X4.get h3) n34 (X4.pool.ne nL4)
    generalize upd H3 L4 (.lst ((List.range nb).map fun k => V.str (nm "r" k))) = H4 at *
    generalize eIns : (List.range (na + 1)).map (nm "i") = ins at *
    generalize eRgs : (List.range nb).map (nm "r") = rgs at *
    have lIns : ins.length ≤ 3 := by rw [← eIns, List.length_map, List.length_range]; omega
    have lIns0 : 0 < ins.length := by rw [← eIns, List.length_map, List.length_range]; omega
    have lRgs : rgs.length ≤ 3 := by rw [← eRgs, List.length_map, List.length_range]; omega
    -- nets, gates
    refine ⟨_, rfl, _, rfl, L3, L4, _, _, rfl, rfl, hid_get h35, hid_get h4, sz_of (by rw [List.length_map, List.length_map]; omega), fun L5 nL5 => ⟨Nat.zero_le _, fun L6 nL6 => ?_⟩⟩
    rw [← List.map_append] at *
    have n35 : L3 ≠ L5 := ne_of_none (hid_get h35) nL5
    have n45 : L4 ≠ L5 := ne_of_none (hid_get h4) nL5
    have p5 := X5.pool.ne nL5
    have Y5 := X5.new (o := .lst ((ins ++ rgs).map V.str)) nL5
    have g3 : hid p (upd H4 L5 (.lst ((ins ++ rgs).map V.str))) L3 = some (.lst (ins.map V.str)) := keep1 h35 n35 p5
    have g4 : hid p (upd H4 L5 (.lst ((ins ++ rgs).map V.str))) L4 = some (.lst (rgs.map V.str)) := keep1 h4 n45 p5
    have g5 : hid p (upd H4 L5 (.lst ((ins ++ rgs).map V.str))) L5 = some (.lst ((ins ++ rgs).map V.str)) := hid_new p5
    have f5 : H L5 = none := X5.free nL5
    generalize upd H4 L5 (.lst ((ins ++ rgs).map V.str)) = H5 at *
    have n36 : L3 ≠ L6 := ne_of_none (hid_get g3) nL6
    have n46 : L4 ≠ L6 := ne_of_none (hid_get g4) nL6
    have n56 : L5 ≠ L6 := ne_of_none (hid_get g5) nL6
    have p6 := Y5.pool.ne nL6
    have f6 : H L6 = none := Y5.free nL6
    have Y6 := Y5.new (o := .lst []) nL6
    have k3 : hid p (upd H5 L6 (.lst [])) L3 = some (.lst (ins.map V.str)) := keep1 g3 n36 p6
    have k4 : hid p (upd H5 L6 (.lst [])) L4 = some (.lst (rgs.map V.str)) := keep1 g4 n46 p6
    have k5 : hid p (upd H5 L6 (.lst [])) L5 = some (.lst ((ins ++ rgs).map V.str)) := keep1 g5 n56 p6
    have k6 : hid p (upd H5 L6 (.lst [])) L6 = some (.lst []) := hid_new p6
    generalize upd H5 L6 (.lst []) = H6 at *
    refine ⟨_, rfl, _, rfl, _, _, rfl, rfl, p, a, (most : Int) + 1, rfl, by omega, by omega, Y6.pool, fun ng H7 hng X7 _ => ⟨ng, rfl, by omega, by omega, for_range (n := ((ng : Nat) : Int).toNat)
      (fun i σ H' => Px p a H H' ∧ hid p H' L3 = some (.lst (ins.map V.str)) ∧ hid p H' L4 = some (.lst (rgs.map V.str)) ∧ hid p H' L5 = some (.lst ((ins ++ rgs ++ (List.range i).map (nm "g")).map V.str)) ∧
        ∃ (ga : List Addr) (G : List GateD), hid p H' L6 = some (.lst (ga.map V.ref)) ∧ All2 (GateAt H') ga G ∧ G.length = i ∧ (∀ k g, G[k]? = some g → GateWf (ins ++ rgs ++ (List.range k).map (nm "g")) k g) ∧
        ∃ (x2 x7 x8 x9 x10 : Option V), σ = [some (.ref p), some (.int most), x2, some (.ref L3), some (.ref L4), some (.ref L5), some (.ref L6), x7, x8, x9, x10, none, none, none, none])
      ⟨Y6.trans X7, X7.get k3, X7.get k4, ?_, [], [], X7.get k6, .nil, rfl, (fun _ _ h => nomatch h), _, _, _, _, _, rfl⟩ ?_ ?_⟩⟩
    · rw [List.range_zero, List.map_nil, List.append_nil]; exact X7.get k5
    · rintro i σ H8 hi ⟨X8, q3, q4, q5, ga, G, q6, hG, hGi, hGw, x2, x7, x8, x9, x10, rfl⟩
      rw [Int.toNat_natCast] at hi
      have hi15 : i < 15 := by omega
      have lN : (ins ++ rgs ++ (List.range i).map (nm "g")).length ≤ 21 := by
        rw [List.length_append, List.length_append, List.length_map, List.length_range]; omega
      have lN0 : 0 < (ins ++ rgs ++ (List.range i).map (nm "g")).length := by
        rw [List.length_append, List.length_append]; omega
      have ei : (0 : Int) + (i : Int) = (i : Int) := Int.zero_add _
      rw [ei]
      generalize eN : ins ++ rgs ++ (List.range i).map (nm "g") = N at *
      -- pins
      refine ⟨(by show 6 ≤ sizeLine; decide), fun l nl => ⟨_, rfl, p, a, 6, rfl, by decide, by decide, (X8.new nl).pool, fun v H9 hv X9 kp => ?_⟩⟩
      have hl9 : H9 l = some (.lst [.int 1, .int 2, .int 2, .int 3, .int 0, .int 1]) := by rw [kp _ (X8.pool.ne nl)]; exact upd_same
      obtain ⟨m, hm3, hm⟩ : ∃ m : Nat, m ≤ 3 ∧ ([.int 1, .int 2, .int 2, .int 3, .int 0, .int 1] : List V)[v]? = some (.int m) := by
        match v, hv with
        | 0, _ => exact ⟨1, by decide, rfl⟩
        | 1, _ => exact ⟨2, by decide, rfl⟩
        | 2, _ => exact ⟨2, by decide, rfl⟩
        | 3, _ => exact ⟨3, by decide, rfl⟩
        | 4, _ => exact ⟨0, by decide, rfl⟩
        | 5, _ => exact ⟨1, by decide, rfl⟩
        | n + 6, h => exact absurd h (by omega)
      have Z9 := ((Px.refl X8.pool).new nl).trans X9
      refine ⟨_, _, _, _, rfl, rfl, SqL.of hl9, atI_nat hm, _, rfl, by omega, by omega, fun L7 nL7 => lc_range (lo := 0) (n := ((m : Nat) : Int).toNat)
        (fun j H' => Px p a H8 H' ∧ ∃ ps : List Str, ps.length = j ∧ (∀ x ∈ ps, x ∈ N) ∧ hid p H' L7 = some (.lst (ps.map V.str))) ⟨Z9.new nL7, [], rfl, (fun _ h => nomatch h), hid_new (X9.pool.ne nL7)⟩ ?_ ?_⟩
      · rintro j H10 hj ⟨X10, ps, hpj, hpN, hps⟩
        have f7 : H8 L7 = none := Z9.free nL7
        refine ⟨rfl, tYes_in ⟨_, rfl, _, rfl, _, rfl, _, _, rfl, .inl (SqL.of (X10.at_ q5)), p, a, N.length, by rw [List.length_map]; rfl, by omega, by omega, X10.pool, fun u H11 hu X11 _ => ?_⟩⟩
        have hu' : u < N.length := by omega
        have Z11 := X10.trans X11
        refine ⟨_, _, _, _, rfl, rfl, SqL.of (Z11.at_ q5), atI_nat (strV_at hu'), _, hid_get (X11.get hps), sz_lt (by rw [List.length_map]; omega), Z11.mut f7, ps ++ [N[u]], ?_, ?_, ?_⟩
        · rw [List.length_append, hpj]; rfl
        · intro x hx
          rcases List.mem_append.mp hx with z | z
          · exact hpN x z
          · rw [List.mem_singleton.mp z]; exact List.getElem_mem hu'
        · rw [hid_new (X8.pool.ne f7), List.map_append]; rfl
      · rintro H10 ⟨X10, ps, hpj, hpN, hps⟩
        rw [Int.toNat_natCast] at hpj
        refine ⟨_, _, rfl, .inl ⟨SqL.of (hid_get hps), fun pt npt => ?_⟩⟩
        have Z10 := X10.new (o := .tup (ps.map V.str)) npt
        have hpt : upd H10 pt (.tup (ps.map V.str)) pt = some (.tup (ps.map V.str)) := upd_same
        generalize upd H10 pt (.tup (ps.map V.str)) = H11 at *
        -- ranges
        refine ⟨Nat.zero_le _, fun L8 nL8 => ?_⟩
        have Z11 := Z10.new (o := .lst []) nL8
        have hpt2 : upd H11 L8 (.lst []) pt = some (.tup (ps.map V.str)) := Ex.new nL8 _ _ hpt
        have h8 : hid p (upd H11 L8 (.lst [])) L8 = some (.lst []) := hid_new (Z10.pool.ne nL8)
        have f8 : H8 L8 = none := Z10.free nL8
        have p8 := X8.pool.ne f8
        generalize upd H11 L8 (.lst []) = H12 at *
        refine ⟨_, rfl, pt, rfl, ⟨_, SqT.of hpt2⟩, for_tup (K := K) (a := pt) (xs := ps.map V.str)
          (fun j σ H' => Px p a H8 H' ∧ TEx H12 H' ∧ ∃ (ra : List Addr) (R : List (Int × Int)) (x9 x10 : Option V), hid p H' L8 = some (.lst (ra.map V.ref)) ∧ All2 (IntsAt H') ra R ∧ R.length = j ∧ (∀ r ∈ R, 0 ≤ r.1 ∧ r.1 ≤ 4 ∧ r.1 + 2 ≤ r.2 ∧ r.2 ≤ r.1 + 6) ∧
            σ = [some (.ref p), some (.int most), some (.int (i : Int)), some (.ref L3), some (.ref L4), some (.ref L5), some (.ref L6), some (.ref pt), some (.ref L8), x9, x10, none, none, none, none])
          ⟨Z11, .refl _, [], [], _, _, h8, .nil, rfl, (fun _ h => nomatch h), rfl⟩ (fun j σ H' _ g => SqT.of (g.2.1 _ _ hpt2)) ?_ ?_⟩
        · rintro j x σ H13 hx ⟨X13, T13, ra, R, x9, x10, hra, hR, hRj, hRw, rfl⟩
          have hj3 : j < 3 := by have := (List.getElem?_eq_some_iff.mp hx).1; rw [List.length_map] at this; omega
          refine ⟨_, rfl, p, a, 5, rfl, by decide, by decide, X13.pool, fun lo H14 hlo X14 _ => ?_⟩
          refine ⟨_, rfl, .inl ⟨rfl, _, SqL.of (hid_get (X14.get hra))⟩, _, rfl, _, rfl, _, _, rfl, rfl, _, rfl, p, a, 5, rfl, by decide, by decide, X14.pool, fun u H15 hu X15 _ => ⟨_, _, rfl, rfl, (by show 2 ≤ sizeLine; decide), fun e ne => ?_⟩⟩
          have X16 := (X14.trans X15).new (o := .tup [.int lo, .int ((lo : Int) + 2 + u)]) ne
          have hra16 := X16.get hra
          have T16 := TEx.px X16
          have he : upd H15 e (.tup [.int lo, .int ((lo : Int) + 2 + u)]) e = some (.tup [.int lo, .int ((lo : Int) + 2 + u)]) := upd_same
          generalize upd H15 e (.tup [.int lo, .int ((lo : Int) + 2 + u)]) = H16 at *
          refine ⟨L8, ra.map V.ref, .ref e, rfl, rfl, hid_get hra16, sz_lt (by rw [List.length_map, hR.1]; omega), (X13.trans X16).mut f8, T13.trans (T16.trans (TEx.mut (hid_get hra16))), ra ++ [e], R ++ [((lo : Int), (lo : Int) + 2 + u)], _, _, ?_, ?_, ?_, ?_, rfl⟩
          · rw [hid_new p8, List.map_append]; rfl
          · exact (hR.imp fun _ _ z => (z.te T16).te (TEx.mut (hid_get hra16))).snoc (TEx.mut (hid_get hra16) _ _ he)
          · rw [List.length_append, hRj]; rfl
          · intro r hr
            rcases List.mem_append.mp hr with z | z
            · exact hRw r z
            · rw [List.mem_singleton.mp z]
              refine ⟨?_, ?_, ?_, ?_⟩ <;> simp <;> omega
        · rintro σ H13 ⟨X13, T13, ra, R, x9, x10, hra, hR, hRj, hRw, rfl⟩
          have hs := nm_read nmg_str (k := i) (by omega)
          rw [List.length_map] at hRj
          refine ⟨_, rfl, .inl ⟨rfl, _, SqL.of (X13.at_ q6)⟩, _, rfl, _, rfl, hs.1, _, _, rfl, rfl, hs.2, ?_⟩
          refine ⟨_, rfl, _, rfl, _, _, rfl, .inr (SqT.of (T13 _ _ hpt2)), p, a, ps.length, by rw [List.length_map]; rfl, by omega, X13.pool, fun t bs H14 hbl X14 nt ht => ?_⟩
          have T14 := TEx.px X14
          refine ⟨_, rfl, _, rfl, _, _, rfl, .inl ⟨SqL.of (hid_get (X14.get hra)), fun rt nrt => ?_⟩⟩
          have X15 := X14.new (o := .tup (ra.map V.ref)) nrt
          have T15 := TEx.px X15
          have hrt : upd H14 rt (.tup (ra.map V.ref)) rt = some (.tup (ra.map V.ref)) := upd_same
          have ht15 : upd H14 rt (.tup (ra.map V.ref)) t = some (.tup (bs.map V.bl)) := Ex.new nrt _ _ ht
          generalize upd H14 rt (.tup (ra.map V.ref)) = H15 at *
          refine ⟨(by show 4 ≤ sizeLine; decide), fun g ngg => ?_⟩
          have X16 := X15.new (o := .tup [.str (("g" : Str) ++ Str.ofString (toString ((i : Nat) : Int))), .ref t, .ref pt, .ref rt]) ngg
          have T16 : TEx H13 (upd H15 g (.tup [.str (("g" : Str) ++ Str.ofString (toString ((i : Nat) : Int))), .ref t, .ref pt, .ref rt])) := TEx.px X16
          have hg16 : upd H15 g (.tup [.str (("g" : Str) ++ Str.ofString (toString ((i : Nat) : Int))), .ref t, .ref pt, .ref rt]) g = some (.tup [.str (("g" : Str) ++ Str.ofString (toString ((i : Nat) : Int))), .ref t, .ref pt, .ref rt]) := upd_same
          have ht16 := Ex.new (o := .tup [.str (("g" : Str) ++ Str.ofString (toString ((i : Nat) : Int))), .ref t, .ref pt, .ref rt]) ngg _ _ ht15
          have hrt16 := Ex.new (o := .tup [.str (("g" : Str) ++ Str.ofString (toString ((i : Nat) : Int))), .ref t, .ref pt, .ref rt]) ngg _ _ hrt
          have Z16 := X13.trans X16
          generalize upd H15 g (.tup [.str (("g" : Str) ++ Str.ofString (toString ((i : Nat) : Int))), .ref t, .ref pt, .ref rt]) = H16 at *
          have hG16 : GateAt H16 g ⟨nm "g" i, bs, ps, R⟩ := ⟨t, pt, rt, ra, hg16, ht16, (T13.trans T16) _ _ hpt2, hrt16, hR.imp fun _ _ z => z.te T16⟩
          have q6' := Z16.get q6
          have p6' := hid_neq q6'
          have p5' := hid_neq q5
          have T17 : TEx H16 (upd H16 L6 (.lst (ga.map V.ref ++ [.ref g]))) := TEx.mut (hid_get q6')
          have hGs : All2 (GateAt H16) ga G := hG.imp fun _ _ z => z.te (TEx.px Z16)
          refine ⟨L6, ga.map V.ref, .ref g, rfl, rfl, hid_get q6', sz_lt (by rw [List.length_map, hG.1]; omega), ?_⟩
          have r3 := keep1 (o' := .lst (ga.map V.ref ++ [.ref g])) (Z16.get q3) n36 p6'
          have r4 := keep1 (o' := .lst (ga.map V.ref ++ [.ref g])) (Z16.get q4) n46 p6'
          have r5 := keep1 (o' := .lst (ga.map V.ref ++ [.ref g])) (Z16.get q5) n56 p6'
          have r6 : hid p (upd H16 L6 (.lst (ga.map V.ref ++ [.ref g]))) L6 = some (.lst ((ga ++ [g]).map V.ref)) := by rw [hid_new p6', List.map_append]; rfl
          have X17 := ((X8.trans Z16)).mut (o := .lst (ga.map V.ref ++ [.ref g])) f6
          have hG17 : All2 (GateAt (upd H16 L6 (.lst (ga.map V.ref ++ [.ref g])))) (ga ++ [g]) (G ++ [⟨nm "g" i, bs, ps, R⟩]) := (hGs.imp fun _ _ z => z.te T17).snoc (hG16.te T17)
          generalize upd H16 L6 (.lst (ga.map V.ref ++ [.ref g])) = H17 at *
          refine ⟨_, rfl, .inl ⟨rfl, _, SqL.of (hid_get r5)⟩, _, rfl, _, rfl, hs.1, _, _, rfl, rfl, hs.2, L5, N.map V.str, .str (nm "g" i), rfl, rfl, hid_get r5, sz_lt (by rw [List.length_map]; omega), ?_⟩
          have T18 : TEx H17 (upd H17 L5 (.lst (N.map V.str ++ [.str (nm "g" i)]))) := TEx.mut (hid_get r5)
          refine ⟨X17.mut f5, keep1 r3 n35 p5', keep1 r4 n45 p5', ?_, ga ++ [g], G ++ [⟨nm "g" i, bs, ps, R⟩], keep1 r6 n56.symm p5', hG17.imp fun _ _ z => z.te T18, ?_, ?_, _, _, _, _, _, rfl⟩
          · rw [hid_new p5', nms_snoc, ← List.append_assoc, eN, List.map_append]; rfl
          · rw [List.length_append, hGi]; rfl
          · intro k g' hk
            by_cases hkl : k < G.length
            · rw [List.getElem?_append_left hkl] at hk; exact hGw k g' hk
            · rw [List.getElem?_append_right (by omega)] at hk
              have hk0 : k - G.length = 0 := by
                cases e : k - G.length with
                | zero => rfl
                | succ n => rw [e] at hk; exact nomatch hk
              rw [hk0] at hk
              have : k = i := by omega
              subst this
              cases hk
              exact ⟨rfl, by show ps.length ≤ 3; omega, by rw [eN]; exact hpN, hbl, hRj, hRw⟩
    · rintro σ H8 ⟨X8, q3, q4, q5, ga, G, q6, hG, hGi, hGw, x2, x7, x8, x9, x10, rfl⟩
      rw [Int.toNat_natCast] at hGi q5
      have lN : (ins ++ rgs ++ (List.range ng).map (nm "g")).length ≤ 21 := by
        rw [List.length_append, List.length_append, List.length_map, List.length_range]; omega
      have lN0 : 0 < (ins ++ rgs ++ (List.range ng).map (nm "g")).length := by
        rw [List.length_append, List.length_append]; omega
      generalize eN : ins ++ rgs ++ (List.range ng).map (nm "g") = N at *
      -- regs
      refine ⟨_, rfl, L4, rfl, ⟨_, SqL.of (hid_get q4)⟩, fun L11 nL11 => wk_list (K := K) (a := L4) (xs := rgs.map V.str)
        (fun j H' => Px p a H8 H' ∧ ∃ (ra : List Addr) (R : List RegD), hid p H' L11 = some (.lst (ra.map V.ref)) ∧ All2 (RegAt H') ra R ∧ R.map (·.name) = rgs.take j ∧ ∀ r ∈ R, RegWf r ∧ r.net ∈ N)
        ⟨(Px.refl X8.pool).new nL11, [], [], hid_new (X8.pool.ne nL11), .nil, (by rw [List.take_zero]; rfl), (fun _ h => nomatch h)⟩ (fun j H' _ g => SqL.of (g.1.at_ q4)) ?_ ?_⟩
      · rintro j x H9 hx ⟨X9, ra, R, hra, hR, hRn, hRw⟩
        have hj : j < rgs.length := by have := (List.getElem?_eq_some_iff.mp hx).1; rw [List.length_map] at this; exact this
        obtain rfl : x = .str rgs[j] := by rw [strV_at hj] at hx; exact (Option.some.inj hx).symm
        refine ⟨rfl, tYes_in ⟨_, rfl, _, rfl, _, rfl, _, rfl, _, rfl, _, _, rfl, .inl (SqL.of (X9.at_ q5)), p, a, N.length, by rw [List.length_map]; rfl, by omega, by omega, X9.pool, fun u H10 hu X10 _ => ?_⟩⟩
        have hu' : u < N.length := by omega
        refine ⟨_, _, _, _, rfl, rfl, SqL.of ((X9.trans X10).at_ q5), atI_nat (strV_at hu'), p, a, rgs[j], N[u], rfl, X10.pool, fun y r H11 X11 ny hr hn1 hn2 hw => ?_⟩
        have Z := X10.trans X11
        have hra' := Z.get hra
        refine ⟨_, hid_get hra', sz_lt (by rw [List.length_map, hR.1]; have := congrArg List.length hRn; rw [List.length_map, List.length_take] at this; omega), (X9.trans Z).mut nL11, ra ++ [y], R ++ [r], ?_, ?_, ?_, ?_⟩
        · rw [hid_new (X8.pool.ne nL11), List.map_append]; rfl
        · exact ((hR.imp fun _ _ z => z.te (TEx.px Z)).snoc hr).imp fun _ _ z => z.te (TEx.mut (hid_get hra'))
        · rw [List.map_append, hRn, List.take_add_one, List.getElem?_eq_getElem hj, ← hn1]; rfl
        · intro r' hr'
          rcases List.mem_append.mp hr' with z | z
          · exact hRw r' z
          · rw [List.mem_singleton.mp z]; exact ⟨hw, by rw [hn2]; exact List.getElem_mem hu'⟩
      rintro H9 ⟨X9, ra, R, hra, hR, hRn, hRw⟩
      rw [List.length_map, List.take_length] at hRn
      -- outputs
      refine ⟨_, rfl, p, a, 4, rfl, by decide, by decide, X9.pool, fun nq H10 hnq X10 _ => ⟨_, rfl, by omega, by omega, fun L12 nL12 => lc_range (lo := 0) (n := ((nq : Nat) : Int).toNat)
        (fun j H' => Px p a H10 H' ∧ ∃ (oa : List Addr) (O : List (Str × Str)), hid p H' L12 = some (.lst (oa.map V.ref)) ∧ All2 (OutAt H') oa O ∧ O.map (·.1) = (List.range j).map (nm "p") ∧ ∀ o ∈ O, o.2 ∈ N)
        ⟨(Px.refl X10.pool).new nL12, [], [], hid_new (X10.pool.ne nL12), .nil, rfl, (fun _ h => nomatch h)⟩ ?_ ?_⟩⟩
      · rintro j H11 hj ⟨X11, oa, O, hoa, hO, hOn, hOw⟩
        have hs := nm_read nmp_str (k := j) (by omega)
        have ej : (0 : Int) + (j : Int) = (j : Int) := Int.zero_add _
        rw [ej]
        have Z11 := (X9.trans X10).trans X11
        refine ⟨rfl, tYes_in ⟨_, rfl, _, rfl, hs.1, _, _, rfl, rfl, hs.2, _, rfl, _, rfl, _, rfl, _, _, rfl, .inl (SqL.of (Z11.at_ q5)), p, a, N.length, by rw [List.length_map]; rfl, by omega, by omega, X11.pool, fun u H12 hu X12 _ => ?_⟩⟩
        have hu' : u < N.length := by omega
        refine ⟨_, _, _, _, rfl, rfl, SqL.of ((Z11.trans X12).at_ q5), atI_nat (strV_at hu'), (by show 2 ≤ sizeLine; decide), fun e ne => ?_⟩
        have Z := X12.new (o := .tup [.str (("p" : Str) ++ Str.ofString (toString ((j : Nat) : Int))), .str N[u]]) ne
        have hoa' := Z.get hoa
        refine ⟨_, hid_get hoa', sz_lt (by rw [List.length_map, hO.1]; have := congrArg List.length hOn; rw [List.length_map, List.length_map, List.length_range] at this; omega), (X11.trans Z).mut nL12, oa ++ [e], O ++ [(nm "p" j, N[u])], ?_, ?_, ?_, ?_⟩
        · rw [hid_new (X10.pool.ne nL12), List.map_append]; rfl
        · exact ((hO.imp fun _ _ z => TEx.px Z _ _ z).snoc (show OutAt _ e (nm "p" j, N[u]) from upd_same)).imp fun _ _ z => TEx.mut (hid_get hoa') _ _ z
        · rw [List.map_append, hOn, nms_snoc]; rfl
        · intro o ho
          rcases List.mem_append.mp ho with z | z
          · exact hOw o z
          · rw [List.mem_singleton.mp z]; exact List.getElem_mem hu'
      rintro H11 ⟨X11, oa, O, hoa, hO, hOn, hOw⟩
      rw [Int.toNat_natCast] at hOn
      have Z11 := X9.trans (X10.trans X11)
      have T11 : TEx H9 H11 := TEx.px (X10.trans X11)
      refine ⟨_, rfl, _, _, rfl, .inl ⟨SqL.of (Z11.at_ q3), fun it nit => ?_⟩⟩
      have X12 := (Px.refl X11.pool).new (o := .tup (ins.map V.str)) nit
      have hit : upd H11 it (.tup (ins.map V.str)) it = some (.tup (ins.map V.str)) := upd_same
      generalize upd H11 it (.tup (ins.map V.str)) = H12 at *
      have hga12 := (Z11.trans X12).get q6
      refine ⟨_, rfl, _, rfl, p, a, L6, ga.map V.ref, rfl, X12.pool, hga12, by rw [List.length_map, hG.1]; omega, fun o ys H13 X13 no ho hperm => ?_⟩
      obtain ⟨gb, GB, rfl, hGB, hGp⟩ := perm_refs (hG.imp fun _ _ z => z.te (TEx.px (Z11.trans (X12.trans X13)))) hperm
      refine ⟨_, _, rfl, .inl ⟨SqL.of ho, fun gt ngt => ?_⟩⟩
      have X14 := X13.new (o := .tup (gb.map V.ref)) ngt
      have hgt : upd H13 gt (.tup (gb.map V.ref)) gt = some (.tup (gb.map V.ref)) := upd_same
      have T14 : TEx H13 (upd H13 gt (.tup (gb.map V.ref))) := TEx.new ngt
      generalize upd H13 gt (.tup (gb.map V.ref)) = H14 at *
      have Y14 := X12.trans X14
      refine ⟨_, rfl, _, _, rfl, .inl ⟨SqL.of (hid_get (Y14.get ((X10.trans X11).get hra))), fun rt nrt => ?_⟩⟩
      have X15 := Y14.new (o := .tup (ra.map V.ref)) nrt
      have hrt : upd H14 rt (.tup (ra.map V.ref)) rt = some (.tup (ra.map V.ref)) := upd_same
      have T15 : TEx H14 (upd H14 rt (.tup (ra.map V.ref))) := TEx.new nrt
      generalize upd H14 rt (.tup (ra.map V.ref)) = H15 at *
      refine ⟨_, rfl, _, _, rfl, .inl ⟨SqL.of (hid_get (X15.get hoa)), fun ot not => ?_⟩⟩
      have X16 := X15.new (o := .tup (oa.map V.ref)) not
      have hot : upd H15 ot (.tup (oa.map V.ref)) ot = some (.tup (oa.map V.ref)) := upd_same
      have T16 : TEx H15 (upd H15 ot (.tup (oa.map V.ref))) := TEx.new not
      generalize upd H15 ot (.tup (oa.map V.ref)) = H16 at *
      refine ⟨(by show 4 ≤ sizeLine; decide), fun c nc => ?_⟩
      have T17 : TEx H16 (upd H16 c (.tup [.ref it, .ref gt, .ref rt, .ref ot])) := TEx.new nc
      have T1114 := TEx.px Y14
      have T1117 := TEx.px X16
      refine q c ⟨ins, GB, R, O⟩ G it gt rt ot gb ra oa _ ((X8.trans (Z11.trans X16)).new nc) ⟨upd_same, ?_, ?_, ?_, ?_, ?_, ?_, ?_⟩ ⟨?_, ?_, ?_, ?_, ?_, ?_, ?_, ?_⟩
      · exact T17 _ _ (T16 _ _ (T15 _ _ (T14 _ _ (TEx.px X13 _ _ hit))))
      · exact T17 _ _ (T16 _ _ (T15 _ _ hgt))
      · exact T17 _ _ (T16 _ _ hrt)
      · exact T17 _ _ hot
      · exact hGB.imp fun _ _ z => z.te (T14.trans (T15.trans (T16.trans T17)))
      · exact hR.imp fun _ _ z => z.te (T11.trans (T1117.trans T17))
      · exact hO.imp fun _ _ z => (T1117.trans T17) _ _ z
      · exact ⟨na + 1, by omega, by omega, eIns.symm⟩
      · exact ⟨nb, by omega, hRn.trans eRgs.symm⟩
      · show G.length ≤ most
        omega
      · intro k g hk
        have := hGw k g hk
        show GateWf (ins ++ R.map (·.name) ++ _) k g
        rw [hRn]; exact this
      · exact hGp
      · intro r hr
        show RegWf r ∧ r.net ∈ ins ++ R.map (·.name) ++ (List.range G.length).map (nm "g")
        rw [hRn, hGi, eN]; exact hRw r hr
      · exact ⟨nq, by omega, hOn⟩
      · intro o ho
        show o.2 ∈ ins ++ R.map (·.name) ++ (List.range G.length).map (nm "g")
        rw [hRn, hGi, eN]; exact hOw o ho
end
end G
namespace G
open PySem PySem.Spec PyProof.Rows L2
/-! ## an order in which each comes behind what it needs: the mathematics -/
theorem nodup_len : ∀ (n : Nat) (l : List Nat), l.Nodup → (∀ k ∈ l, k < n) → l.length ≤ n
  | 0, l, _, h => by
    cases l with
    | nil => exact Nat.le_refl _
    | cons x l => exact absurd (h x (List.mem_cons_self ..)) (Nat.not_lt_zero _)
  | n + 1, l, nd, h => by
    have h1 := nodup_len n (l.filter (· ≠ n)) (nd.filter _) fun k hk => by
      obtain ⟨a, b⟩ := List.mem_filter.mp hk
      have := h k a
      have : k ≠ n := of_decide_eq_true b
      omega
    by_cases hn : n ∈ l
    · have h2 : (l.filter (· ≠ n)).length + 1 = l.length := by
        have e : l.filter (· ≠ n) = l.erase n := by
          rw [nd.erase_eq_filter n]
          refine List.filter_congr fun x _ => ?_
          by_cases h : x = n
          · rw [decide_eq_false fun z => z h, h]; simp
          · rw [decide_eq_true h]; simp [h]
        rw [e, List.length_erase_of_mem hn]
        have := List.length_pos_of_mem hn
        omega
      omega
    · have e : l.filter (· ≠ n) = l := List.filter_eq_self.mpr fun k hk => decide_eq_true fun z => hn (z ▸ hk)
      rw [e] at h1
      omega
def leftN (N : List (List Nat)) (ord : List Nat) (k : Nat) : Nat := ((N.getD k []).filter fun o => decide (o ∉ ord)).length
theorem left_snoc {N : List (List Nat)} {ord : List Nat} {k f : Nat} (h : k ∉ ord) : leftN N ord f = leftN N (ord ++ [k]) f + (N.getD f []).count k := by
  unfold leftN
  generalize N.getD f [] = l
  induction l with
  | nil => rfl
  | cons x l ih =>
    rw [List.filter_cons, List.filter_cons, List.count_cons]
    by_cases e : x = k
    · subst e
      have h1 : decide (x ∉ ord) = true := decide_eq_true h
      have h2 : decide (x ∉ ord ++ [x]) = false := decide_eq_false fun z => z (List.mem_append_right _ (List.mem_singleton.mpr rfl))
      rw [h1, h2, if_pos rfl, if_neg Bool.false_ne_true, if_pos (beq_self_eq_true x), List.length_cons, ih]
      omega
    · have h3 : (x == k) = false := by
        cases hh : x == k with
        | false => rfl
        | true => exact absurd (eq_of_beq hh) e
      rw [h3, if_neg Bool.false_ne_true, Nat.add_zero]
      have h4 : (x ∉ ord ++ [k]) ↔ x ∉ ord := by
        rw [List.mem_append, List.mem_singleton]
        exact ⟨fun z y => z (.inl y), fun z y => y.elim z e⟩
      by_cases h5 : x ∉ ord
      · rw [decide_eq_true h5, decide_eq_true (h4.mpr h5), if_pos rfl, if_pos rfl, List.length_cons, List.length_cons, ih]
        omega
      · rw [decide_eq_false h5, decide_eq_false fun z => h5 (h4.mp z), if_neg Bool.false_ne_true, if_neg Bool.false_ne_true]
        exact ih
theorem left_zero {N : List (List Nat)} {ord : List Nat} {k : Nat} : leftN N ord k = 0 ↔ ∀ o ∈ N.getD k [], o ∈ ord := by
  unfold leftN
  rw [List.length_eq_zero_iff, List.filter_eq_nil_iff]
  constructor
  · intro h o ho
    have := h o ho
    exact Decidable.byContradiction fun z => this (decide_eq_true z)
  · intro h o ho z
    exact (of_decide_eq_true z) (h o ho)
/-- what stands before a pop: the order, what is ready, what is missing -/
structure KInv (N : List (List Nat)) (ord : List Nat) (rd : List Int) (ms : List Int) : Prop where
  len : ms.length = N.length
  nd : ord.Nodup
  ndr : rd.Nodup
  apart : ∀ k : Nat, k ∈ ord → (k : Int) ∉ rd
  lt : ∀ k ∈ ord, k < N.length
  ltr : ∀ z ∈ rd, ∃ k : Nat, z = k ∧ k < N.length ∧ leftN N ord k = 0
  cnt : ∀ k, k < N.length → ms.getD k 0 = (leftN N ord k : Int)
  rdy : ∀ k, k < N.length → leftN N ord k = 0 → k ∈ ord ∨ (k : Int) ∈ rd
  closed : ∀ (i k : Nat), ord[i]? = some k → ∀ o ∈ N.getD k [], o ∈ ord.take i
/-- .. while the followers of the one that was taken are told -/
structure KMid (N : List (List Nat)) (ord : List Nat) (k : Nat) (fol : List Nat) (j : Nat) (rd : List Int) (ms : List Int) : Prop where
  len : ms.length = N.length
  ndr : rd.Nodup
  apart : ∀ k' : Nat, k' ∈ ord ++ [k] → (k' : Int) ∉ rd
  ltr : ∀ z ∈ rd, ∃ f : Nat, z = f ∧ f < N.length ∧ leftN N ord f = (fol.take j).count f
  cnt : ∀ f, f < N.length → ms.getD f 0 = (leftN N ord f : Int) - ((fol.take j).count f : Nat)
  rdy : ∀ f, f < N.length → leftN N ord f = (fol.take j).count f → f ∈ ord ++ [k] ∨ (f : Int) ∈ rd
def FolOk (N : List (List Nat)) (k : Nat) (fol : List Nat) : Prop := (∀ f ∈ fol, f < N.length) ∧ ∀ f, f < N.length → fol.count f = (N.getD f []).count k
theorem KInv.pop {N : List (List Nat)} {ord : List Nat} {rd rd' ms : List Int} {k : Nat} {fol : List Nat} (I : KInv N ord rd ms) (hp : ((k : Int) :: rd').Perm rd) : KMid N ord k fol 0 rd' ms ∧ k < N.length ∧ k ∉ ord ∧ leftN N ord k = 0 := by
  have nd := hp.nodup_iff.mpr I.ndr
  obtain ⟨n1, n2⟩ := List.nodup_cons.mp nd
  have hk : (k : Int) ∈ rd := hp.mem_iff.mp (List.mem_cons_self ..)
  obtain ⟨k', e, hk1, hk2⟩ := I.ltr _ hk
  obtain rfl : k' = k := by omega
  refine ⟨⟨I.len, n2, fun k2 h2 h3 => ?_, fun z hz => ?_, fun f hf => ?_, fun f hf h0 => ?_⟩, hk1, fun z => I.apart _ z hk, hk2⟩
  · rcases List.mem_append.mp h2 with z | z
    · exact I.apart k2 z (hp.mem_iff.mp (List.mem_cons_of_mem _ h3))
    · rw [List.mem_singleton.mp z] at h3
      exact n1 h3
  · obtain ⟨f, e, h1, h2⟩ := I.ltr z (hp.mem_iff.mp (List.mem_cons_of_mem _ hz))
    exact ⟨f, e, h1, by rw [h2]; rfl⟩
  · rw [I.cnt f hf]
    show _ = _ - ((([] : List Nat).count f : Nat) : Int)
    rw [List.count_nil]
    omega
  · rcases I.rdy f hf (by rw [h0]; rfl) with z | z
    · exact .inl (List.mem_append_left _ z)
    · rcases List.mem_cons.mp (hp.mem_iff.mpr z) with y | y
      · exact .inl (List.mem_append_right _ (List.mem_singleton.mpr (by omega)))
      · exact .inr y
theorem closed_left {N : List (List Nat)} {ord : List Nat} (h : ∀ (i k : Nat), ord[i]? = some k → ∀ o ∈ N.getD k [], o ∈ ord.take i) {f : Nat} (hf : f ∈ ord) : leftN N ord f = 0 := by
  obtain ⟨i, hi, e⟩ := List.getElem_of_mem hf
  exact left_zero.mpr fun o ho => List.mem_of_mem_take (h i f (List.getElem?_eq_some_iff.mpr ⟨hi, e⟩) o ho)
theorem getD_setI {l : List Int} {p k : Nat} {v : Int} (hp : p < l.length) : (l.set p v).getD k 0 = if k = p then v else l.getD k 0 := by
  rw [List.getD_eq_getElem?_getD, List.getD_eq_getElem?_getD, List.getElem?_set]
  by_cases e : p = k
  · subst e
    rw [if_pos rfl, if_pos hp, if_pos rfl]; rfl
  · rw [if_neg e, if_neg (Ne.symm e)]
theorem KMid.step {N : List (List Nat)} {ord : List Nat} {k : Nat} {fol : List Nat} {j f : Nat} {rd ms : List Int} (cl : ∀ (i k : Nat), ord[i]? = some k → ∀ o ∈ N.getD k [], o ∈ ord.take i) (hk : k ∉ ord) (hk0 : leftN N ord k = 0) (F : FolOk N k fol) (M : KMid N ord k fol j rd ms) (hf : fol[j]? = some f) :
    f < N.length ∧ (ms.getD f 0 - 1 ≠ 0 → KMid N ord k fol (j + 1) rd (ms.set f (ms.getD f 0 - 1))) ∧ (ms.getD f 0 - 1 = 0 → ∀ rd', rd'.Perm ((f : Int) :: rd) → KMid N ord k fol (j + 1) rd' (ms.set f (ms.getD f 0 - 1))) := by
  have hmem := List.mem_of_getElem? hf
  have hfl := F.1 f hmem
  have etk : ∀ g, (fol.take (j + 1)).count g = (fol.take j).count g + if g = f then 1 else 0 := fun g => by
    rw [take_snoc1 hf, List.count_append]
    by_cases e : g = f
    · subst e; rw [if_pos rfl, List.count_singleton_self]
    · rw [if_neg e, List.count_eq_zero.mpr fun z => e (List.mem_singleton.mp z)]
  have ebound : (fol.take j).count f + 1 ≤ leftN N ord f := by
    have h1 := etk f
    rw [if_pos rfl] at h1
    have h2 : (fol.take (j + 1)).count f ≤ fol.count f := (List.take_sublist _ _).count_le f
    have h3 := F.2 f hfl
    have h4 := left_snoc (N := N) (f := f) hk
    omega
  have hms := M.cnt f hfl
  have hml : f < ms.length := by rw [M.len]; exact hfl
  have hfo : f ∉ ord ++ [k] := fun z => by
    rcases List.mem_append.mp z with y | y
    · have := closed_left cl y; omega
    · rw [List.mem_singleton.mp y] at ebound; omega
  have hfr : (f : Int) ∉ rd := fun z => by
    obtain ⟨g, e, _, h2⟩ := M.ltr _ z
    obtain rfl : g = f := by omega
    omega
  refine ⟨hfl, fun hne => ⟨by rw [List.length_set]; exact M.len, M.ndr, M.apart, fun z hz => ?_, fun g hg => ?_, fun g hg h0 => ?_⟩, fun heq rd' hp => ⟨by rw [List.length_set]; exact M.len, hp.nodup_iff.mpr (List.nodup_cons.mpr ⟨hfr, M.ndr⟩), fun k' h1 h2 => ?_, fun z hz => ?_, fun g hg => ?_, fun g hg h0 => ?_⟩⟩
  · obtain ⟨g, e, h1, h2⟩ := M.ltr z hz
    refine ⟨g, e, h1, ?_⟩
    rw [etk, if_neg fun y => hfr (by rw [← y, ← e]; exact hz)]
    exact h2
  · rw [getD_setI hml, etk]
    by_cases e : g = f
    · subst e; rw [if_pos rfl, if_pos rfl, hms]; omega
    · rw [if_neg e, if_neg e, M.cnt g hg]; omega
  · rw [etk] at h0
    by_cases e : g = f
    · subst e
      rw [if_pos rfl] at h0
      omega
    · rw [if_neg e] at h0
      exact M.rdy g hg h0
  · rcases List.mem_cons.mp (hp.mem_iff.mp h2) with y | y
    · have : k' = f := by omega
      exact hfo (this ▸ h1)
    · exact M.apart k' h1 y
  · rcases List.mem_cons.mp (hp.mem_iff.mp hz) with y | y
    · refine ⟨f, y, hfl, ?_⟩
      rw [etk, if_pos rfl]
      omega
    · obtain ⟨g, e, h1, h2⟩ := M.ltr z y
      refine ⟨g, e, h1, ?_⟩
      rw [etk, if_neg fun y' => hfr (by rw [← y', ← e]; exact y)]
      exact h2
  · rw [getD_setI hml, etk]
    by_cases e : g = f
    · subst e; rw [if_pos rfl, if_pos rfl, hms]; omega
    · rw [if_neg e, if_neg e, M.cnt g hg]; omega
  · rw [etk] at h0
    by_cases e : g = f
    · exact .inr (hp.mem_iff.mpr (by rw [e]; exact List.mem_cons_self ..))
    · rw [if_neg e] at h0
      exact (M.rdy g hg h0).imp id fun y => hp.mem_iff.mpr (List.mem_cons_of_mem _ y)
theorem KMid.done {N : List (List Nat)} {ord : List Nat} {k : Nat} {fol : List Nat} {rd rd0 ms0 ms : List Int} (I : KInv N ord rd0 ms0) (hk : k ∉ ord) (hkl : k < N.length) (hk0 : leftN N ord k = 0) (F : FolOk N k fol) (M : KMid N ord k fol fol.length rd ms) : KInv N (ord ++ [k]) rd ms := by
  have e : ∀ f, f < N.length → (leftN N ord f : Nat) = leftN N (ord ++ [k]) f + (fol.take fol.length).count f := fun f hf => by
    rw [List.take_length, F.2 f hf]
    exact left_snoc hk
  refine ⟨M.len, List.nodup_append.mpr ⟨I.nd, (by simp : [k].Nodup), fun a ha b hb => fun z => hk (by rw [← List.mem_singleton.mp hb, ← z]; exact ha)⟩, M.ndr, M.apart, fun f hf => ?_, fun z hz => ?_, fun f hf => ?_, fun f hf h0 => ?_, fun i f hi o ho => ?_⟩
  · rcases List.mem_append.mp hf with z | z
    · exact I.lt f z
    · rw [List.mem_singleton.mp z]; exact hkl
  · obtain ⟨f, e1, h1, h2⟩ := M.ltr z hz
    have := e f h1
    exact ⟨f, e1, h1, by omega⟩
  · have := e f hf
    rw [M.cnt f hf]; omega
  · have := e f hf
    exact M.rdy f hf (by omega)
  · by_cases hi' : i < ord.length
    · rw [List.getElem?_append_left hi'] at hi
      have := I.closed i f hi o ho
      rw [List.take_append_of_le_length (Nat.le_of_lt hi')]
      exact this
    · have hil := (List.getElem?_eq_some_iff.mp hi).1
      rw [List.length_append] at hil
      have : i < ord.length + 1 := hil
      have ei : i = ord.length := by omega
      subst ei
      rw [List.getElem?_append_right (Nat.le_refl _), Nat.sub_self] at hi
      cases hi
      rw [List.take_append_of_le_length (Nat.le_refl _), List.take_length]
      exact left_zero.mp hk0 o ho
/-- an order of all, each behind what it needs -/
structure Topo (N : List (List Nat)) (ord : List Nat) : Prop where
  nd : ord.Nodup
  lt : ∀ k ∈ ord, k < N.length
  all : ∀ k, k < N.length → k ∈ ord
  closed : ∀ (i k : Nat), ord[i]? = some k → ∀ o ∈ N.getD k [], o ∈ ord.take i
theorem KInv.topo {N : List (List Nat)} {ord : List Nat} {ms : List Int} (I : KInv N ord [] ms) (rank : Nat → Nat) (hr : ∀ k o, k < N.length → o ∈ N.getD k [] → o < N.length ∧ rank o < rank k) : Topo N ord := by
  refine ⟨I.nd, I.lt, ?_, I.closed⟩
  have : ∀ r k, rank k = r → k < N.length → k ∈ ord := by
    intro r
    induction r using Nat.strongRecOn with
    | _ r ih =>
      intro k hk hkl
      have h0 : leftN N ord k = 0 := left_zero.mpr fun o ho => by
        obtain ⟨h1, h2⟩ := hr k o hkl ho
        exact ih (rank o) (by omega) o rfl h1
      rcases I.rdy k hkl h0 with z | z
      · exact z
      · cases z
  exact fun k hk => this _ k rfl hk
end G
namespace G
open PySem PySem.Spec PyProof.Rows L2 Evl TL
/-! ## xs[i] += v -/
theorem get_list {X : Cx} : PGet X (rIxL X.K) := by
  intro pins s σ H o i v u Q I ro ri h
  obtain ⟨p, xs, i, z, rfl, rfl, hq, he, q⟩ := h
  cases ro
  obtain ⟨t, rfl⟩ := ri
  obtain ⟨its, r, pl, hz⟩ := I.list hq
  obtain ⟨j, h1, h2, h3, h4, h5⟩ := atI_get he
  obtain ⟨w, ew, rw'⟩ := r.get h2
  have hl := r.length
  have hn := line63
  have fin : EP X pins σ Q w s := ⟨z, H, I, rw', q⟩
  by_cases h0 : 0 ≤ i
  · have hj : i.toNat = j := by
      rw [seqIndex_of h0 h5] at h1
      exact Option.some.inj h1
    exact wpAny_getItem_list pl.isList h0 (by omega) (by rw [hj]; simpa using ew) fin
  · have hj : (i + (its.toArray.size : Int)).toNat = j := by
      rw [seqIndex_neg (by omega) h4] at h1
      rw [List.size_toArray, ← hl]
      exact Option.some.inj h1
    exact wpAny_getItem_list_neg pl.isList (by omega) (by rw [List.size_toArray] <;> omega) (by omega) (by rw [hj]; simpa using ew) fin
def natsV (l : List Nat) : List V := l.map fun n : Nat => V.int (n : Int)
theorem nats_get {l : List Nat} {j : Nat} {y : V} (h : (natsV l)[j]? = some y) : ∃ k, l[j]? = some k ∧ y = .int (k : Int) := by
  unfold natsV at h
  rw [List.getElem?_map] at h
  cases e : l[j]? with
  | none => rw [e] at h; cases h
  | some k => rw [e] at h; cases h; exact ⟨k, rfl, rfl⟩
theorem nats_len (l : List Nat) : (natsV l).length = l.length := List.length_map _
theorem nats_snoc (l : List Nat) (k : Nat) : natsV (l ++ [k]) = natsV l ++ [.int (k : Int)] := by unfold natsV; rw [List.map_append]; rfl
theorem at_int {l : List Int} {k : Int} {j : Nat} (h : k = (j : Int)) (hj : j < l.length) : atI (l.map V.int) k = some (.int (l.getD j 0)) := by
  subst h
  refine atI_nat ?_
  rw [List.getElem?_map, List.getD_eq_getElem?_getD, List.getElem?_eq_getElem hj]; rfl
/-- lists of lists, each its own object, new since H0 -/
structure Fols (H0 H : Hp) (L : Addr) (fa : List Addr) (F : List (List Nat)) : Prop where
  top : H L = some (.lst (fa.map V.ref))
  newL : H0 L = none
  nd : fa.Nodup
  new : ∀ b ∈ fa, H0 b = none
  ne : L ∉ fa
  at_ : All2 (fun b l => H b = some (.lst (natsV l))) fa F
theorem Fols.keep {H0 H H' : Hp} {L : Addr} {fa : List Addr} {F : List (List Nat)} (h : Fols H0 H L fa F) (k : ∀ b o, (b = L ∨ b ∈ fa) → H b = some o → H' b = some o) : Fols H0 H' L fa F :=
  ⟨k _ _ (.inl rfl) h.top, h.newL, h.nd, h.new, h.ne, h.at_.1, fun i b l hb hl => k _ _ (.inr (List.mem_of_getElem? hb)) (h.at_.2 i b l hb hl)⟩
theorem Fols.ex {H0 H H' : Hp} {L : Addr} {fa : List Addr} {F : List (List Nat)} (h : Fols H0 H L fa F) (e : Ex H H') : Fols H0 H' L fa F := h.keep fun b o _ z => e b o z
theorem Fols.put {H0 H : Hp} {L b : Addr} {fa : List Addr} {F : List (List Nat)} {i : Nat} {l : List Nat} (h : Fols H0 H L fa F) (hb : fa[i]? = some b) : Fols H0 (upd H b (.lst (natsV l))) L fa (F.set i l) := by
  have hm := List.mem_of_getElem? hb
  refine ⟨by rw [upd_ne fun z => h.ne (by rw [z]; exact hm)]; exact h.top, h.newL, h.nd, h.new, h.ne, by rw [List.length_set]; exact h.at_.1, fun j c m hc hm' => ?_⟩
  by_cases e : j = i
  · subst e
    rw [hb] at hc
    cases hc
    have hj : j < F.length := by rw [← h.at_.1]; exact (List.getElem?_eq_some_iff.mp hb).1
    rw [List.getElem?_set_self hj] at hm'
    cases hm'
    exact upd_same
  · rw [List.getElem?_set_ne (Ne.symm e)] at hm'
    have hbc : c ≠ b := fun z => by
      subst z
      have h1 := List.getElem?_eq_some_iff.mp hb
      have h2 := List.getElem?_eq_some_iff.mp hc
      obtain ⟨a1, a2⟩ := h1
      obtain ⟨b1, b2⟩ := h2
      exact e ((List.getElem_inj h.nd).mp (b2.trans a2.symm))
    rw [upd_ne hbc]
    exact h.at_.2 j c m hc hm'
/-- how often f stands among the followers of o, i rows and j of the next told -/
structure CntOk (N F : List (List Nat)) (i j : Nat) : Prop where
  len : F.length = N.length
  cnt : ∀ o, o < N.length → ∀ f, (F.getD o []).count f = if f < i then (N.getD f []).count o else if f = i then ((N.getD i []).take j).count o else 0
  lt : ∀ o, ∀ f ∈ F.getD o [], f < N.length
  few : ∀ o, (F.getD o []).length ≤ 100 * i + j
theorem getD_setL {l : List (List Nat)} {p k : Nat} {v : List Nat} (hp : p < l.length) : (l.set p v).getD k [] = if k = p then v else l.getD k [] := by
  rw [List.getD_eq_getElem?_getD, List.getD_eq_getElem?_getD, List.getElem?_set]
  by_cases e : p = k
  · subst e
    rw [if_pos rfl, if_pos hp, if_pos rfl]; rfl
  · rw [if_neg e, if_neg (Ne.symm e)]
theorem CntOk.step {N F : List (List Nat)} {i j o : Nat} (C : CntOk N F i j) (hi : i < N.length) (ho : (N.getD i [])[j]? = some o) (hol : o < N.length) : CntOk N (F.set o (F.getD o [] ++ [i])) i (j + 1) := by
  have hp : o < F.length := by rw [C.len]; exact hol
  refine ⟨by rw [List.length_set]; exact C.len, fun o' ho' f => ?_, fun o' f hf => ?_, fun o' => ?_⟩
  · rw [getD_setL hp, take_snoc1 ho, List.count_append]
    by_cases e : o' = o
    · subst e
      rw [if_pos rfl, List.count_append, C.cnt o' ho', List.count_singleton_self]
      by_cases h1 : f < i
      · rw [if_pos h1, if_pos h1, List.count_eq_zero (l := [i]) |>.mpr fun z => by have := List.mem_singleton.mp z; omega]; rfl
      · rw [if_neg h1, if_neg h1]
        by_cases h2 : f = i
        · subst h2
          rw [if_pos rfl, if_pos rfl, List.count_singleton_self]
        · rw [if_neg h2, if_neg h2, List.count_eq_zero (l := [i]) |>.mpr fun z => h2 (List.mem_singleton.mp z)]
    · rw [if_neg e, C.cnt o' ho', List.count_eq_zero (l := [o]) |>.mpr fun z => e (List.mem_singleton.mp z)]
      rfl
  · rw [getD_setL hp] at hf
    by_cases e : o' = o
    · rw [if_pos e] at hf
      rcases List.mem_append.mp hf with z | z
      · exact C.lt o f z
      · rw [List.mem_singleton.mp z]; exact hi
    · rw [if_neg e] at hf
      exact C.lt o' f hf
  · rw [getD_setL hp]
    by_cases e : o' = o
    · rw [if_pos e, List.length_append]
      have := C.few o
      show _ + 1 ≤ _
      omega
    · rw [if_neg e]
      have := C.few o'
      omega
theorem CntOk.row {N F : List (List Nat)} {i : Nat} (C : CntOk N F i (N.getD i []).length) (hl : (N.getD i []).length ≤ 100) : CntOk N F (i + 1) 0 := by
  refine ⟨C.len, fun o ho f => ?_, C.lt, fun o => by have := C.few o; omega⟩
  rw [C.cnt o ho, List.take_length, List.take_zero]
  by_cases h1 : f < i
  · rw [if_pos h1, if_pos (by omega)]
  · by_cases h2 : f = i
    · subst h2
      rw [if_neg h1, if_pos rfl, if_pos (by omega)]
    · rw [if_neg h1, if_neg h2, if_neg (by omega)]
      by_cases h3 : f = i + 1
      · rw [if_pos h3]; rfl
      · rw [if_neg h3]
theorem CntOk.fol {N F : List (List Nat)} (C : CntOk N F N.length 0) {k : Nat} (hk : k < N.length) : FolOk N k (F.getD k []) :=
  ⟨C.lt k, fun f hf => by rw [C.cnt k hk, if_pos hf]⟩
theorem nodup_lenI {n : Nat} {l : List Int} (nd : l.Nodup) (h : ∀ z ∈ l, ∃ k : Nat, z = k ∧ k < n) : l.length ≤ n := by
  have e : l = (l.map Int.toNat).map fun k : Nat => (k : Int) := by
    rw [List.map_map]
    conv => lhs; rw [← List.map_id l]
    refine List.map_congr_left fun z hz => ?_
    obtain ⟨k, rfl, _⟩ := h z hz
    rfl
  have nd' : (l.map Int.toNat).Nodup := by
    rw [e] at nd
    exact (List.pairwise_map.mp nd).imp fun hne z => hne (by rw [z])
  have := nodup_len n _ nd' fun k hk => by
    obtain ⟨z, hz, rfl⟩ := List.mem_map.mp hk
    obtain ⟨k', e', hk'⟩ := h z hz
    show z.toNat < n
    omega
  rw [List.length_map] at this
  exact this
structure TxtK (mg : Str → Option Value) : Prop where
  len : mg "len" = none
  enumerate : mg "enumerate" = none
  pop : mg "heappop" = some (.builtin "_heapq.heappop")
  push : mg "heappush" = some (.builtin "_heapq.heappush")
section
variable {P : Program} {w : World} {K : PySem.W.Frag} {mg : Str → Option Value} {base : Heap}
def spLeast : Sp := fun vs H Q _ => ∃ (nl : Addr) (na : List Addr) (N : List (List Nat)) (rank : Nat → Nat), vs = [.ref nl] ∧ H nl = some (.lst (na.map V.ref)) ∧ All2 (fun b l => H b = some (.lst (natsV l))) na N ∧ N.length ≤ 100 ∧ (∀ k, (N.getD k []).length ≤ 100) ∧
  (∀ k o, k < N.length → o ∈ N.getD k [] → o < N.length ∧ rank o < rank k) ∧ ∀ (q : Addr) (H' : Hp) (ord : List Nat), Ex H H' → H q = none → H' q = some (.lst (natsV ord)) → Topo N ord → Q (.ref q) H'
theorem sc_least_order : FnScope ["needed", "followers", "k", "others", "other", "missing", "ready", "order", "follower", "_", "many"] ["needed"] (defScope s_least_order) := ⟨rfl, rfl, rfl, by decide +kernel, rfl, by decide +kernel, by decide +kernel⟩
theorem ok_least_order (D : Dfd K mg "least_order" s_least_order ["needed"]) (T : TxtK mg) : Has P w K mg base 1 "least_order" ["needed"] spLeast := by
  have y_heappop := T.pop
  have y_heappush := T.push
  refine D.has fun f fd F => F.ok sc_least_order (fun vs H Q E h => ?_) (fun cdv A outer s H vs Q E hr h => ?_)
  · obtain ⟨nl, na, N, rank, rfl, _⟩ := h
    rfl
  · obtain ⟨nl, na, N, rank, rfl, hnl, hN, hn, hw, hrk, q⟩ := h
    refine ⟨_, (pss_cons (ps_setLc (i := 1) (own := [("_", 9)]) (g := gName 9) (tt := tYes) rfl sc_least_order.nd rfl rfl (sw_true rfl rfl rfl (by decide +kernel)) (pi_list (pv 0)) (blkOk_by (N := ["needed", "followers", "k", "others", "other", "missing", "ready", "order", "follower", "_", "many"]) (sc := defScope s_least_order) (own := [("_", 9)]) (by decide +kernel)) (fun _ _ _ _ _ => (pg_name (i := 9) sc_least_order.nd rfl (.inl rfl))) (fun _ _ _ _ _ => pts_nil) (fun _ _ _ _ _ => (pe_lst pa_nil)))
    (pss_cons (ps_for PassesOwn.never rfl (pi_enum (by rfl) T.enumerate (pa_cons (pv 0) pa_nil)) (pg_tup rfl (pgs_cons (pg_name (i := 2) sc_least_order.nd rfl (.inl rfl)) (pgs_cons (pg_name (i := 3) sc_least_order.nd rfl (.inl rfl)) pgs_nil)))
      (pss_one (ps_for PassesOwn.never rfl (pi_list (pv 3)) (pg_name (i := 4) sc_least_order.nd rfl (.inl rfl))
        (pss_one (ps_expr (pe_bm PySem.F.plainAttrs_list PySem.F.slot_list_append PySem.F.type_list_append mt_append (pe_ix ix_list (pv 1) (pv 4) (fun _ _ => rfl)) (pa_cons (pv 2) pa_nil)))))))
    (pss_cons (ps_setLc (i := 5) (own := [("others", 3)]) (g := gName 3) (tt := tYes) rfl sc_least_order.nd rfl rfl (sw_true rfl rfl rfl (by decide +kernel)) (pi_list (pv 0)) (blkOk_by (N := ["needed", "followers", "k", "others", "other", "missing", "ready", "order", "follower", "_", "many"]) (sc := defScope s_least_order) (own := [("others", 3)]) (by decide +kernel)) (fun _ _ _ _ _ => (pg_name (i := 3) sc_least_order.nd rfl (.inl rfl))) (fun _ _ _ _ _ => pts_nil) (fun _ _ _ _ _ => (pe_callB (kLen (K := K) rfl) (by rfl) T.len (by decide +kernel) (pa_cons (pv 3) pa_nil))))
    (pss_cons (ps_setLc (i := 6) (own := [("k", 2), ("many", 10)]) (g := gTup K 2 (gCons (gName 2) (gCons (gName 10) gNil))) (tt := _) rfl sc_least_order.nd rfl rfl (sw_true rfl rfl rfl (by decide +kernel)) (pi_enum (by rfl) T.enumerate (pa_cons (pv 5) pa_nil)) (blkOk_by (N := ["needed", "followers", "k", "others", "other", "missing", "ready", "order", "follower", "_", "many"]) (sc := defScope s_least_order) (own := [("k", 2), ("many", 10)]) (by decide +kernel)) (fun _ _ _ _ _ => (pg_tup rfl (pgs_cons (pg_name (i := 2) sc_least_order.nd rfl (.inl rfl)) (pgs_cons (pg_name (i := 10) sc_least_order.nd rfl (.inl rfl)) pgs_nil)))) (fun _ _ _ _ _ => pts_one (pt_cmpR op_eq (pv 10) pe_int (nomark _))) (fun _ _ _ _ _ => (pv 2)))
    (pss_cons (ps_set (i := 7) sc_least_order.nd rfl (.inl rfl) (pe_lst pa_nil))
    (pss_cons (ps_while PassesOwn.never (pt_truth (pv 6) (by intro _; rfl))
      (pss_cons (ps_set (i := 2) sc_least_order.nd rfl (.inl rfl) (pe_callMB (HQ.cr_pop rfl) (by rfl) y_heappop (pa_cons (pv 6) pa_nil)))
      (pss_cons (ps_expr (pe_bm PySem.F.plainAttrs_list PySem.F.slot_list_append PySem.F.type_list_append mt_append (pv 7) (pa_cons (pv 2) pa_nil)))
      (pss_one (ps_for PassesOwn.never rfl (pi_list (pe_ix ix_list (pv 1) (pv 2) (fun _ _ => rfl))) (pg_name (i := 8) sc_least_order.nd rfl (.inl rfl))
        (pss_cons (ps_augS (pv 5) (pv 8) get_list pe_int ip_sub set_list)
        (pss_one (ps_if (pt_cmpR op_eq (pe_ix ix_list (pv 5) (pv 8) (fun _ _ => rfl)) pe_int (nomark _))
          (pss_one (ps_expr (pe_callMB (HQ.cr_push rfl) (by rfl) y_heappush (pa_cons (pv 6) (pa_cons (pv 8) pa_nil)))))
          pss_nil))))))))
    (pss_one (ps_ret (pv 7))))))))), ?_⟩
    have hnn : na.length = N.length := hN.1
    have hal : (na.map V.ref).length = N.length := by rw [List.length_map, hnn]
    -- followers
    refine ⟨_, rfl, nl, rfl, ⟨_, SqL.of hnl⟩, fun FL nFL => wk_list (K := K) (a := nl) (xs := na.map V.ref) (fun j H' => Ex H H' ∧ ∃ fa, Fols H H' FL fa (List.replicate j [])) ⟨Ex.new nFL, [], upd_same, nFL, List.nodup_nil, (fun _ z => nomatch z), (fun z => nomatch z), .nil⟩ (fun j H' _ z => SqL.of (z.1 _ _ hnl)) ?_ ?_⟩
    · rintro j y H1 hy ⟨E1, fa, hF⟩
      have hj : j < N.length := by rw [← hal]; exact (List.getElem?_eq_some_iff.mp hy).1
      refine ⟨rfl, tYes_in ?_⟩
      simp only [wipe, _root_.L2.start, List.map_cons, List.map_nil, List.length_cons, List.length_nil, Nat.reduceAdd, Nat.reduceSub, List.replicate_succ, List.replicate_zero, List.cons_append, List.nil_append, List.set_cons_zero, List.set_cons_succ]
      refine ⟨Nat.zero_le _, fun b nb => ?_⟩
      have nbL : FL ≠ b := ne_of_none hF.top nb
      have hfl : fa.length = j := by rw [hF.at_.1, List.length_replicate]
      have hF1 := hF.ex (Ex.new (o := .lst []) nb)
      have hbf : b ∉ fa := fun z => by
        obtain ⟨i, hi, e⟩ := List.getElem_of_mem z
        obtain ⟨l, _, hb⟩ := hF.at_.at_ (List.getElem?_eq_some_iff.mpr ⟨hi, e⟩)
        rw [nb] at hb; cases hb
      refine ⟨_, hF1.top, sz_lt (by rw [List.length_map]; omega), (E1.trans (Ex.new nb)).mut nFL, fa ++ [b], by rw [upd_same, List.map_append]; rfl, nFL, List.nodup_append.mpr ⟨hF.nd, by simp, fun c hc d hd => fun z => hbf (by rw [← List.mem_singleton.mp hd, ← z]; exact hc)⟩, fun c hc => ?_, fun z => ?_, ?_⟩
      · rcases List.mem_append.mp hc with z | z
        · exact hF.new c z
        · rw [List.mem_singleton.mp z]; exact fresh_back E1 nb
      · rcases List.mem_append.mp z with y | y
        · exact hF.ne y
        · exact nbL (List.mem_singleton.mp y)
      · show All2 _ (fa ++ [b]) (List.replicate (j + 1) [])
        rw [List.replicate_succ']
        have hA : All2 (fun c l => upd (upd H1 b (.lst [])) FL (.lst (fa.map V.ref ++ [.ref b])) c = some (.lst (natsV l))) fa (List.replicate j []) := ⟨hF1.at_.1, fun i c l h1 h2 => by
          show upd (upd H1 b (.lst [])) FL (.lst (fa.map V.ref ++ [.ref b])) c = some (.lst (natsV l))
          rw [upd_ne fun y => hF.ne (by rw [← y]; exact List.mem_of_getElem? h1)]
          exact hF1.at_.2 i c l h1 h2⟩
        exact hA.snoc (by rw [upd_ne (Ne.symm nbL)]; exact upd_same)
    rintro H1 ⟨E1, fa, hF⟩
    rw [hal] at hF
    have hfn : fa.length = N.length := by rw [hF.at_.1, List.length_replicate]
    have C0 : CntOk N (List.replicate N.length []) 0 0 := by
      have g : ∀ o : Nat, (List.replicate N.length ([] : List Nat)).getD o [] = [] := fun o => by
        rw [List.getD_eq_getElem?_getD, List.getElem?_replicate]
        by_cases z : o < N.length
        · rw [if_pos z]; rfl
        · rw [if_neg z]; rfl
      refine ⟨List.length_replicate, fun o _ f => ?_, fun o f hf => ?_, fun o => ?_⟩
      · rw [g, if_neg (Nat.not_lt_zero f), List.take_zero, List.count_nil, List.count_nil]
        by_cases z : f = 0
        · rw [if_pos z]
        · rw [if_neg z]
      · rw [g] at hf; cases hf
      · rw [g]; exact Nat.zero_le _
    have hno : ∀ k b, na[k]? = some b → H b = some (.lst (natsV (N.getD k []))) := fun k b hb => by
      obtain ⟨l, hl, h1⟩ := hN.at_ hb
      rw [List.getD_eq_getElem?_getD, hl]; exact h1
    -- who waits for whom
    refine ⟨_, rfl, nl, _, rfl, SqL.of (E1 _ _ hnl), for_it walk_enum
      (fun i σ H' => Ex H H' ∧ ∃ (F : List (List Nat)) (z2 z3 z4 : Option V), Fols H H' FL fa F ∧ CntOk N F i 0 ∧ σ = [some (.ref nl), some (.ref FL), z2, z3, z4, none, none, none, none, none, none])
      ⟨E1, _, _, _, _, hF, C0, rfl⟩ (fun i σ H' _ g => SqL.of (g.1 _ _ hnl)) ?_ ?_⟩
    · rintro i y σ H2 H3 hi ⟨E2, F, z2, z3, z4, hF2, C2, rfl⟩ ⟨T1, x0, y0, rfl, nT, rfl, hx0, hy0⟩
      rw [hal] at hi
      cases hx0
      obtain ⟨b, hb, rfl⟩ := refs_get hy0
      have E3 : Ex H2 (upd H2 T1 (.tup [.int (i : Nat), .ref b])) := Ex.new nT
      refine ⟨T1, _, rfl, SqT.of upd_same, rfl, _, _, rfl, _, _, rfl, rfl, ?_⟩
      have hF3 := hF2.ex E3
      generalize upd H2 T1 (.tup [.int (i : Nat), .ref b]) = H3 at *
      have E03 := E2.trans E3
      have hb0 := hno i b hb
      simp only [wipe, _root_.L2.start, List.map_cons, List.map_nil, List.length_cons, List.length_nil, Nat.reduceAdd, Nat.reduceSub, List.replicate_succ, List.replicate_zero, List.cons_append, List.nil_append, List.set_cons_zero, List.set_cons_succ]
      refine ⟨_, rfl, b, rfl, ⟨_, SqL.of (E03 _ _ hb0)⟩, for_list (K := K) (a := b) (xs := natsV (N.getD i []))
        (fun j σ H' => Ex H H' ∧ ∃ (F : List (List Nat)) (z4 : Option V), Fols H H' FL fa F ∧ CntOk N F i j ∧ σ = [some (.ref nl), some (.ref FL), some (.int (i : Nat)), some (.ref b), z4, none, none, none, none, none, none])
        ⟨E03, F, z4, hF3, C2, rfl⟩ (fun j σ H' _ g => SqL.of (g.1 _ _ hb0)) ?_ ?_⟩
      · rintro j y σ H4 hy ⟨E4, F, z4, hF4, C4, rfl⟩
        obtain ⟨o, ho, rfl⟩ := nats_get hy
        have hol := (hrk i o hi (List.mem_of_getElem? ho)).1
        have hof : o < fa.length := by omega
        have hfb : fa[o]? = some fa[o] := List.getElem?_eq_getElem hof
        obtain ⟨l, hl, hlb⟩ := hF4.at_.at_ hfb
        have hlF : F.getD o [] = l := by rw [List.getD_eq_getElem?_getD, hl]; rfl
        have hll : l.length ≤ 100 * i + j := by rw [← hlF]; exact C4.few o
        have hj : j < 100 := by
          have := (List.getElem?_eq_some_iff.mp ho).1
          have := hw i
          omega
        refine ⟨_, rfl, _, rfl, FL, _, _, .ref fa[o], rfl, rfl, SqL.of hF4.top, at_of (j := o) rfl (by rw [List.getElem?_map, hfb]; rfl), .inl ⟨rfl, _, SqL.of hlb⟩, _, rfl, fa[o], _, .int (i : Nat), rfl, rfl, hlb, sz_lt (by rw [nats_len]; omega), E4.mut (hF4.new _ (List.mem_of_getElem? hfb)), _, _, ?_, C4.step hi ho hol, rfl⟩
        rw [← nats_snoc, hlF]
        exact hF4.put hfb
      · rintro σ H4 ⟨E4, F, z4, hF4, C4, rfl⟩
        rw [nats_len] at C4
        exact ⟨E4, F, _, _, _, hF4, C4.row (hw i), rfl⟩
    rintro σ H2 ⟨E2, F, z2, z3, z4, hF2, C2, rfl⟩
    rw [hal] at C2
    -- how many are missing
    refine ⟨_, rfl, nl, rfl, ⟨_, SqL.of (E2 _ _ hnl)⟩, fun ML nML => wk_list (K := K) (a := nl) (xs := na.map V.ref) (fun j H' => Ex H2 H' ∧ H' ML = some (.lst (((N.take j).map fun l => (l.length : Int)).map V.int))) ⟨Ex.new nML, upd_same⟩ (fun j H' _ z => SqL.of ((E2.trans z.1) _ _ hnl)) ?_ ?_⟩
    · rintro j y H3 hy ⟨E3, hM⟩
      obtain ⟨b, hb, rfl⟩ := refs_get hy
      obtain ⟨l, hl, hlb⟩ := hN.at_ hb
      have hj : j < N.length := (List.getElem?_eq_some_iff.mp hl).1
      refine ⟨rfl, tYes_in ?_⟩
      simp only [wipe, _root_.L2.start, List.map_cons, List.map_nil, List.length_cons, List.length_nil, Nat.reduceAdd, Nat.reduceSub, List.replicate_succ, List.replicate_zero, List.cons_append, List.nil_append, List.set_cons_zero, List.set_cons_succ]
      refine ⟨_, rfl, b, _, rfl, .inl (SqL.of ((E2.trans E3) _ _ hlb)), _, hM, sz_lt (by rw [List.length_map, List.length_map, List.length_take]; omega), E3.mut nML, ?_⟩
      rw [upd_same, take_snoc1 hl, List.map_append, List.map_append, nats_len]; rfl
    rintro H3 ⟨E3, hM⟩
    rw [hal, List.take_length] at hM
    have F2' : ∀ b, (b = FL ∨ b ∈ fa) → ∃ o, H2 b = some o := fun b hb => by
      rcases hb with z | z
      · exact ⟨_, by rw [z]; exact hF2.top⟩
      · obtain ⟨i, hi, e⟩ := List.getElem_of_mem z
        obtain ⟨l, _, h1⟩ := hF2.at_.at_ (List.getElem?_eq_some_iff.mpr ⟨hi, e⟩)
        exact ⟨_, h1⟩
    have E03 := E2.trans E3
    have hF3 := hF2.ex E3
    -- what is ready
    have hMl : ((N.map fun l => (l.length : Int)).map V.int).length = N.length := by rw [List.length_map, List.length_map]
    refine ⟨_, rfl, ML, _, rfl, SqL.of hM, fun RL nRL => wk_it walk_enum (fun j H' => Ex H3 H' ∧ H' RL = some (.lst (natsV ((List.range j).filter fun k => decide (leftN N [] k = 0))))) ⟨Ex.new nRL, upd_same⟩ (fun j H' _ g => SqL.of (g.1 _ _ hM)) ?_ ?_⟩
    · rintro j x H4 H5 hj ⟨E4, hRL⟩ ⟨T1, x0, y0, rfl, nT, rfl, hx0, hy0⟩
      rw [hMl] at hj
      cases hx0
      have nRT : RL ≠ T1 := ne_of_none hRL nT
      have E5 : Ex H4 (upd H4 T1 (.tup [.int (j : Nat), y0])) := Ex.new nT
      obtain ⟨l, hl⟩ : ∃ l, N[j]? = some l := ⟨N[j], List.getElem?_eq_getElem hj⟩
      obtain rfl : y0 = .int (l.length : Int) := by
        have hy1 : ((N.map fun l => (l.length : Int)).map V.int)[j]? = some y0 := hy0
        rw [List.getElem?_map, List.getElem?_map, hl] at hy1
        cases hy1; rfl
      have hleft : leftN N [] j = l.length := by
        unfold leftN
        rw [List.getD_eq_getElem?_getD, hl]
        show (l.filter _).length = _
        rw [List.filter_eq_self.mpr fun x _ => decide_eq_true (by intro z; cases z)]
      refine ⟨T1, _, rfl, SqT.of upd_same, rfl, _, _, rfl, _, _, rfl, rfl, rfl, ?_⟩
      simp only [wipe, _root_.L2.start, List.map_cons, List.map_nil, List.length_cons, List.length_nil, Nat.reduceAdd, Nat.reduceSub, List.replicate_succ, List.replicate_zero, List.cons_append, List.nil_append, List.set_cons_zero, List.set_cons_succ]
      have hRL5 : upd H4 T1 (.tup [.int (j : Nat), .int (l.length : Int)]) RL = some (.lst (natsV ((List.range j).filter fun k => decide (leftN N [] k = 0)))) := E5 _ _ hRL
      generalize upd H4 T1 (.tup [.int (j : Nat), .int (l.length : Int)]) = H5 at *
      have E35 := E4.trans E5
      have hfl : ((List.range j).filter fun k => decide (leftN N [] k = 0)).length ≤ 100 := by
        have := List.length_filter_le (fun k => decide (leftN N [] k = 0)) (List.range j)
        rw [List.length_range] at this
        omega
      refine ⟨_, rfl, rfl, _, rfl, ite2 (fun c1 => ?_) (fun c1 => ?_)⟩
      · have h0 : leftN N [] j = 0 := by
          have := of_decide_eq_true c1
          have : (l.length : Int) = 0 := by injection this
          omega
        refine ⟨_, rfl, _, hRL5, sz_lt (by rw [nats_len]; omega), E35.mut nRL, ?_⟩
        rw [upd_same, List.range_succ, List.filter_append, ← nats_snoc]
        show _ = some (HO.lst (natsV (_ ++ List.filter _ [j])))
        rw [List.filter_cons, decide_eq_true h0, if_pos rfl]; rfl
      · have h0 : ¬ leftN N [] j = 0 := fun z => c1 (decide_eq_true (by rw [show l.length = 0 by omega]; rfl))
        refine ⟨E35, ?_⟩
        rw [hRL5, List.range_succ, List.filter_append]
        show _ = some (HO.lst (natsV (_ ++ List.filter _ [j])))
        rw [List.filter_cons, decide_eq_false h0, if_neg Bool.false_ne_true]
        show _ = some (HO.lst (natsV (_ ++ [])))
        rw [List.append_nil]
    rintro H4 ⟨E4, hRL⟩
    rw [hMl] at hRL
    refine ⟨Nat.zero_le _, fun OL nOL => ?_⟩
    have I0 : KInv N [] ((List.range N.length).filter (fun k => decide (leftN N [] k = 0)) |>.map fun k : Nat => (k : Int)) (N.map fun l => (l.length : Int)) := by
      have hl : ∀ k, leftN N [] k = (N.getD k []).length := fun k => by
        unfold leftN
        rw [List.filter_eq_self.mpr fun x _ => decide_eq_true (by intro z; cases z)]
      refine ⟨List.length_map _, List.nodup_nil, ?_, (fun _ z => nomatch z), (fun _ z => nomatch z), fun z hz => ?_, fun k hk => ?_, fun k hk h0 => ?_, (fun _ _ z => nomatch z)⟩
      · exact List.Pairwise.map _ (fun a b h z => h (by omega)) (List.nodup_range.filter _)
      · obtain ⟨k, hk, rfl⟩ := List.mem_map.mp hz
        obtain ⟨h1, h2⟩ := List.mem_filter.mp hk
        exact ⟨k, rfl, List.mem_range.mp h1, of_decide_eq_true h2⟩
      · rw [hl, List.getD_eq_getElem?_getD, List.getElem?_map, List.getD_eq_getElem?_getD, List.getElem?_eq_getElem hk]; rfl
      · exact .inr (List.mem_map.mpr ⟨k, List.mem_filter.mpr ⟨List.mem_range.mpr hk, decide_eq_true h0⟩, rfl⟩)
    have eRd : natsV ((List.range N.length).filter fun k => decide (leftN N [] k = 0)) = ((List.range N.length).filter (fun k => decide (leftN N [] k = 0)) |>.map fun k : Nat => (k : Int)).map V.int := by unfold natsV; rw [List.map_map]; rfl
    rw [eRd] at hRL
    generalize ((List.range N.length).filter (fun k => decide (leftN N [] k = 0)) |>.map fun k : Nat => (k : Int)) = rd0 at *
    generalize (N.map fun l => (l.length : Int)) = ms0 at *
    have E5 : Ex H4 (upd H4 OL (.lst [])) := Ex.new nOL
    have hO : upd H4 OL (.lst []) OL = some (.lst (natsV [])) := upd_same
    have nRO : RL ≠ OL := ne_of_none hRL nOL
    have nMR : ML ≠ RL := ne_of_none hM nRL
    have nMO : ML ≠ OL := ne_of_none (E4 _ _ hM) nOL
    have nfM : ∀ b, (b = FL ∨ b ∈ fa) → b ≠ ML := fun b hb => by
      obtain ⟨o, h⟩ := F2' b hb
      exact ne_of_none h nML
    have nfR : ∀ b, (b = FL ∨ b ∈ fa) → b ≠ RL := fun b hb => by
      obtain ⟨o, h⟩ := F2' b hb
      exact ne_of_none (E3 _ _ h) nRL
    have nfO : ∀ b, (b = FL ∨ b ∈ fa) → b ≠ OL := fun b hb => by
      obtain ⟨o, h⟩ := F2' b hb
      exact ne_of_none ((E3.trans E4) _ _ h) nOL
    have nM0 : H ML = none := fresh_back E2 nML
    have nR0 : H RL = none := fresh_back E03 nRL
    have nO0 : H OL = none := fresh_back (E03.trans E4) nOL
    refine ⟨fun μ σ H' => Ex H H' ∧ ∃ (ord : List Nat) (rd ms : List Int) (y2 y8 : Option V), Fols H H' FL fa F ∧ KInv N ord rd ms ∧ H' RL = some (.lst (rd.map V.int)) ∧ H' ML = some (.lst (ms.map V.int)) ∧ H' OL = some (.lst (natsV ord)) ∧ μ + ord.length = N.length ∧ σ = [some (.ref nl), some (.ref FL), y2, z3, z4, some (.ref ML), some (.ref RL), some (.ref OL), y8, none, none],
      ⟨N.length, E03.trans (E4.trans E5), [], rd0, ms0, _, _, hF3.ex (E4.trans E5), I0, E5 _ _ hRL, (E4.trans E5) _ _ hM, hO, rfl, rfl⟩, ?_⟩
    rintro μ σ H6 ⟨E6, ord, rd, ms, y2, y8, hF6, I6, hR6, hM6, hO6, hμ, rfl⟩
    refine ⟨_, rfl, !(rd.map V.int).isEmpty, .inl ⟨_, SqL.of hR6, rfl⟩, ite2 (fun c1 => ?_) (fun c1 => ?_)⟩
    · have hrd : 0 < rd.length := by
        cases rd with
        | nil => cases c1
        | cons x l => exact Nat.succ_pos _
      have hperm := HQ.pop_perm hrd
      obtain ⟨k, ek, hkl, _⟩ := I6.ltr (rd.getD 0 0) (hperm.mem_iff.mp (List.mem_cons_self ..))
      rw [ek] at hperm
      obtain ⟨M0, _, hk, hk0⟩ := I6.pop (fol := F.getD k []) hperm
      have hlen1 : ord.length + 1 ≤ N.length := by
        have := nodup_len N.length (ord ++ [k]) (List.nodup_append.mpr ⟨I6.nd, by simp, fun a ha b hb => fun z => hk (by rw [← List.mem_singleton.mp hb, ← z]; exact ha)⟩) fun f hf => by
          rcases List.mem_append.mp hf with z | z
          · exact I6.lt f z
          · rw [List.mem_singleton.mp z]; exact hkl
        rw [List.length_append] at this
        exact this
      refine ⟨fun σ' H' => Ex H H' ∧ ∃ (ord' : List Nat) (rd ms : List Int) (y2 y8 : Option V), Fols H H' FL fa F ∧ KInv N ord' rd ms ∧ H' RL = some (.lst (rd.map V.int)) ∧ H' ML = some (.lst (ms.map V.int)) ∧ H' OL = some (.lst (natsV ord')) ∧ ord'.length = ord.length + 1 ∧ σ' = [some (.ref nl), some (.ref FL), y2, z3, z4, some (.ref ML), some (.ref RL), some (.ref OL), y8, none, none], ?_, ?_⟩
      · rintro σ' H' ⟨b1, ord', rd', ms', y2', y8', b2, b3, b4, b5, b6, b7, rfl⟩
        exact ⟨μ - 1, by omega, b1, ord', rd', ms', y2', y8', b2, b3, b4, b5, b6, by omega, rfl⟩
      have E7 := E6.mut (o := .lst ((HQ.popI rd).map V.int)) nR0
      refine ⟨_, rfl, RL, rd, rfl, hR6, hrd, ?_⟩
      rw [ek]
      have hF7 : Fols H (upd H6 RL (.lst ((HQ.popI rd).map V.int))) FL fa F := hF6.keep fun b o hb z => by rw [upd_ne (nfR b hb)]; exact z
      have hM7 : upd H6 RL (.lst ((HQ.popI rd).map V.int)) ML = some (.lst (ms.map V.int)) := by rw [upd_ne nMR]; exact hM6
      have hO7 : upd H6 RL (.lst ((HQ.popI rd).map V.int)) OL = some (.lst (natsV ord)) := by rw [upd_ne (Ne.symm nRO)]; exact hO6
      have hR7 : upd H6 RL (.lst ((HQ.popI rd).map V.int)) RL = some (.lst ((HQ.popI rd).map V.int)) := upd_same
      generalize upd H6 RL (.lst ((HQ.popI rd).map V.int)) = H7 at *
      refine ⟨_, rfl, .inl ⟨rfl, _, SqL.of hO7⟩, _, rfl, OL, _, .int (k : Nat), rfl, rfl, hO7, sz_lt (by rw [nats_len]; omega), ?_⟩
      rw [← nats_snoc]
      have E8 := E7.mut (o := .lst (natsV (ord ++ [k]))) nO0
      have hF8 : Fols H (upd H7 OL (.lst (natsV (ord ++ [k])))) FL fa F := hF7.keep fun b o hb z => by rw [upd_ne (nfO b hb)]; exact z
      have hM8 : upd H7 OL (.lst (natsV (ord ++ [k]))) ML = some (.lst (ms.map V.int)) := by rw [upd_ne nMO]; exact hM7
      have hR8 : upd H7 OL (.lst (natsV (ord ++ [k]))) RL = some (.lst ((HQ.popI rd).map V.int)) := by rw [upd_ne nRO]; exact hR7
      have hO8 : upd H7 OL (.lst (natsV (ord ++ [k]))) OL = some (.lst (natsV (ord ++ [k]))) := upd_same
      generalize upd H7 OL (.lst (natsV (ord ++ [k]))) = H8 at *
      have FO := C2.fol hkl
      have hfk : k < fa.length := by omega
      have hfb : fa[k]? = some fa[k] := List.getElem?_eq_getElem hfk
      have hat : ∀ H', Fols H H' FL fa F → H' fa[k] = some (.lst (natsV (F.getD k []))) := fun H' h => by
        obtain ⟨l, hl, h1⟩ := h.at_.at_ hfb
        rw [List.getD_eq_getElem?_getD, hl]; exact h1
      refine ⟨_, rfl, _, rfl, FL, _, _, .ref fa[k], rfl, rfl, SqL.of hF8.top, at_of (j := k) rfl (by rw [List.getElem?_map, hfb]; rfl), fa[k], rfl, ⟨_, SqL.of (hat _ hF8)⟩, for_list (K := K) (a := fa[k]) (xs := natsV (F.getD k []))
        (fun j σ H' => Ex H H' ∧ ∃ (rd' ms' : List Int) (y8 : Option V), Fols H H' FL fa F ∧ KMid N ord k (F.getD k []) j rd' ms' ∧ H' RL = some (.lst (rd'.map V.int)) ∧ H' ML = some (.lst (ms'.map V.int)) ∧ H' OL = some (.lst (natsV (ord ++ [k]))) ∧ σ = [some (.ref nl), some (.ref FL), some (.int (k : Int)), z3, z4, some (.ref ML), some (.ref RL), some (.ref OL), y8, none, none])
        ⟨E8, HQ.popI rd, ms, y8, hF8, M0, hR8, hM8, hO8, rfl⟩ (fun j σ H' _ g => by obtain ⟨_, _, _, _, h1, _⟩ := g; exact SqL.of (hat _ h1)) ?_ ?_⟩
      · rintro j y σ H9 hy ⟨E9, rd', ms', y8, hF9, M9, hR9, hM9, hO9, rfl⟩
        obtain ⟨f, hf, rfl⟩ := nats_get hy
        obtain ⟨hfl, s1, s2⟩ := M9.step I6.closed hk hk0 FO hf
        have hfm : f < ms'.length := by rw [M9.len]; exact hfl
        refine ⟨_, rfl, _, rfl, ML, _, _, _, rfl, rfl, SqL.of hM9, at_int (j := f) rfl hfm, _, _, rfl, rfl, ML, _, _, f, rfl, rfl, hM9, ixN_nat (by rw [List.length_map]; exact hfm), ?_⟩
        rw [← List.map_set]
        have E10 := E9.mut (o := .lst ((ms'.set f (ms'.getD f 0 - 1)).map V.int)) nM0
        have hF10 : Fols H (upd H9 ML (.lst ((ms'.set f (ms'.getD f 0 - 1)).map V.int))) FL fa F := hF9.keep fun b o hb z => by rw [upd_ne (nfM b hb)]; exact z
        have hR10 : upd H9 ML (.lst ((ms'.set f (ms'.getD f 0 - 1)).map V.int)) RL = some (.lst (rd'.map V.int)) := by rw [upd_ne (Ne.symm nMR)]; exact hR9
        have hO10 : upd H9 ML (.lst ((ms'.set f (ms'.getD f 0 - 1)).map V.int)) OL = some (.lst (natsV (ord ++ [k]))) := by rw [upd_ne (Ne.symm nMO)]; exact hO9
        have hM10 : upd H9 ML (.lst ((ms'.set f (ms'.getD f 0 - 1)).map V.int)) ML = some (.lst ((ms'.set f (ms'.getD f 0 - 1)).map V.int)) := upd_same
        generalize upd H9 ML (.lst ((ms'.set f (ms'.getD f 0 - 1)).map V.int)) = H10 at *
        refine ⟨_, rfl, _, rfl, ML, _, _, _, rfl, rfl, SqL.of hM10, at_int (j := f) rfl (by rw [List.length_set]; exact hfm), rfl, _, rfl, ?_⟩
        rw [getD_setI hfm, if_pos rfl]
        have hrl : rd'.length ≤ 100 := by
          have := nodup_lenI M9.ndr fun z hz => by
            obtain ⟨g, a1, a2, _⟩ := M9.ltr z hz
            exact ⟨g, a1, a2⟩
          omega
        refine ite2 (fun c2 => ?_) (fun c2 => ?_)
        · have h0 : ms'.getD f 0 - 1 = 0 := by
            have := of_decide_eq_true c2
            injection this
          refine ⟨_, rfl, _, rfl, RL, rd', (f : Int), rfl, hR10, sz_lt (by omega), ?_⟩
          exact ⟨E10.mut nR0, HQ.pushI rd' (f : Int), _, _, hF10.keep fun b o hb z => by rw [upd_ne (nfR b hb)]; exact z, s2 h0 _ (HQ.push_perm rd' f), upd_same, by rw [upd_ne nMR]; exact hM10, by rw [upd_ne (Ne.symm nRO)]; exact hO10, rfl⟩
        · have h0 : ms'.getD f 0 - 1 ≠ 0 := fun z => c2 (decide_eq_true (by rw [z]))
          exact ⟨E10, rd', _, _, hF10, s1 h0, hR10, hM10, hO10, rfl⟩
      · rintro σ H9 ⟨E9, rd', ms', y8, hF9, M9, hR9, hM9, hO9, rfl⟩
        rw [nats_len] at M9
        exact ⟨E9, ord ++ [k], rd', ms', _, _, hF9, M9.done I6 hk hkl hk0 FO, hR9, hM9, hO9, by rw [List.length_append]; rfl, rfl⟩
    · have : rd = [] := by
        cases rd with
        | nil => rfl
        | cons x l => exact absurd rfl c1
      subst this
      exact ⟨_, rfl, q OL H6 ord E6 nO0 hO6 (I6.topo rank hrk)⟩
end
end G
namespace G
open PySem PySem.Spec PyProof.Rows L2
/-! ## what a circuit means: the mathematics -/
def sumB (bs : List Bool) : Nat → Nat
  | 0 => 0
  | j + 1 => sumB bs j + if bs.getD j false then 2 ^ j else 0
theorem sumB_lt (bs : List Bool) : ∀ j, sumB bs j < 2 ^ j
  | 0 => Nat.one_pos
  | j + 1 => by
    have h := sumB_lt bs j
    show sumB bs j + _ < 2 ^ (j + 1)
    rw [Nat.pow_succ]
    by_cases e : bs.getD j false = true
    · rw [if_pos e]; omega
    · rw [if_neg e]; omega
def lookB (tab bs : List Bool) : Bool := tab.getD (sumB bs bs.length) false
theorem nm_ok16 : ∀ c ∈ (["i", "r", "g", "p"] : List Str), ∀ k, k < 16 → PyData.strOk (nm c k) = true := by decide +kernel
theorem nm_inj : ∀ c ∈ (["i", "r", "g", "p"] : List Str), ∀ c' ∈ (["i", "r", "g", "p"] : List Str), ∀ k, k < 16 → ∀ k', k' < 16 → nm c k = nm c' k' → c = c' ∧ k = k' := by decide +kernel
def srcs (d : CircD) : List Str := d.ins ++ d.regs.map (·.name)
def gnames (d : CircD) : List Str := d.gates.map (·.name)
/-- val says what each net holds, the sources given -/
structure Val (d : CircD) (vec : List Bool) (val : Str → Bool) : Prop where
  src : ∀ (i : Nat) (x : Str), (srcs d)[i]? = some x → vec[i]? = some (val x)
  gate : ∀ g ∈ d.gates, val g.name = lookB g.tab (g.pins.map val)
/-- names apart, each gate reads nets that there are, none reads itself by others -/
structure Nets (d : CircD) : Prop where
  nd : (srcs d ++ gnames d).Nodup
  pins : ∀ g ∈ d.gates, ∀ x ∈ g.pins, x ∈ srcs d ++ gnames d
  few : d.gates.length ≤ 16
  fewp : ∀ g ∈ d.gates, g.pins.length ≤ 3
  tab : ∀ g ∈ d.gates, g.tab.length = 2 ^ g.pins.length
  fews : (srcs d).length ≤ 16
  rank : ∃ rank : Str → Nat, ∀ g ∈ d.gates, ∀ x ∈ g.pins, x ∈ gnames d → rank x < rank g.name
  regs : ∀ r ∈ d.regs, r.net ∈ srcs d ++ gnames d
  tx : ∀ x ∈ srcs d ++ gnames d, PyData.strOk x = true
def needN (d : CircD) : List (List Nat) := d.gates.map fun g => (g.pins.filter fun x => decide (x ∈ gnames d)).map fun x => (gnames d).idxOf x
def evG : (Str → Bool) → List GateD → Str → Bool
  | f, [] => f
  | f, g :: gs => evG (fun y => if y = g.name then lookB g.tab (g.pins.map f) else f y) gs
theorem evG_out : ∀ (gs : List GateD) (f : Str → Bool) (x : Str), x ∉ gs.map (·.name) → evG f gs x = f x
  | [], _, _, _ => rfl
  | g :: gs, f, x, h => by
    rw [List.map_cons, List.mem_cons] at h
    show evG _ gs x = _
    rw [evG_out gs _ x fun z => h (.inr z)]
    show (if x = g.name then _ else _) = _
    rw [if_neg fun z => h (.inl z)]
theorem evG_gate : ∀ (gs : List GateD) (f : Str → Bool), (gs.map (·.name)).Nodup → (∀ (k : Nat) (g : GateD), gs[k]? = some g → ∀ x ∈ g.pins, ∀ (j : Nat) (g' : GateD), gs[j]? = some g' → x = g'.name → j < k) → ∀ g ∈ gs, evG f gs g.name = lookB g.tab (g.pins.map (evG f gs))
  | [], _, _, _, g, h => nomatch h
  | g :: gs, f, nd, hp, g', h => by
    rw [List.map_cons, List.nodup_cons] at nd
    have hev : ∀ x ∈ g.pins, evG f (g :: gs) x = f x := fun x hx => by
      refine evG_out (g :: gs) f x fun z => ?_
      obtain ⟨g2, h2, e2⟩ := List.mem_map.mp z
      obtain ⟨j, hj, e⟩ := List.getElem_of_mem h2
      exact absurd (hp 0 g rfl x hx j g2 (List.getElem?_eq_some_iff.mpr ⟨hj, e⟩) e2.symm) (Nat.not_lt_zero _)
    rcases List.mem_cons.mp h with e | h
    · subst e
      rw [List.map_congr_left hev]
      show evG _ gs g'.name = _
      rw [evG_out gs _ _ nd.1]
      show (if g'.name = g'.name then _ else _) = _
      rw [if_pos rfl]
    · exact evG_gate gs _ nd.2 (fun k g1 hk x hx j g2 hj e => by
        have := hp (k + 1) g1 hk x hx (j + 1) g2 hj e
        omega) g' h
theorem nets_of {most : Nat} {d : CircD} {G : List GateD} (W : CircWf most d G) (hm : most ≤ 15) : Nets d ∧ ∀ vec : List Bool, vec.length = (srcs d).length → ∃ val, Val d vec val := by
  obtain ⟨ni, hi1, hi3, ei⟩ := W.ins
  obtain ⟨nr, hr3, er⟩ := W.regs
  have hG := W.few
  have hname : ∀ (k : Nat) (g : GateD), G[k]? = some g → g.name = nm "g" k := fun k g hk => (W.gates k g hk).name
  have eG : G.map (·.name) = (List.range G.length).map (nm "g") := by
    refine List.ext_getElem? fun k => ?_
    rw [List.getElem?_map, List.getElem?_map]
    by_cases h : k < G.length
    · rw [List.getElem?_eq_getElem h, List.getElem?_range h]
      show some (G[k]).name = some _
      rw [hname k _ (List.getElem?_eq_getElem h)]
    · rw [List.getElem?_eq_none (by omega), List.getElem?_eq_none (by rw [List.length_range]; omega)]; rfl
  have es : srcs d = (List.range ni).map (nm "i") ++ (List.range nr).map (nm "r") := by unfold srcs; rw [ei, er]
  have pg : (gnames d).Perm (G.map (·.name)) := W.perm.map _
  have mg : ∀ x, x ∈ gnames d ↔ ∃ k, k < G.length ∧ x = nm "g" k := fun x => by
    rw [pg.mem_iff, eG, List.mem_map]
    exact ⟨fun ⟨k, h1, h2⟩ => ⟨k, List.mem_range.mp h1, h2.symm⟩, fun ⟨k, h1, h2⟩ => ⟨k, List.mem_range.mpr h1, h2.symm⟩⟩
  have ndm : ∀ (c : Str), c ∈ (["i", "r", "g", "p"] : List Str) → ∀ n, n ≤ 16 → ((List.range n).map (nm c)).Nodup := fun c hc n hn => by
    refine List.pairwise_map.mpr (List.Pairwise.imp_of_mem (fun {a b} ha hb hne z => hne ?_) (List.nodup_range (n := n)))
    exact (nm_inj c hc c hc a (by have := List.mem_range.mp ha; omega) b (by have := List.mem_range.mp hb; omega) z).2
  have ndG : (G.map (·.name)).Nodup := by rw [eG]; exact ndm "g" (by decide +kernel) _ (by omega)
  have nds : (srcs d).Nodup := by
    rw [es]
    refine List.nodup_append.mpr ⟨ndm "i" (by decide +kernel) _ (by omega), ndm "r" (by decide +kernel) _ (by omega), fun a ha b hb z => ?_⟩
    obtain ⟨j, hj, rfl⟩ := List.mem_map.mp ha
    obtain ⟨k, hk, rfl⟩ := List.mem_map.mp hb
    have := (nm_inj "i" (by decide +kernel) "r" (by decide +kernel) j (by have := List.mem_range.mp hj; omega) k (by have := List.mem_range.mp hk; omega) z).1
    exact absurd this (by decide +kernel)
  have nsg : ∀ x ∈ srcs d, ∀ k, k < G.length → x ≠ nm "g" k := fun x hx k hk z => by
    rw [es] at hx
    rcases List.mem_append.mp hx with y | y
    · obtain ⟨j, hj, e⟩ := List.mem_map.mp y
      exact absurd (nm_inj "i" (by decide +kernel) "g" (by decide +kernel) j (by have := List.mem_range.mp hj; omega) k (by omega) (e.trans z)).1 (by decide +kernel)
    · obtain ⟨j, hj, e⟩ := List.mem_map.mp y
      exact absurd (nm_inj "r" (by decide +kernel) "g" (by decide +kernel) j (by have := List.mem_range.mp hj; omega) k (by omega) (e.trans z)).1 (by decide +kernel)
  have hpin : ∀ (k : Nat) (g : GateD), G[k]? = some g → ∀ x ∈ g.pins, ∀ j, j < G.length → x = nm "g" j → j < k := fun k g hk x hx j hj e => by
    have hkl := (List.getElem?_eq_some_iff.mp hk).1
    rcases List.mem_append.mp ((W.gates k g hk).pins x hx) with z | z
    · exact absurd e (nsg x z j hj)
    · obtain ⟨i, hi, e2⟩ := List.mem_map.mp z
      have hik := List.mem_range.mp hi
      have := (nm_inj "g" (by decide +kernel) "g" (by decide +kernel) i (by omega) j (by omega) (e2.trans e)).2
      omega
  have hmem : ∀ g ∈ d.gates, ∃ k, G[k]? = some g ∧ k < G.length := fun g hg => by
    obtain ⟨k, hk, e⟩ := List.getElem_of_mem (W.perm.mem_iff.mp hg)
    exact ⟨k, List.getElem?_eq_some_iff.mpr ⟨hk, e⟩, hk⟩
  have hsub : ∀ k, k ≤ G.length → ∀ x ∈ d.ins ++ d.regs.map (·.name) ++ (List.range k).map (nm "g"), x ∈ srcs d ++ gnames d := fun k hk x hx => by
    rcases List.mem_append.mp hx with z | z
    · exact List.mem_append_left _ z
    · obtain ⟨j, hj, e⟩ := List.mem_map.mp z
      exact List.mem_append_right _ ((mg x).mpr ⟨j, by have := List.mem_range.mp hj; omega, e.symm⟩)
  refine ⟨⟨List.nodup_append.mpr ⟨nds, pg.nodup_iff.mpr ndG, fun a ha b hb z => ?_⟩, fun g hg x hx => ?_, ?_, fun g hg => ?_, fun g hg => ?_, ?_, ⟨fun x => (G.map (·.name)).idxOf x, fun g hg x hx hxg => ?_⟩, fun r hr => hsub G.length (Nat.le_refl _) _ (W.rwf r hr).2, fun x hx => ?_⟩, fun vec hv => ?_⟩
  · obtain ⟨k, hk, e⟩ := (mg b).mp hb
    exact nsg a ha k hk (z.trans e)
  · obtain ⟨k, hk, hkl⟩ := hmem g hg
    exact hsub k (Nat.le_of_lt hkl) x ((W.gates k g hk).pins x hx)
  · rw [W.perm.length_eq]; omega
  · obtain ⟨k, hk, hkl⟩ := hmem g hg
    exact (W.gates k g hk).few
  · obtain ⟨k, hk, hkl⟩ := hmem g hg
    exact (W.gates k g hk).tab
  · rw [es, List.length_append, List.length_map, List.length_map, List.length_range, List.length_range]; omega
  · obtain ⟨k, hk, hkl⟩ := hmem g hg
    obtain ⟨j, hj, e⟩ := (mg x).mp hxg
    have hlt := hpin k g hk x hx j hj e
    have at_ : ∀ i, i < G.length → (G.map (·.name)).idxOf (nm "g" i) = i := fun i hi => by
      have e1 : (G.map (·.name))[i]'(by rw [List.length_map]; exact hi) = nm "g" i := by
        rw [List.getElem_map]; exact hname i _ (List.getElem?_eq_getElem hi)
      rw [← e1]
      exact ndG.idxOf_getElem i _
    show (G.map (·.name)).idxOf x < (G.map (·.name)).idxOf g.name
    rw [e, hname k g hk, at_ j hj, at_ k hkl]
    exact hlt
  · rcases List.mem_append.mp hx with z | z
    · rw [es] at z
      rcases List.mem_append.mp z with y | y
      · obtain ⟨j, hj, rfl⟩ := List.mem_map.mp y
        exact nm_ok16 "i" (by decide +kernel) j (by have := List.mem_range.mp hj; omega)
      · obtain ⟨j, hj, rfl⟩ := List.mem_map.mp y
        exact nm_ok16 "r" (by decide +kernel) j (by have := List.mem_range.mp hj; omega)
    · obtain ⟨k, hk, rfl⟩ := (mg x).mp z
      exact nm_ok16 "g" (by decide +kernel) k (by omega)
  · refine ⟨evG (fun x => vec.getD ((srcs d).idxOf x) false) G, fun i x hx => ?_, fun g hg => ?_⟩
    · have hil := (List.getElem?_eq_some_iff.mp hx).1
      rw [evG_out G _ x fun z => ?_]
      · have : (srcs d).idxOf x = i := by
          obtain ⟨h1, h2⟩ := List.getElem?_eq_some_iff.mp hx
          rw [← h2]; exact nds.idxOf_getElem i h1
        rw [this, List.getD_eq_getElem?_getD, List.getElem?_eq_getElem (by omega)]; rfl
      · rw [eG] at z
        obtain ⟨k, hk, e⟩ := List.mem_map.mp z
        exact nsg x (List.mem_of_getElem? hx) k (List.mem_range.mp hk) e.symm
    · refine evG_gate G _ ndG (fun k g1 hk x hx j g2 hj e => ?_) g (W.perm.mem_iff.mp hg)
      exact hpin k g1 hk x hx j (List.getElem?_eq_some_iff.mp hj).1 (e.trans (hname j g2 hj))
theorem need_rank {d : CircD} (h : Nets d) : ∃ rank : Nat → Nat, ∀ k o, k < (needN d).length → o ∈ (needN d).getD k [] → o < (needN d).length ∧ rank o < rank k := by
  obtain ⟨rank, hr⟩ := h.rank
  refine ⟨fun k => rank ((gnames d).getD k (nm "g" 0)), fun k o hk ho => ?_⟩
  unfold needN at *
  rw [List.length_map] at hk ⊢
  obtain ⟨g, hg⟩ : ∃ g, d.gates[k]? = some g := ⟨_, List.getElem?_eq_getElem hk⟩
  rw [List.getD_eq_getElem?_getD, List.getElem?_map, hg] at ho
  obtain ⟨x, hx, rfl⟩ := List.mem_map.mp ho
  obtain ⟨hx1, hx2⟩ := List.mem_filter.mp hx
  have hxg : x ∈ gnames d := of_decide_eq_true hx2
  have hol : (gnames d).idxOf x < (gnames d).length := List.idxOf_lt_length_iff.mpr hxg
  have hgl : (gnames d).length = d.gates.length := List.length_map _
  refine ⟨by rw [← hgl]; exact hol, ?_⟩
  have e1 : (gnames d).getD ((gnames d).idxOf x) (nm "g" 0) = x := by
    rw [List.getD_eq_getElem?_getD, List.getElem?_eq_getElem hol]; exact List.getElem_idxOf hol
  have e2 : (gnames d).getD k (nm "g" 0) = g.name := by
    unfold gnames
    rw [List.getD_eq_getElem?_getD, List.getElem?_map, hg]; rfl
  show rank ((gnames d).getD ((gnames d).idxOf x) (nm "g" 0)) < rank ((gnames d).getD k (nm "g" 0))
  rw [e1, e2]
  exact hr g (List.mem_of_getElem? hg) x hx1 hxg
end G
/-! zip of two rows, each a list or a tuple -/
namespace G
open PySem PySem.Spec PyProof.Rows L2 Evl
def SqB (t : Bool) (K : PySem.W.Frag) (H : Hp) (a : Addr) (xs : List V) : Prop := if t = true then SqT K H a xs else SqL K H a xs
def ItB (t : Bool) (h : Heap) (it l : Addr) (i : Nat) : Prop := if t = true then h.IsTupleIter it l i else h.IsListIter it l i
theorem ItB.obj {t : Bool} {h : Heap} {it l : Addr} {i : Nat} (x : ItB t h it l i) : ∃ o, h.get? it = some o ∧ ∃ q, o.data = .fields q := by
  unfold ItB at x
  split at x
  · obtain ⟨o, ho, _, hd⟩ := x; exact ⟨o, ho, _, hd⟩
  · obtain ⟨o, ho, _, hd⟩ := x; exact ⟨o, ho, _, hd⟩
theorem ItB.to {t : Bool} {h h' : Heap} {it l : Addr} {i : Nat} (x : ItB t h it l i) (k : ∀ o, h.get? it = some o → h'.get? it = some o) : ItB t h' it l i := by
  unfold ItB at x ⊢
  split
  · rw [if_pos (by assumption)] at x; exact x.at k
  · rw [if_neg (by assumption)] at x; exact x.at k
theorem SqB.one {X : Cx} {pins : List (Addr × Obj)} {σ : L2.St} {H : Hp} {s : Shared} (I : Inv X pins σ H s) {t : Bool} {a : Addr} {xs ys : List V} (h : SqB t X.K H a xs) (h' : SqB t X.K H a ys) : xs = ys := by
  unfold SqB at h h'
  cases t with
  | true => exact I.tuple_inj h h'
  | false => exact I.list_inj h h'
theorem drawsB {X : Cx} {pins : List (Addr × Obj)} {σ : L2.St} {H : Hp} {s : Shared} (I : Inv X pins σ H s) (hh : X.A.handled = none) {t : Bool} {a it : Addr} {xs : List V} {i : Nat} (hq : SqB t X.K H a xs) (st : ItB t s.heap it a i) (hne : a ≠ it) :
    ∃ (items : List Value) (St : Nat → Heap → Prop), Vals xs items ∧ Draws X.prog X.w X.A.in1 it [it, a] items.toArray.size (fun i v => items.toArray[i]? = some v) St ∧ St i s.heap ∧ ∀ h', St (i + 1) h' → ItB t h' it a (i + 1) := by
  unfold SqB at hq
  unfold ItB at st ⊢
  cases t with
  | true =>
    obtain ⟨items, rv, p, _⟩ := I.tuple hq
    exact ⟨items, _, rv, Draws.tuple (A := X.A.in1) hh it a hne items.toArray, ⟨st, p⟩, fun h' z => z.1⟩
  | false =>
    obtain ⟨items, rv, p, _⟩ := I.list hq
    exact ⟨items, _, rv, Draws.list (A := X.A.in1) hh it a hne items.toArray, ⟨st, p.isList⟩, fun h' z => z.1⟩
/-- both rows as they stand at each turn, a new pair each -/
def ItM (t1 t2 : Bool) (K : PySem.W.Frag) (a b : Addr) : It :=
  ⟨fun i H => ∃ (xs ys : List V), SqB t1 K H a xs ∧ SqB t2 K H b ys ∧ i < xs.length ∧ i < ys.length,
   fun i H v H' => ∃ T x y, v = .ref T ∧ H T = none ∧ H' = upd H T (.tup [x, y]) ∧ (∀ xs, SqB t1 K H a xs → xs[i]? = some x) ∧ ∀ ys, SqB t2 K H b ys → ys[i]? = some y,
   fun i H => ∃ xs ys : List V, SqB t1 K H a xs ∧ SqB t2 K H b ys ∧ i ≤ xs.length ∧ i ≤ ys.length ∧ (i = xs.length ∨ i = ys.length)⟩
theorem turn_zipM {P : Program} {w : World} {K : PySem.W.Frag} {elts : List Expr} {kk : Nat} {tpos : Pos} {t1 t2 : Bool} {a b z TI TO i1 i2 : Addr} (S : ZipSep2 z TI TO i1 i2 [i1, a] [i2, b]) (na : a ≠ i1) (nb : b ≠ i2) :
    Turn P w K (.Tuple elts kk tpos) (ItM t1 t2 K a b) [z, TI, TO, i1, i2] z (fun i h => IsZip h z TI TO .none ∧ IsTupOf2 h TI (.ref i1) (.ref i2) ∧ (∃ x y, IsTupOf2 h TO x y) ∧ ItB t1 h i1 a i ∧ ItB t2 h i2 b i) where
  mem := by simp
  obj := fun i h st c hc => by
    obtain ⟨hz, hTI, ⟨x, y, hTO⟩, h1, h2⟩ := st
    obtain ⟨o1, e1, q1, d1⟩ := h1.obj
    obtain ⟨o2, e2, q2, d2⟩ := h2.obj
    have e' : c = z ∨ c = TI ∨ c = TO ∨ c = i1 ∨ c = i2 := by simpa using hc
    rcases e' with q | q | q | q | q <;> subst q
    · exact ⟨_, hz, fun v q => nomatch q⟩
    · exact ⟨_, hTI, fun v q => nomatch q⟩
    · exact ⟨_, hTO, fun v q => nomatch q⟩
    · exact ⟨o1, e1, fun v q => by rw [d1] at q; cases q⟩
    · exact ⟨o2, e2, fun v q => by rw [d2] at q; cases q⟩
  keep := fun i h h' st k => by
    obtain ⟨hz, hTI, ⟨x, y, hTO⟩, h1, h2⟩ := st
    exact ⟨k _ (by simp) _ hz, k _ (by simp) _ hTI, ⟨x, y, k _ (by simp) _ hTO⟩, h1.to (k i1 (by simp)), h2.to (k i2 (by simp))⟩
  item := by
    intro X hP hw hK hc i pins s σ H E I hf st hg
    subst hP hw hK
    obtain ⟨hz, hTI, ⟨x0, y0, hTO⟩, h1, h2⟩ := st
    obtain ⟨xs, ys, hqx, hqy, hx, hy⟩ := hg
    have hh : X.A.handled = none := I.ok.hd hc
    obtain ⟨its, St1, rv, D1, s1, n1⟩ := drawsB I hh hqx h1 na
    obtain ⟨its2, St2, rv2, D2, s2, n2⟩ := drawsB I hh hqy h2 nb
    have hxe : xs[i]? = some xs[i] := List.getElem?_eq_getElem hx
    have hye : ys[i]? = some ys[i] := List.getElem?_eq_getElem hy
    obtain ⟨u, hu, ru⟩ := rv.get hxe
    obtain ⟨u2, hu2, ru2⟩ := rv2.get hye
    have hzl : z < s.heap.objs.size := Heap.lt_size hz
    refine wpAny_pyNext_zipD2_item S D1 D2 hz hTI hTO s1 s2 (by have := rv.length; simp; omega) (by have := rv2.length; simp; omega) fun v1 v2 h' tk e1 e2 z' TO' t1' t2' hT hsz hk => ?_
    have ev1 : v1 = u := Option.some.inj (e1.symm.trans (by simpa using hu))
    have ev2 : v2 = u2 := Option.some.inj (e2.symm.trans (by simpa using hu2))
    subst ev1 ev2
    refine ⟨_, rfl, wpAny_letOwnedTupleGo_zip (s := { s with heap := h', toks := tk }) z' fun h'' z'' sb => ?_⟩
    have hT2 : h''.get? s.heap.objs.size = some { cls := .type "tuple", data := .seq #[v1, v2] } := (sb.2 _ (Nat.ne_of_gt hzl)).trans hT
    have made : ObjOk X.prog X.w (upd H s.heap.objs.size (.tup [xs[i], ys[i]])) h'' s.heap.objs.size (.tup [xs[i], ys[i]]) := ⟨(by show 2 ≤ sizeLine; decide), [v1, v2], .cons ru (.cons ru2 .nil), _, hT2, rfl, _, rfl⟩
    have old : ∀ c, c ∈ [z, TI, TO, i1, i2] → c < s.heap.objs.size := fun c hcm => by
      have e' : c = z ∨ c = TI ∨ c = TO ∨ c = i1 ∨ c = i2 := by simpa using hcm
      rcases e' with q | q | q | q | q <;> rw [q]
      · exact hzl
      · exact Heap.lt_size hTI
      · exact Heap.lt_size hTO
      · obtain ⟨_, e, _⟩ := h1.obj; exact Heap.lt_size e
      · obtain ⟨_, e, _⟩ := h2.obj; exact Heap.lt_size e
    have I1 : Inv X pins σ (upd H s.heap.objs.size (.tup [xs[i], ys[i]])) { s with heap := h'', toks := tk } :=
      I.turnedNew (ch := [z, TI, TO, i1, i2]) (fun c o nb q => by
        have out : c ≠ z ∧ c ≠ TI ∧ c ≠ TO ∧ c ≠ i1 ∧ c ≠ i2 := by simpa using nb
        exact (sb.2 c out.1).trans (hk c o out.1 out.2.2.1 out.2.2.2.1 out.2.2.2.2 q)) hf (Nat.le_refl _) made
    refine ⟨.ref s.heap.objs.size, _, I1, rfl, ⟨_, xs[i], ys[i], rfl, I.hok.fresh (Nat.le_refl _), rfl, fun l hl => (congrArg (·[i]?) (hqx.one I hl)).symm.trans hxe, fun l hl => (congrArg (·[i]?) (hqy.one I hl)).symm.trans hye⟩,
      ⟨z'', (sb.2 _ S.TIz).trans (hk _ _ S.TIz S.TITO S.TIi1 S.TIi2 hTI), ⟨v1, v2, (sb.2 _ S.TOz).trans TO'⟩, (n1 _ t1').to fun o q => (sb.2 _ S.zi1.symm).trans q, (n2 _ t2').to fun o q => (sb.2 _ S.zi2.symm).trans q⟩, fun c hcm => ?_⟩
    rw [upd_ne (Nat.ne_of_lt (old c hcm))]
    exact (hf c hcm).1
  done := by
    intro X hP hw hK hc i pins s σ H E I hf st hg
    subst hP hw hK
    obtain ⟨hz, hTI, ⟨x0, y0, hTO⟩, h1, h2⟩ := st
    obtain ⟨xs, ys, hqx, hqy, hlx, hly, hend⟩ := hg
    have hh : X.A.handled = none := I.ok.hd hc
    obtain ⟨its, St1, rv, D1, s1, n1⟩ := drawsB I hh hqx h1 na
    obtain ⟨its2, St2, rv2, D2, s2, n2⟩ := drawsB I hh hqy h2 nb
    have l1 := rv.length
    have l2 := rv2.length
    refine wpAny_pyNext_zipD2_end S D1 D2 hz hTI hTO s1 s2 (by simp; omega) (by simp; omega) (by simp; omega) fun h' tk hk => ⟨rfl, I.turnedL (t' := tk) (ch := [z, TI, TO, i1, i2]) (fun c o nb q => ?_) hf⟩
    have out : c ≠ z ∧ c ≠ TI ∧ c ≠ TO ∧ c ≠ i1 ∧ c ≠ i2 := by simpa using nb
    exact hk c o out.1 out.2.2.1 out.2.2.2.1 out.2.2.2.2 q
  self := fun A i s Q E st h => wpAny_pyIter_zip st.1 h
def iZipM (K : PySem.W.Frag) (t1 t2 : Bool) (ta : TA) : TI := fun σ H R => ta σ H fun vs H1 => ∃ a b xs ys, vs = [.ref a, .ref b] ∧ SqB t1 K H1 a xs ∧ SqB t2 K H1 b ys ∧ R (ItM t1 t2 K a b) H1
theorem nin2 {x y z : Nat} (h1 : x ≠ y) (h2 : x ≠ z) : x ∉ [y, z] := by simp [h1, h2]
theorem nin2' {x y z : Nat} (h1 : x ≠ y) (h2 : x ≠ z) : ¬ (x : Addr) ∈ ([y, z] : List Addr) := nin2 h1 h2
theorem sepZ {n a b : Nat} (ha : a < n) (hb : b < n) : ZipSep2 (n + 4) (n + 2) (n + 3) n (n + 1) [n, a] [n + 1, b] :=
  have e1 : n + 2 ≠ n + 4 := by omega
  have e2 : n + 3 ≠ n + 4 := by omega
  have e3 : n + 2 ≠ n + 3 := by omega
  have e4 : n + 2 ≠ n := by omega
  have e5 : n + 2 ≠ n + 1 := by omega
  have f1 : n + 4 ≠ n := by omega
  have f2 : n + 4 ≠ a := by omega
  have f3 : n + 3 ≠ n := by omega
  have f4 : n + 3 ≠ a := by omega
  have f5 : n + 4 ≠ n + 1 := by omega
  have f6 : n + 4 ≠ b := by omega
  have f7 : n + 3 ≠ n + 1 := by omega
  have f8 : n + 3 ≠ b := by omega
  have f9 : n ≠ n + 1 := by omega
  have g1 : n ≠ b := by omega
  have g2 : n + 1 ≠ n := by omega
  have g3 : n + 1 ≠ a := by omega
  ⟨e1, e2, e3, e4, List.mem_cons_self .., nin2' f1 f2, nin2' f3 f4, e5, List.mem_cons_self .., nin2' f5 f6, nin2' f7 f8, nin2' f9 g1, nin2' g2 g3⟩
theorem pi_zipM {X : Cx} (t1 t2 : Bool) {e e2 : Expr} {ta : TA} {p pos tpos : Pos} {elts : List Expr} {kk : Nat} (hg : Gl X "zip") (hm : X.mg "zip" = none) (ha : PA X [e, e2] ta)
    (hs : starEach [e, e2] X.env = (false, eval e X.env) :: starEach [e2] X.env := by rfl) (hpl : (backTo pos (starEach [e2] X.env)).any (·.1) = false := by rfl) :
    PI X (.Tuple elts kk tpos) (.Call (.Name "zip" p) [e, e2] [] pos) (iZipM X.K t1 t2 ta) := by
  refine ⟨fun pins s σ H R I h => Call_ (ld_blt I hg hm PyProof.Rows.boot_zip (PyProof.Rows.callWith_type1 (thn (ha.run pos pins s σ H _ I h) fun us s1 ⟨vs, H1, I1, r1, q1⟩ => ?_) hs hpl))⟩
  obtain ⟨a, b, xs, ys, rfl, hqx, hqy, q⟩ := q1
  obtain _ | ⟨r, _ | ⟨r', _ | _⟩⟩ := r1
  cases r
  cases r'
  have beg : ∀ (t : Bool) (c : Addr) (zs : List V), SqB t X.K H1 c zs → ∃ (o : Obj) (Hh : Heap → Prop), Begins (.ref c) o Hh ∧ Hh s1.heap ∧ c < s1.heap.objs.size ∧ ∀ (h' : Heap) (it : Addr), h'.get? it = some o → ItB t h' it c 0 := fun t c zs hq => by
    unfold SqB at hq
    unfold ItB
    cases t with
    | true =>
      obtain ⟨items, _, p, _⟩ := I1.tuple hq
      obtain ⟨o, ho, _⟩ := id p
      exact ⟨_, _, begins_tuple c items.toArray, p, Heap.lt_size ho, fun h' it e => ⟨_, e, rfl, rfl⟩⟩
    | false =>
      obtain ⟨items, _, p, _⟩ := I1.list hq
      exact ⟨_, _, begins_list c items.toArray, p.isList, p.lt, fun h' it e => ⟨_, e, rfl, rfl⟩⟩
  obtain ⟨o1, P1, B1, p1, la, k1⟩ := beg t1 a xs hqx
  obtain ⟨o2, P2, B2, p2, lb, k2⟩ := beg t2 b ys hqy
  refine zip_begins2 B1 B2 p1 p2 fun h' hz hTI hTO g1 g2 hsz hk => wpAny_pyIter_zip hz ?_
  have I2 : Inv X pins σ H1 { s1 with heap := h' } := I1.kept (t' := s1.toks) hk
  refine ⟨s1.heap.objs.size + 4, [s1.heap.objs.size + 4, s1.heap.objs.size + 2, s1.heap.objs.size + 3, s1.heap.objs.size, s1.heap.objs.size + 1], _, _, H1, rfl, I2, turn_zipM (t1 := t1) (t2 := t2) (sepZ la lb) (Nat.ne_of_lt la) (Nat.ne_of_lt (Nat.lt_succ_of_lt lb)), ⟨hz, hTI, ⟨_, _, hTO⟩, k1 _ _ g1, k2 _ _ g2⟩, fun c hcm => ?_, q⟩
  have hle : s1.heap.objs.size ≤ c := by
    have e' : c = s1.heap.objs.size + 4 ∨ c = s1.heap.objs.size + 2 ∨ c = s1.heap.objs.size + 3 ∨ c = s1.heap.objs.size ∨ c = s1.heap.objs.size + 1 := by simpa using hcm
    rcases e' with z | z | z | z | z <;> rw [z]
    · exact Nat.le_add_right _ _
    · exact Nat.le_add_right _ _
    · exact Nat.le_add_right _ _
    · exact Nat.le_refl _
    · exact Nat.le_add_right _ _
  exact I1.fpOk hle (I1.hok.fresh hle)
theorem kPiZipM {X : Cx} {K : PySem.W.Frag} (t1 t2 : Bool) {e e2 : Expr} {ta : TA} {p pos tpos : Pos} {elts : List Expr} {kk : Nat} (h : X.K = K) (hg : Gl X "zip") (hm : X.mg "zip" = none) (ha : PA X [e, e2] ta)
    (hs : starEach [e, e2] X.env = (false, eval e X.env) :: starEach [e2] X.env := by rfl) (hpl : (backTo pos (starEach [e2] X.env)).any (·.1) = false := by rfl) :
    PI X (.Tuple elts kk tpos) (.Call (.Name "zip" p) [e, e2] [] pos) (iZipM K t1 t2 ta) := by subst h; exact pi_zipM t1 t2 hg hm ha hs hpl
theorem walk_zipM {t1 t2 : Bool} {K : PySem.W.Frag} {a b : Addr} {xs ys : List V} {n : Nat} (hx : xs.length = n) (hy : ys.length = n) : Walk (ItM t1 t2 K a b) n (fun H => SqB t1 K H a xs ∧ SqB t2 K H b ys) (YPair (fun i => xs[i]?) (fun i => ys[i]?)) := by
  refine ⟨fun i H hi q => ⟨xs, ys, q.1, q.2, by omega, by omega⟩, fun H q => ⟨xs, ys, q.1, q.2, by omega, by omega, .inl hx.symm⟩, fun i H v H' hi q y => ?_⟩
  obtain ⟨T, x, y, h1, h2, h3, h4, h5⟩ := y
  exact ⟨T, x, y, h1, h2, h3, h4 xs q.1, h5 ys q.2⟩
theorem wipe_in {σ : L2.St} {j : Nat} : ∀ {vs : List Nat}, j ∈ vs → j < σ.length → (wipe σ vs)[j]? = some none
  | v :: vs, h, hl => by
    show ((wipe σ vs).set v none)[j]? = some none
    by_cases e : v = j
    · subst e
      rw [List.getElem?_set_self (by rw [wipe_length]; exact hl)]
    · rw [List.getElem?_set_ne e]
      exact wipe_in ((List.mem_cons.mp h).resolve_left fun z => e z.symm) hl
/-- what stands in a slot that is wiped does not matter -/
theorem wipe_set {σ : L2.St} {i : Nat} {x : Option V} {vs : List Nat} (h : i ∈ vs) : wipe (σ.set i x) vs = wipe σ vs := by
  refine List.ext_getElem? fun j => ?_
  by_cases hl : j < σ.length
  · by_cases hj : j ∈ vs
    · rw [wipe_in hj (by rw [List.length_set]; exact hl), wipe_in hj hl]
    · rw [wipe_out hj, wipe_out hj, List.getElem?_set_ne (fun z => hj (by rw [← z]; exact h))]
  · rw [List.getElem?_eq_none (by rw [wipe_length, List.length_set]; omega), List.getElem?_eq_none (by rw [wipe_length]; omega)]
theorem wipe_wipe {σ : L2.St} {vs : List Nat} : wipe (wipe σ vs) vs = wipe σ vs := by
  refine List.ext_getElem? fun j => ?_
  by_cases hl : j < σ.length
  · by_cases hj : j ∈ vs
    · rw [wipe_in hj (by rw [wipe_length]; exact hl), wipe_in hj hl]
    · rw [wipe_out hj, wipe_out hj]
  · rw [List.getElem?_eq_none (by rw [wipe_length, wipe_length]; omega), List.getElem?_eq_none (by rw [wipe_length]; omega)]
end G
namespace G
open PySem PySem.Spec PyProof.Rows L2 Evl TL
structure TxtM (mg : Str → Option Value) : Prop where
  len : mg "len" = none
  list : mg "list" = none
  tuple : mg "tuple" = none
  enumerate : mg "enumerate" = none
  sum : mg "sum" = none
  zip : mg "zip" = none
section
variable {P : Program} {w : World} {K : PySem.W.Frag} {mg : Str → Option Value} {base : Heap}
def spLook : Sp := fun vs H Q _ => ∃ (t b : Addr) (tab bs : List Bool), vs = [.ref t, .ref b] ∧ H t = some (.tup (tab.map V.bl)) ∧ H b = some (.lst (bs.map V.bl)) ∧ bs.length ≤ 10 ∧ tab.length = 2 ^ bs.length ∧ ∀ H', Ex H H' → Q (.bl (lookB tab bs)) H'
theorem sc_look_up : FnScope ["table", "bits", "k", "bit"] ["table", "bits"] (defScope s_look_up) := ⟨rfl, rfl, rfl, by decide +kernel, rfl, by decide +kernel, by decide +kernel⟩
theorem ok_look_up (D : Dfd K mg "look_up" s_look_up ["table", "bits"]) (T : TxtM mg) : Has P w K mg base 1 "look_up" ["table", "bits"] spLook := by
  refine D.has fun f fd F => F.ok sc_look_up (fun vs H Q E h => ?_) (fun cdv A outer s H vs Q E hr h => ?_)
  · obtain ⟨t, b, tab, bs, rfl, _⟩ := h
    rfl
  · obtain ⟨t, b, tab, bs, rfl, ht, hb, hl, htl, q⟩ := h
    refine ⟨_, (pss_one (ps_ret (pe_ix ix_tup (pv 0) (pe_callB (cr_sum rfl) (by rfl) T.sum (by decide +kernel) (pa_cons (pe_lc (own := [("k", 2), ("bit", 3)]) (g := gTup K 2 (gCons (gName 2) (gCons (gName 3) gNil))) (tt := _) rfl sc_look_up.nd (pi_enum (by rfl) T.enumerate (pa_cons (pv 1) pa_nil)) (blkOk_by (N := ["table", "bits", "k", "bit"]) (sc := defScope s_look_up) (own := [("k", 2), ("bit", 3)]) (by decide +kernel)) (fun _ _ _ _ _ => (pg_tup rfl (pgs_cons (pg_name (i := 2) sc_look_up.nd rfl (.inl rfl)) (pgs_cons (pg_name (i := 3) sc_look_up.nd rfl (.inl rfl)) pgs_nil)))) (fun _ _ _ _ _ => pts_one (pt_val (pv 3))) (fun _ _ _ _ _ => (pe_op op_shl pe_int (pv 2)))) pa_nil)) (fun _ _ => rfl)))), ?_⟩
    have hbl : (bs.map V.bl).length = bs.length := List.length_map _
    refine ⟨_, rfl, _, rfl, b, _, rfl, SqL.of hb, fun L nL => wk_it walk_enum (fun j H' => Ex H H' ∧ ∃ ns : List Int, H' L = some (.lst (ns.map V.int)) ∧ ns.length ≤ j ∧ ns.sum = ((sumB bs j : Nat) : Int)) ⟨Ex.new nL, [], upd_same, Nat.le_refl _, rfl⟩ (fun j H' _ g => SqL.of (g.1 _ _ hb)) ?_ ?_⟩
    · rintro j x H1 H2 hj ⟨E1, ns, hL, hnl, hs⟩ ⟨T1, x0, y0, rfl, nT, rfl, hx0, hy0⟩
      rw [hbl] at hj
      cases hx0
      obtain ⟨c, hc, rfl⟩ : ∃ c, bs[j]? = some c ∧ y0 = .bl c := by
        have hy1 : (bs.map V.bl)[j]? = some y0 := hy0
        rw [List.getElem?_map, List.getElem?_eq_getElem hj] at hy1
        exact ⟨_, List.getElem?_eq_getElem hj, (Option.some.inj hy1).symm⟩
      have E2 : Ex H1 (upd H1 T1 (.tup [.int (j : Nat), .bl c])) := Ex.new nT
      refine ⟨T1, _, rfl, SqT.of upd_same, rfl, _, _, rfl, _, _, rfl, rfl, rfl, ?_⟩
      simp only [wipe, _root_.L2.start, List.map_cons, List.map_nil, List.length_cons, List.length_nil, Nat.reduceAdd, Nat.reduceSub, List.replicate_succ, List.replicate_zero, List.cons_append, List.nil_append, List.set_cons_zero, List.set_cons_succ]
      have hL2 := E2 _ _ hL
      generalize upd H1 T1 (.tup [.int (j : Nat), .bl c]) = H2 at *
      have hgc : bs.getD j false = c := by rw [List.getD_eq_getElem?_getD, hc]; rfl
      have eS : sumB bs (j + 1) = sumB bs j + if bs.getD j false then 2 ^ j else 0 := rfl
      refine ⟨_, rfl, _, rfl, ite2 (fun c1 => ?_) (fun c1 => ?_)⟩
      · refine ⟨_, rfl, _, _, rfl, rfl, ⟨by omega, by omega, by decide⟩, _, hL2, sz_lt (by rw [List.length_map]; omega), (E1.trans E2).mut nL, ns ++ [((2 ^ j : Nat) : Int)], ?_, by rw [List.length_append]; show _ + 1 ≤ _; omega, ?_⟩
        · rw [upd_same, List.map_append]
          have : (1 : Int) * 2 ^ ((j : Nat) : Int).toNat = ((2 ^ j : Nat) : Int) := by
            rw [Int.toNat_natCast, Int.one_mul]
            exact (Int.natCast_pow 2 j).symm
          show some (HO.lst (ns.map V.int ++ [V.int ((1 : Int) * 2 ^ ((j : Nat) : Int).toNat)])) = _
          rw [this]; rfl
        · rw [List.sum_append, hs, eS, hgc, c1, List.sum_singleton]
          show ((sumB bs j : Nat) : Int) + _ = ((sumB bs j + 2 ^ j : Nat) : Int)
          rw [Int.natCast_add]
      · refine ⟨E1.trans E2, ns, hL2, by omega, ?_⟩
        rw [hs, eS, hgc, if_neg c1]; rfl
    rintro H1 ⟨E1, ns, hL, hnl, hs⟩
    rw [hbl] at hs
    have hlt := sumB_lt bs bs.length
    refine ⟨L, ns, rfl, SqL.of hL, _, _, _, _, rfl, rfl, SqT.of (E1 _ _ ht), at_of (j := sumB bs bs.length) hs (by rw [List.getElem?_map, List.getElem?_eq_getElem (by omega)]; rfl), ?_⟩
    have : tab[sumB bs bs.length]'(by omega) = lookB tab bs := by
      unfold lookB
      rw [List.getD_eq_getElem?_getD, List.getElem?_eq_getElem (by omega)]; rfl
    rw [this]
    exact q H1 E1
def spSources : Sp := fun vs H Q _ => ∃ (c : Addr) (d : CircD) (it gt rt ot : Addr) (ga ra oa : List Addr), vs = [.ref c] ∧ CircAt H c d it gt rt ot ga ra oa ∧ (srcs d).length ≤ 100 ∧ ∀ (l : Addr) (H' : Hp), H l = none → Ex H H' → H' l = some (.lst ((srcs d).map V.str)) → Q (.ref l) H'
theorem sc_sources : FnScope ["circuit", "reg"] ["circuit"] (defScope s_sources) := ⟨rfl, rfl, rfl, by decide +kernel, rfl, by decide +kernel, by decide +kernel⟩
theorem ok_sources (D : Dfd K mg "sources" s_sources ["circuit"]) (T : TxtM mg) : Has P w K mg base 1 "sources" ["circuit"] spSources := by
  refine D.has fun f fd F => F.ok sc_sources (fun vs H Q E h => ?_) (fun cdv A outer s H vs Q E hr h => ?_)
  · obtain ⟨c, d, it, gt, rt, ot, ga, ra, oa, rfl, _⟩ := h
    rfl
  · obtain ⟨c, d, it, gt, rt, ot, ga, ra, oa, rfl, hc, hn, q⟩ := h
    have hlen : d.ins.length + d.regs.length ≤ 100 := by
      unfold srcs at hn
      rw [List.length_append, List.length_map] at hn
      exact hn
    refine ⟨_, (pss_one (ps_ret (pe_op op_cat (pe_callTy call_list_of (by rfl) T.list (by decide +kernel) (pa_cons (pe_ix ix_tup (pv 0) pe_int (fun _ _ => rfl)) pa_nil)) (pe_lc (own := [("reg", 1)]) (g := gName 1) (tt := tYes) rfl sc_sources.nd (pi_tup (pe_ix ix_tup (pv 0) pe_int (fun _ _ => rfl))) (blkOk_by (N := ["circuit", "reg"]) (sc := defScope s_sources) (own := [("reg", 1)]) (by decide +kernel)) (fun _ _ _ _ _ => (pg_name (i := 1) sc_sources.nd rfl (.inl rfl))) (fun _ _ _ _ _ => pts_nil) (fun _ _ _ _ _ => (pe_ix (kIxT (K := K) rfl) (pv 1) pe_int (fun _ _ => rfl))))))), ?_⟩
    refine ⟨_, rfl, _, _, _, _, rfl, rfl, SqT.of hc.top, atI_nat (j := 0) rfl, _, _, rfl, .inr (SqT.of hc.ins), fun l1 n1 => ?_⟩
    have E1 : Ex H (upd H l1 (.lst (d.ins.map V.str))) := Ex.new n1
    have h1 : upd H l1 (.lst (d.ins.map V.str)) l1 = some (.lst (d.ins.map V.str)) := upd_same
    generalize upd H l1 (.lst (d.ins.map V.str)) = H1 at *
    have hc1 := hc.te (.of E1)
    refine ⟨_, rfl, _, _, _, _, rfl, rfl, SqT.of hc1.top, atI_nat (j := 2) rfl, rt, rfl, ⟨_, SqT.of hc1.rgs⟩, fun L2 nL2 => wk_tup (K := K) (a := rt) (xs := ra.map V.ref) (fun j H' => Ex H1 H' ∧ H' L2 = some (.lst (((d.regs.map (·.name)).take j).map V.str))) ⟨Ex.new nL2, by rw [upd_same]; rfl⟩ (fun j H' _ g => SqT.of (g.1 _ _ hc1.rgs)) ?_ ?_⟩
    · rintro j x H2 hx ⟨E2, hL⟩
      obtain ⟨b, hb, rfl⟩ := refs_get hx
      obtain ⟨g, hg, ea, oa', hgt, _⟩ := hc1.regs.at_ hb
      have hj : j < d.regs.length := (List.getElem?_eq_some_iff.mp hg).1
      refine ⟨rfl, tYes_in ⟨_, rfl, _, _, _, _, rfl, rfl, SqT.of (E2 _ _ hgt), atI_nat (j := 0) rfl, _, hL, sz_lt (by rw [List.length_map, List.length_take]; omega), E2.mut nL2, ?_⟩⟩
      rw [upd_same, List.take_add_one, List.getElem?_map, hg, List.map_append]; rfl
    rintro H2 ⟨E2, hL⟩
    rw [List.length_map, hc1.regs.1, ← List.length_map (f := fun g : RegD => g.name), List.take_length] at hL
    refine ⟨l1, L2, _, _, rfl, rfl, E2 _ _ h1, hL, sz_of (by rw [List.length_map, List.length_map, List.length_map]; omega), fun l3 n3 => ?_⟩
    rw [← List.map_append]
    exact q l3 _ (fresh_back (E1.trans E2) n3) ((E1.trans E2).trans (Ex.new n3)) upd_same
theorem place_step {ns : List Str} {j : Nat} {n : Str} (nd : ns.Nodup) (hn : ns[j]? = some n) (x : Str) (f : Option V) (hf : f = if x ∈ ns.take j then some (.int (((ns.take j).idxOf x : Nat) : Int)) else none) :
    (if (Sum.inr x : Key) = Sum.inr n then some (V.int (j : Nat)) else f) = if x ∈ ns.take (j + 1) then some (.int (((ns.take (j + 1)).idxOf x : Nat) : Int)) else none := by
  have hj := (List.getElem?_eq_some_iff.mp hn).1
  have hno : n ∉ ns.take j := fun z => by
    obtain ⟨i, hi, e⟩ := List.getElem_of_mem z
    rw [List.length_take] at hi
    rw [List.getElem_take] at e
    obtain ⟨h1, h2⟩ := List.getElem?_eq_some_iff.mp hn
    have := (List.getElem_inj nd).mp (e.trans h2.symm)
    omega
  rw [take_snoc1 hn, List.idxOf_append]
  by_cases e : x = n
  · subst e
    rw [if_pos rfl, if_pos (List.mem_append_right _ (List.mem_singleton.mpr rfl)), if_neg hno, List.length_take, Nat.min_eq_left (Nat.le_of_lt hj)]
    have : [x].idxOf x = 0 := by simp
    rw [this, Nat.zero_add]
  · rw [if_neg fun z => e (Sum.inr.inj z), hf]
    by_cases h : x ∈ ns.take j
    · rw [if_pos h, if_pos (List.mem_append_left _ h), if_pos h]
    · rw [if_neg h, if_neg fun z => (List.mem_append.mp z).elim h fun y => e (List.mem_singleton.mp y)]
def spGates : Sp := fun vs H Q _ => ∃ (gt : Addr) (d : CircD) (ga : List Addr), vs = [.ref gt] ∧ H gt = some (.tup (ga.map V.ref)) ∧ All2 (GateAt H) ga d.gates ∧ Nets d ∧ ∀ (q : Addr) (na : List Addr) (H' : Hp), Ex H H' → H' q = some (.lst (na.map V.ref)) → All2 (fun b l => H' b = some (.lst (natsV l))) na (needN d) → Q (.ref q) H'
theorem sc_gates_read : FnScope ["gates", "places", "g", "gate", "net"] ["gates"] (defScope s_gates_read) := ⟨rfl, rfl, rfl, by decide +kernel, rfl, by decide +kernel, by decide +kernel⟩
theorem ok_gates_read (D : Dfd K mg "_gates_read" s_gates_read ["gates"]) (T : TxtM mg) : Has P w K mg base 1 "_gates_read" ["gates"] spGates := by
  refine D.has fun f fd F => F.ok sc_gates_read (fun vs H Q E h => ?_) (fun cdv A outer s H vs Q E hr h => ?_)
  · obtain ⟨gt, d, ga, rfl, _⟩ := h
    rfl
  · obtain ⟨gt, d, ga, rfl, hg, hA, hN, q⟩ := h
    refine ⟨_, (pss_cons (ps_set (i := 1) sc_gates_read.nd rfl (.inr rfl) (pe_dc (own := [("g", 2), ("gate", 3)]) (g := gTup K 2 (gCons (gName 2) (gCons (gName 3) gNil))) (tt := tYes) rfl sc_gates_read.nd (pi_enumT (by rfl) T.enumerate (pa_cons (pv 0) pa_nil)) (blkOk_by (N := ["gates", "places", "g", "gate", "net"]) (sc := defScope s_gates_read) (own := [("g", 2), ("gate", 3)]) (by decide +kernel)) (fun _ _ _ _ _ => (pg_tup rfl (pgs_cons (pg_name (i := 2) sc_gates_read.nd rfl (.inl rfl)) (pgs_cons (pg_name (i := 3) sc_gates_read.nd rfl (.inl rfl)) pgs_nil)))) (fun _ _ _ _ _ => pts_nil) (fun _ _ _ _ _ => (pe_ix (kIxT (K := K) rfl) (pv 3) pe_int (fun _ _ => rfl))) (fun _ _ _ _ _ => (pv 2))))
    (pss_one (ps_ret (pe_lc (own := [("gate", 3)]) (g := gName 3) (tt := tYes) rfl sc_gates_read.nd (pi_tup (pv 0)) (blkOk_by (N := ["gates", "places", "g", "gate", "net"]) (sc := defScope s_gates_read) (own := [("gate", 3)]) (by decide +kernel)) (fun _ _ _ _ _ => (pg_name (i := 3) sc_gates_read.nd rfl (.inl rfl))) (fun _ _ _ _ _ => pts_nil) (fun _ _ _ _ _ => (pe_lc (own := [("net", 4)]) (g := gName 4) (tt := _) rfl sc_gates_read.nd (kPiT (K := K) rfl (pe_ix (kIxT (K := K) rfl) (pv 3) pe_int (fun _ _ => rfl))) (blkOk_by (own := [("net", 4)]) (by kernel_rfl)) (fun _ _ _ _ _ => (pg_name (i := 4) sc_gates_read.nd rfl (.inl rfl))) (fun _ _ _ _ _ => pts_one (pt_cmp (pc_din (hu_of hr) (pv 4) (pv 1)))) (fun _ _ _ _ _ => (pe_dget (hu_of hr) (pv 1) (pv 4) (fun _ _ => rfl))))))))), ?_⟩
    have hgl : (ga.map V.ref).length = d.gates.length := by rw [List.length_map, hA.1]
    have hnl : (gnames d).length = d.gates.length := List.length_map _
    have hfew := hN.few
    have ndg : (gnames d).Nodup := (List.nodup_append.mp hN.nd).2.1
    have hname : ∀ (k : Nat) (g : GateD), d.gates[k]? = some g → (gnames d)[k]? = some g.name := fun k g hk => by unfold gnames; rw [List.getElem?_map, hk]; rfl
    -- where each stands
    refine ⟨_, rfl, gt, _, rfl, SqT.of hg, fun Dc nDc => wk_it walk_enumT (fun j H' => Ex H H' ∧ ∃ es : List (Key × V), H' Dc = some (.dK es) ∧ es.length ≤ j ∧ ∀ x : Str, valV es (.inr x) = if x ∈ (gnames d).take j then some (.int ((((gnames d).take j).idxOf x : Nat) : Int)) else none)
      ⟨Ex.new nDc, [], upd_same, Nat.le_refl _, fun x => by rw [List.take_zero]; rfl⟩ (fun j H' _ g => SqT.of (g.1 _ _ hg)) ?_ ?_⟩
    · rintro j x H1 H2 hj ⟨E1, es, hD, hel, hk⟩ ⟨T1, x0, y0, rfl, nT, rfl, hx0, hy0⟩
      rw [hgl] at hj
      cases hx0
      obtain ⟨b, hb, rfl⟩ := refs_get hy0
      obtain ⟨g, hgg, t, pt, rt, rla, hgt, _⟩ := hA.at_ hb
      have E2 : Ex H1 (upd H1 T1 (.tup [.int (j : Nat), .ref b])) := Ex.new nT
      refine ⟨T1, _, rfl, SqT.of upd_same, rfl, _, _, rfl, _, _, rfl, rfl, rfl, tYes_in ?_⟩
      simp only [wipe, _root_.L2.start, List.map_cons, List.map_nil, List.length_cons, List.length_nil, Nat.reduceAdd, Nat.reduceSub, List.replicate_succ, List.replicate_zero, List.cons_append, List.nil_append, List.set_cons_zero, List.set_cons_succ]
      have hD2 := E2 _ _ hD
      generalize upd H1 T1 (.tup [.int (j : Nat), .ref b]) = H2 at *
      refine ⟨_, rfl, _, _, _, _, rfl, rfl, SqT.of ((E1.trans E2) _ _ hgt), atI_nat (j := 0) rfl, _, rfl, es, .inr g.name, rfl, hD2, sz_lt (by omega), (E1.trans E2).mut nDc, _, upd_same, Nat.le_trans (length_putK _ _ _) (Nat.succ_le_succ hel), fun x => ?_⟩
      rw [valV_put]
      exact place_step ndg (hname j g hgg) x _ (hk x)
    rintro H1 ⟨E1, es, hD, hel, hk⟩
    rw [hgl, ← hnl, List.take_length] at hk
    have hneed : ∀ (k : Nat) (g : GateD), d.gates[k]? = some g → (needN d)[k]? = some ((g.pins.filter fun x => decide (x ∈ gnames d)).map fun x => (gnames d).idxOf x) := fun k g hk => by unfold needN; rw [List.getElem?_map, hk]; rfl
    have hg1 := E1 _ _ hg
    refine ⟨_, rfl, gt, rfl, ⟨_, SqT.of hg1⟩, fun L nL => wk_tup (K := K) (a := gt) (xs := ga.map V.ref) (fun j H' => Ex H1 H' ∧ ∃ na : List Addr, H' L = some (.lst (na.map V.ref)) ∧ All2 (fun b l => hid L H' b = some (.lst (natsV l))) na ((needN d).take j)) ⟨Ex.new nL, [], upd_same, .nil⟩ (fun j H' _ z => SqT.of (z.1 _ _ hg1)) ?_ ?_⟩
    · rintro j y H2 hy ⟨E2, na, hL, hna⟩
      obtain ⟨b, hb, rfl⟩ := refs_get hy
      obtain ⟨g, hgg, t, pt, rt, rla, hgt, _, hgp, _⟩ := hA.at_ hb
      have hj : j < d.gates.length := (List.getElem?_eq_some_iff.mp hgg).1
      have hp3 := hN.fewp g (List.mem_of_getElem? hgg)
      have E02 := E1.trans E2
      refine ⟨rfl, tYes_in ?_⟩
      simp only [wipe, _root_.L2.start, List.map_cons, List.map_nil, List.length_cons, List.length_nil, Nat.reduceAdd, Nat.reduceSub, List.replicate_succ, List.replicate_zero, List.cons_append, List.nil_append, List.set_cons_zero, List.set_cons_succ]
      refine ⟨_, rfl, _, _, _, _, rfl, rfl, SqT.of (E02 _ _ hgt), atI_nat (j := 2) rfl, pt, rfl, ⟨_, SqT.of (E02 _ _ hgp)⟩, fun L2 nL2 => wk_tup (K := K) (a := pt) (xs := g.pins.map V.str) (fun i H' => Ex H2 H' ∧ H' L2 = some (.lst (natsV (((g.pins.take i).filter fun x => decide (x ∈ gnames d)).map fun x => (gnames d).idxOf x)))) ⟨Ex.new nL2, upd_same⟩ (fun i H' _ z => SqT.of ((E02.trans z.1) _ _ hgp)) ?_ ?_⟩
      · rintro i y H3 hy ⟨E3, hL2⟩
        obtain ⟨p, hp, rfl⟩ : ∃ p, g.pins[i]? = some p ∧ y = .str p := by
          rw [List.getElem?_map] at hy
          cases e : g.pins[i]? with
          | none => rw [e] at hy; cases hy
          | some p => rw [e] at hy; cases hy; exact ⟨p, rfl, rfl⟩
        have hD3 := (E2.trans E3) _ _ hD
        have hfl : (((g.pins.take i).filter fun x => decide (x ∈ gnames d)).map fun x => (gnames d).idxOf x).length ≤ 3 := by
          rw [List.length_map]
          have h1 := List.length_filter_le (fun x => decide (x ∈ gnames d)) (g.pins.take i)
          rw [List.length_take] at h1
          omega
        refine ⟨rfl, ?_⟩
        simp only [wipe, _root_.L2.start, List.map_cons, List.map_nil, List.length_cons, List.length_nil, Nat.reduceAdd, Nat.reduceSub, List.replicate_succ, List.replicate_zero, List.cons_append, List.nil_append, List.set_cons_zero, List.set_cons_succ]
        refine ⟨_, rfl, _, rfl, Dc, _, rfl, DGet.k (k := Sum.inr p) hD3, _, rfl, ?_⟩
        rw [hk]
        by_cases hin : p ∈ gnames d
        · rw [if_pos hin]
          have hg2 : DGet H3 Dc (kV (Sum.inr p)) (some (.int (((gnames d).idxOf p : Nat) : Int))) := by
            have := DGet.k (k := Sum.inr p) hD3
            rw [hk, if_pos hin] at this
            exact this
          refine iteT ⟨_, rfl, _, rfl, Dc, _, rfl, hg2, _, hL2, sz_lt (by rw [nats_len]; omega), E3.mut nL2, ?_⟩
          rw [upd_same, take_snoc1 hp, List.filter_append, List.map_append, ← nats_snoc]
          rw [List.filter_cons, decide_eq_true hin, if_pos rfl]; rfl
        · rw [if_neg hin]
          refine iteF ⟨E3, ?_⟩
          rw [hL2, take_snoc1 hp, List.filter_append, List.map_append, List.filter_cons, decide_eq_false hin, if_neg Bool.false_ne_true, List.filter_nil, List.map_nil, List.append_nil]
      rintro H3 ⟨E3, hL2⟩
      rw [List.length_map, List.take_length] at hL2
      have hL3 := E3 _ _ hL
      have n2L : L2 ≠ L := (ne_of_none hL nL2).symm
      refine ⟨_, hL3, sz_lt (by rw [List.length_map, hna.1, List.length_take]; unfold needN; rw [List.length_map]; omega), (E2.trans E3).mut nL, na ++ [L2], by rw [upd_same, List.map_append]; rfl, ?_⟩
      rw [hid_upd, take_snoc1 (hneed j g hgg)]
      exact (hna.imp fun _ _ z => by rw [hid_ne (hid_neq z)]; exact E3 _ _ (hid_get z)).snoc (by rw [hid_ne n2L]; exact hL2)
    rintro H2 ⟨E2, na, hL, hna⟩
    have hnd : (needN d).length = d.gates.length := by unfold needN; rw [List.length_map]
    rw [hgl, ← hnd, List.take_length] at hna
    exact q L na H2 (E1.trans E2) hL (hna.imp fun _ _ z => hid_get z)
def spOrder : Sp := fun vs H Q _ => ∃ (c : Addr) (d : CircD) (it gt rt ot : Addr) (ga ra oa : List Addr), vs = [.ref c] ∧ CircAt H c d it gt rt ot ga ra oa ∧ Nets d ∧ ∀ (q : Addr) (H' : Hp) (ord : List Nat), Ex H H' → H q = none → H' q = some (.lst (natsV ord)) → Topo (needN d) ord → Q (.ref q) H'
theorem sc_gate_order : FnScope ["circuit"] ["circuit"] (defScope s_gate_order) := ⟨rfl, rfl, rfl, by decide +kernel, rfl, by decide +kernel, by decide +kernel⟩
theorem ok_gate_order (D : Dfd K mg "gate_order" s_gate_order ["circuit"]) (C1 : Has P w K mg base 1 "least_order" ["needed"] spLeast) (C2 : Has P w K mg base 1 "_gates_read" ["gates"] spGates) : Has P w K mg base 2 "gate_order" ["circuit"] spOrder := by
  obtain ⟨f_least_order, d_least_order, G_least_order, g_least_order, k_least_order, b_least_order⟩ := C1
  obtain ⟨f_gates_read, d_gates_read, G_gates_read, g_gates_read, k_gates_read, b_gates_read⟩ := C2
  refine D.has fun f fd F => F.ok sc_gate_order (fun vs H Q E h => ?_) (fun cdv A outer s H vs Q E hr h => ?_)
  · obtain ⟨c, d, it, gt, rt, ot, ga, ra, oa, rfl, _⟩ := h
    rfl
  · obtain ⟨c, d, it, gt, rt, ot, ga, ra, oa, rfl, hc, hN, q⟩ := h
    refine ⟨_, (pss_one (ps_ret (pe_call G_least_order (hr.mono (by omega)) (by rfl) g_least_order k_least_order b_least_order .nil pass0 (pa_cons (pe_call G_gates_read (hr.mono (by omega)) (by rfl) g_gates_read k_gates_read b_gates_read .nil pass0 (pa_cons (pe_ix ix_tup (pv 0) pe_int (fun _ _ => rfl)) pa_nil)) pa_nil)))), ?_⟩
    obtain ⟨rank, hrk⟩ := need_rank hN
    have hfew := hN.few
    refine ⟨_, rfl, _, _, _, _, rfl, rfl, SqT.of hc.top, atI_nat (j := 1) rfl, gt, d, ga, rfl, hc.gts, hc.gates, hN, fun q1 na H1 E1 hq1 hna => ?_⟩
    refine ⟨q1, na, needN d, rank, rfl, hq1, hna, by unfold needN; rw [List.length_map]; omega, fun k => ?_, hrk, fun q2 H2 ord E2 nq hq2 ht => q q2 H2 ord (E1.trans E2) ?_ hq2 ht⟩
    · unfold needN
      rw [List.getD_eq_getElem?_getD, List.getElem?_map]
      cases e : d.gates[k]? with
      | none => exact Nat.zero_le _
      | some g =>
        show ((g.pins.filter _).map _).length ≤ 100
        rw [List.length_map]
        have h1 := List.length_filter_le (fun x => decide (x ∈ gnames d)) g.pins
        have h2 := hN.fewp g (List.mem_of_getElem? e)
        omega
    · exact fresh_back E1 nq
/-- what a dict of texts says of the nets -/
structure HoldsV (es : List (Key × V)) (ns : List Str) (v : Str → V) : Prop where
  val : ∀ x : Str, valV es (.inr x) = if x ∈ ns then some (v x) else none
  keys : ∃ ks : List Str, es.map (·.1) = ks.map Sum.inr ∧ ks.Nodup ∧ ∀ x, x ∈ ks ↔ x ∈ ns
theorem HoldsV.nil {v : Str → V} : HoldsV [] [] v := ⟨fun _ => rfl, [], rfl, List.nodup_nil, fun _ => Iff.rfl⟩
theorem HoldsV.congr {es : List (Key × V)} {ns ns' : List Str} {v : Str → V} (h : HoldsV es ns v) (e : ∀ x, x ∈ ns ↔ x ∈ ns') : HoldsV es ns' v := by
  obtain ⟨ks, k1, k2, k3⟩ := h.keys
  refine ⟨fun x => ?_, ks, k1, k2, fun x => (k3 x).trans (e x)⟩
  rw [h.val x]
  by_cases h1 : x ∈ ns
  · rw [if_pos h1, if_pos ((e x).mp h1)]
  · rw [if_neg h1, if_neg fun z => h1 ((e x).mpr z)]
theorem HoldsV.put {es : List (Key × V)} {ns : List Str} {v : Str → V} (h : HoldsV es ns v) (n : Str) (y : V) : HoldsV (putK es (.inr n) y) (ns ++ [n]) (fun x => if x = n then y else v x) := by
  refine ⟨fun x => ?_, ?_⟩
  · rw [valV_put]
    by_cases e : x = n
    · subst e
      rw [if_pos rfl, if_pos (List.mem_append_right _ (List.mem_singleton.mpr rfl)), if_pos rfl]
    · rw [if_neg fun z => e (Sum.inr.inj z), h.val x, if_neg e]
      by_cases h1 : x ∈ ns
      · rw [if_pos h1, if_pos (List.mem_append_left _ h1)]
      · rw [if_neg h1, if_neg fun z => (List.mem_append.mp z).elim h1 fun y => e (List.mem_singleton.mp y)]
  · obtain ⟨ks, k1, k2, k3⟩ := h.keys
    by_cases hn : n ∈ ns
    · refine ⟨ks, ?_, k2, fun x => (k3 x).trans ?_⟩
      · rw [← k1]
        unfold putK
        have ha : (es.any fun kv => decide (kv.1 = .inr n)) = true := by
          have : (Sum.inr n : Key) ∈ es.map (·.1) := by rw [k1]; exact List.mem_map.mpr ⟨n, (k3 n).mpr hn, rfl⟩
          obtain ⟨kv, hkv, e⟩ := List.mem_map.mp this
          exact List.any_eq_true.mpr ⟨kv, hkv, decide_eq_true e⟩
        rw [if_pos ha, List.map_map]
        refine List.map_congr_left fun kv _ => ?_
        show (if kv.1 = .inr n then (kv.1, y) else kv).1 = kv.1
        by_cases z : kv.1 = .inr n
        · rw [if_pos z]
        · rw [if_neg z]
      · rw [List.mem_append]
        exact ⟨.inl, fun z => z.elim id fun w => by rw [List.mem_singleton.mp w]; exact hn⟩
    · have hv : valV es (.inr n) = none := by rw [h.val n, if_neg hn]
      refine ⟨ks ++ [n], ?_, ?_, fun x => ?_⟩
      · rw [putK_new _ hv, List.map_append, List.map_append, k1]; rfl
      · exact List.nodup_append.mpr ⟨k2, by simp, fun a ha b hb => fun z => hn ((k3 n).mp (by rw [← List.mem_singleton.mp hb, ← z]; exact ha))⟩
      · rw [List.mem_append, List.mem_append, k3 x]
abbrev Holds (es : List (Key × V)) (ns : List Str) (val : Str → Bool) : Prop := HoldsV es ns fun x => .bl (val x)
theorem Holds.put {es : List (Key × V)} {ns : List Str} {val : Str → Bool} (h : Holds es ns val) (n : Str) : Holds (putK es (.inr n) (.bl (val n))) (ns ++ [n]) val := by
  have := HoldsV.put h n (.bl (val n))
  have e : (fun x => if x = n then V.bl (val n) else .bl (val x)) = fun x => .bl (val x) := by
    funext x
    by_cases z : x = n
    · rw [if_pos z, z]
    · rw [if_neg z]
  rw [e] at this
  exact this
theorem HoldsV.at_ {es : List (Key × V)} {ns : List Str} {v : Str → V} {H : Hp} {Dc : Addr} (h : HoldsV es ns v) (hD : H Dc = some (.dK es)) {x : Str} (hx : x ∈ ns) : DGet H Dc (kV (Sum.inr x)) (some (v x)) := by
  have := DGet.k (k := Sum.inr x) hD
  rw [h.val x, if_pos hx] at this
  exact this
def doneN (d : CircD) (ord : List Nat) : List Str := ord.map fun k => (gnames d).getD k (nm "g" 0)
def spSettled : Sp := fun vs H Q _ => ∃ (c ol vt : Addr) (d : CircD) (it gt rt ot : Addr) (ga ra oa : List Addr) (ord : List Nat) (vec : List Bool) (val : Str → Bool), vs = [.ref c, .ref ol, .ref vt] ∧ CircAt H c d it gt rt ot ga ra oa ∧ Nets d ∧ H ol = some (.lst (natsV ord)) ∧ Topo (needN d) ord ∧ H vt = some (.tup (vec.map V.bl)) ∧ vec.length = (srcs d).length ∧ Val d vec val ∧
  ∀ (q : Addr) (es : List (Key × V)) (H' : Hp), Ex H H' → H' q = some (.dK es) → Holds es (srcs d ++ gnames d) val → Q (.ref q) H'
theorem sc_settled : FnScope ["circuit", "order", "vector", "found", "g", "name", "table", "nets", "_", "net", "bit"] ["circuit", "order", "vector"] (defScope s_settled) := ⟨rfl, rfl, rfl, by decide +kernel, rfl, by decide +kernel, by decide +kernel⟩
theorem ok_settled (D : Dfd K mg "_settled" s_settled ["circuit", "order", "vector"]) (T : TxtM mg) (C1 : Has P w K mg base 1 "sources" ["circuit"] spSources) (C2 : Has P w K mg base 1 "look_up" ["table", "bits"] spLook) : Has P w K mg base 2 "_settled" ["circuit", "order", "vector"] spSettled := by
  obtain ⟨f_sources, d_sources, G_sources, g_sources, k_sources, b_sources⟩ := C1
  obtain ⟨f_look_up, d_look_up, G_look_up, g_look_up, k_look_up, b_look_up⟩ := C2
  refine D.has fun f fd F => F.ok sc_settled (fun vs H Q E h => ?_) (fun cdv A outer s H vs Q E hr h => ?_)
  · obtain ⟨c, ol, vt, d, it, gt, rt, ot, ga, ra, oa, ord, vec, val, rfl, _⟩ := h
    rfl
  · obtain ⟨c, ol, vt, d, it, gt, rt, ot, ga, ra, oa, ord, vec, val, rfl, hc, hN, hol, hT, hvt, hvl, hV, q⟩ := h
    refine ⟨_, (pss_cons (ps_set (i := 3) sc_settled.nd rfl (.inr rfl) (pe_dc (own := [("net", 9), ("bit", 10)]) (g := gTup K 2 (gCons (gName 9) (gCons (gName 10) gNil))) (tt := tYes) rfl sc_settled.nd (pi_zipM false true (by rfl) T.zip (pa_cons (pe_call G_sources (hr.mono (by omega)) (by rfl) g_sources k_sources b_sources .nil pass0 (pa_cons (pv 0) pa_nil)) (pa_cons (pv 2) pa_nil))) (blkOk_by (N := ["circuit", "order", "vector", "found", "g", "name", "table", "nets", "_", "net", "bit"]) (sc := defScope s_settled) (own := [("net", 9), ("bit", 10)]) (by decide +kernel)) (fun _ _ _ _ _ => (pg_tup rfl (pgs_cons (pg_name (i := 9) sc_settled.nd rfl (.inl rfl)) (pgs_cons (pg_name (i := 10) sc_settled.nd rfl (.inl rfl)) pgs_nil)))) (fun _ _ _ _ _ => pts_nil) (fun _ _ _ _ _ => (pv 9)) (fun _ _ _ _ _ => (pv 10))))
    (pss_cons (ps_for PassesOwn.never rfl (pi_list (pv 1)) (pg_name (i := 4) sc_settled.nd rfl (.inl rfl))
      (pss_cons (ps_asg (pe_ix ix_tup (pe_ix ix_tup (pv 0) pe_int (fun _ _ => rfl)) (pv 4) (fun _ _ => rfl)) (pg_tup rfl (pgs_cons (pg_name (i := 5) sc_settled.nd rfl (.inl rfl)) (pgs_cons (pg_name (i := 6) sc_settled.nd rfl (.inl rfl)) (pgs_cons (pg_name (i := 7) sc_settled.nd rfl (.inl rfl)) (pgs_cons (pg_name (i := 8) sc_settled.nd rfl (.inl rfl)) pgs_nil))))))
      (pss_one (ps_asg (pe_call G_look_up (hr.mono (by omega)) (by rfl) g_look_up k_look_up b_look_up .nil pass0 (pa_cons (pv 6) (pa_cons (pe_lc (own := [("net", 9)]) (g := gName 9) (tt := tYes) rfl sc_settled.nd (pi_tup (pv 7)) (blkOk_by (N := ["circuit", "order", "vector", "found", "g", "name", "table", "nets", "_", "net", "bit"]) (sc := defScope s_settled) (own := [("net", 9)]) (by decide +kernel)) (fun _ _ _ _ _ => (pg_name (i := 9) sc_settled.nd rfl (.inl rfl))) (fun _ _ _ _ _ => pts_nil) (fun _ _ _ _ _ => (pe_dget (hu_of hr) (pv 3) (pv 9) (fun _ _ => rfl)))) pa_nil))) (pg_sub (pv 3) (pv 5) (set_dict (hu_of hr)))))))
    (pss_one (ps_ret (pv 3))))), ?_⟩
    have hs16 := hN.fews
    have hg16 := hN.few
    have hnl : (gnames d).length = d.gates.length := List.length_map _
    have hnd : (needN d).length = d.gates.length := by unfold needN; rw [List.length_map]
    -- the sources
    refine ⟨_, rfl, c, d, it, gt, rt, ot, ga, ra, oa, rfl, hc, by omega, fun l H1 nl E1 hl => ⟨_, rfl, l, vt, (srcs d).map V.str, vec.map V.bl, rfl, SqL.of hl, SqT.of (E1 _ _ hvt), fun Dc nDc => wk_it (walk_zipM (n := (srcs d).length) (by rw [List.length_map]) (by rw [List.length_map, hvl]))
      (fun j H' => Ex H1 H' ∧ ∃ es : List (Key × V), H' Dc = some (.dK es) ∧ es.length ≤ j ∧ Holds es ((srcs d).take j) val)
      ⟨Ex.new nDc, [], upd_same, Nat.le_refl _, HoldsV.nil⟩ (fun j H' _ g => ⟨SqL.of (g.1 _ _ hl), SqT.of ((E1.trans g.1) _ _ hvt)⟩) ?_ ?_⟩⟩
    · rintro j x H2 H3 hj ⟨E2, es, hD, hel, hk⟩ ⟨T1, x0, y0, rfl, nT, rfl, hx0, hy0⟩
      obtain ⟨n, hn⟩ : ∃ n, (srcs d)[j]? = some n := ⟨_, List.getElem?_eq_getElem hj⟩
      obtain rfl : x0 = .str n := by
        have : ((srcs d).map V.str)[j]? = some x0 := hx0
        rw [List.getElem?_map, hn] at this
        cases this; rfl
      obtain rfl : y0 = .bl (val n) := by
        have : (vec.map V.bl)[j]? = some y0 := hy0
        rw [List.getElem?_map, hV.src j n hn] at this
        cases this; rfl
      have E3 : Ex H2 (upd H2 T1 (.tup [.str n, .bl (val n)])) := Ex.new nT
      refine ⟨T1, _, rfl, SqT.of upd_same, rfl, _, _, rfl, _, _, rfl, rfl, rfl, tYes_in ?_⟩
      simp only [wipe, _root_.L2.start, List.map_cons, List.map_nil, List.length_cons, List.length_nil, Nat.reduceAdd, Nat.reduceSub, List.replicate_succ, List.replicate_zero, List.cons_append, List.nil_append, List.set_cons_zero, List.set_cons_succ]
      have hD3 := E3 _ _ hD
      generalize upd H2 T1 (.tup [.str n, .bl (val n)]) = H3 at *
      refine ⟨_, rfl, _, rfl, es, .inr n, rfl, hD3, sz_lt (by omega), (E2.trans E3).mut nDc, _, upd_same, Nat.le_trans (length_putK _ _ _) (Nat.succ_le_succ hel), ?_⟩
      rw [take_snoc1 hn]
      exact Holds.put hk n
    rintro H2 ⟨E2, es, hD, hel, hk⟩
    rw [List.take_length] at hk
    have E02 := E1.trans E2
    have nD0 : H Dc = none := fresh_back E1 nDc
    have hol2 := E02 _ _ hol
    -- the gates, in the order
    refine ⟨_, rfl, ol, rfl, ⟨_, SqL.of hol2⟩, for_list (K := K) (a := ol) (xs := natsV ord)
      (fun i σ H' => Ex H H' ∧ ∃ (es : List (Key × V)) (y4 y5 y6 y7 y8 : Option V), H' Dc = some (.dK es) ∧ es.length ≤ (srcs d).length + i ∧ Holds es (srcs d ++ doneN d (ord.take i)) val ∧ σ = [some (.ref c), some (.ref ol), some (.ref vt), some (.ref Dc), y4, y5, y6, y7, y8, none, none])
      ⟨E02, es, _, _, _, _, _, hD, by omega, by rw [show doneN d (ord.take 0) = [] from rfl, List.append_nil]; exact hk, rfl⟩ (fun i σ H' _ g => SqL.of (g.1 _ _ hol)) ?_ ?_⟩
    · rintro i y σ H3 hy ⟨E3, es, y4, y5, y6, y7, y8, hD, hel, hk, rfl⟩
      obtain ⟨k, hk1, rfl⟩ := nats_get hy
      have hkl := hT.lt k (List.mem_of_getElem? hk1)
      rw [hnd] at hkl
      obtain ⟨g, hg⟩ : ∃ g, d.gates[k]? = some g := ⟨_, List.getElem?_eq_getElem hkl⟩
      have hgm := List.mem_of_getElem? hg
      obtain ⟨b, hb, t, pt, rgt, rla, hgt, htab, hpt, _⟩ := hc.gates.of hg
      have hp3 := hN.fewp g hgm
      have hil : i < ord.length := (List.getElem?_eq_some_iff.mp hk1).1
      have hol16 : ord.length ≤ 16 := by
        have := nodup_len _ _ hT.nd hT.lt
        omega
      refine ⟨_, rfl, _, _, _, _, rfl, rfl, SqT.of (E3 _ _ hc.top), atI_nat (j := 1) rfl, _, rfl, gt, _, _, .ref b, rfl, rfl, SqT.of (E3 _ _ hc.gts), at_of (j := k) rfl (by rw [List.getElem?_map, hb]; rfl), b, _, rfl, SqT.of (E3 _ _ hgt), rfl, _, _, rfl, _, _, rfl, _, _, rfl, _, _, rfl, rfl, ?_⟩
      simp only [wipe, _root_.L2.start, List.map_cons, List.map_nil, List.length_cons, List.length_nil, Nat.reduceAdd, Nat.reduceSub, List.replicate_succ, List.replicate_zero, List.cons_append, List.nil_append, List.set_cons_zero, List.set_cons_succ]
      have hin : ∀ p ∈ g.pins, p ∈ srcs d ++ doneN d (ord.take i) := fun p hp => by
        rcases List.mem_append.mp (hN.pins g hgm p hp) with z | z
        · exact List.mem_append_left _ z
        · refine List.mem_append_right _ ?_
          have hneed : (gnames d).idxOf p ∈ (needN d).getD k [] := by
            unfold needN
            rw [List.getD_eq_getElem?_getD, List.getElem?_map, hg]
            exact List.mem_map.mpr ⟨p, List.mem_filter.mpr ⟨hp, decide_eq_true z⟩, rfl⟩
          have := hT.closed i k hk1 _ hneed
          refine List.mem_map.mpr ⟨_, this, ?_⟩
          rw [List.getD_eq_getElem?_getD, List.getElem?_eq_getElem (List.idxOf_lt_length_iff.mpr z)]
          exact List.getElem_idxOf _
      refine ⟨_, rfl, _, rfl, pt, rfl, ⟨_, SqT.of (E3 _ _ hpt)⟩, fun L nL => wk_tup (K := K) (a := pt) (xs := g.pins.map V.str) (fun j H' => Ex H3 H' ∧ H' L = some (.lst (((g.pins.take j).map val).map V.bl))) ⟨Ex.new nL, upd_same⟩ (fun j H' _ z => SqT.of ((E3.trans z.1) _ _ hpt)) ?_ ?_⟩
      · rintro j y H4 hy ⟨E4, hL⟩
        obtain ⟨p, hp, rfl⟩ : ∃ p, g.pins[j]? = some p ∧ y = .str p := by
          rw [List.getElem?_map] at hy
          cases e : g.pins[j]? with
          | none => rw [e] at hy; cases hy
          | some p => rw [e] at hy; cases hy; exact ⟨p, rfl, rfl⟩
        refine ⟨rfl, tYes_in ?_⟩
        simp only [wipe, _root_.L2.start, List.map_cons, List.map_nil, List.length_cons, List.length_nil, Nat.reduceAdd, Nat.reduceSub, List.replicate_succ, List.replicate_zero, List.cons_append, List.nil_append, List.set_cons_zero, List.set_cons_succ]
        refine ⟨_, rfl, _, rfl, Dc, _, rfl, hk.at_ (E4 _ _ hD) (hin p (List.mem_of_getElem? hp)), _, hL, sz_lt (by rw [List.length_map, List.length_map, List.length_take]; omega), E4.mut nL, ?_⟩
        rw [upd_same, take_snoc1 hp, List.map_append, List.map_append]; rfl
      rintro H4 ⟨E4, hL⟩
      rw [List.length_map, List.take_length] at hL
      have E34 := E3.trans E4
      refine ⟨t, L, g.tab, g.pins.map val, rfl, E34 _ _ htab, hL, by rw [List.length_map]; omega, by rw [List.length_map]; exact hN.tab g hgm, fun H5 E5 => ?_⟩
      have hD5 := (E4.trans E5) _ _ hD
      refine ⟨_, rfl, _, rfl, Dc, _, rfl, .inl ⟨es, .inr g.name, hD5, rfl, sz_lt (by omega), rfl⟩, ?_⟩
      rw [← hV.gate g hgm]
      refine ⟨(E34.trans E5).mut nD0, _, _, _, _, _, _, upd_same, Nat.le_trans (length_putK _ _ _) (by omega), ?_, rfl⟩
      have hdn : doneN d (ord.take (i + 1)) = doneN d (ord.take i) ++ [g.name] := by
        unfold doneN
        rw [take_snoc1 hk1, List.map_append]
        show _ ++ [(gnames d).getD k _] = _
        unfold gnames
        rw [List.getD_eq_getElem?_getD, List.getElem?_map, hg]; rfl
      rw [hdn, ← List.append_assoc]
      exact Holds.put hk g.name
    · rintro σ H3 ⟨E3, es, y4, y5, y6, y7, y8, hD, hel, hk, rfl⟩
      rw [nats_len, List.take_length] at hk
      refine ⟨_, rfl, q Dc es H3 E3 hD (hk.congr fun x => ?_)⟩
      have : x ∈ srcs d ++ doneN d ord ↔ x ∈ srcs d ++ gnames d := by
        rw [List.mem_append, List.mem_append]
        refine or_congr Iff.rfl ⟨fun z => ?_, fun z => ?_⟩
        · obtain ⟨k, hk2, rfl⟩ := List.mem_map.mp z
          have := hT.lt k hk2
          rw [List.getD_eq_getElem?_getD, List.getElem?_eq_getElem (by omega)]
          exact List.getElem_mem _
        · have hlt := List.idxOf_lt_length_iff.mpr z
          refine List.mem_map.mpr ⟨(gnames d).idxOf x, hT.all _ (by omega), ?_⟩
          rw [List.getD_eq_getElem?_getD, List.getElem?_eq_getElem hlt]
          exact List.getElem_idxOf _
      exact this
open Classical in
/-- the values of the nets, the sources given -/
noncomputable def valF (d : CircD) (vec : List Bool) : Str → Bool := if h : ∃ val, Val d vec val then Classical.choose h else fun _ => false
theorem valF_ok {d : CircD} {vec : List Bool} (h : ∃ val, Val d vec val) : Val d vec (valF d vec) := by
  unfold valF
  rw [dif_pos h]
  exact Classical.choose_spec h
end
end G
namespace G
open PySem PySem.Spec PyProof.Rows L2 Evl
/-! ## methods of built-in types within a suite: the written part by its letter -/
theorem kBm {X : Cx} {K : PySem.W.Frag} {T name id : String} {r : V → List V → Hp → VK → Prop} {o e : Expr} {es : List Expr} {to_ : TE} {t : TA} {apos cpos : Pos} (h : X.K = K) (p1 : PlainAttrs T) (p2 : Slot T name id) (p3 : typeOf (.builtin id) = pure (.type "method_descriptor")) (p4 : MtR X id r) (p5 : PE X o to_) (p6 : PA X (e :: es) t)
    (p7 : attributeBase o name X.env (eval o X.env) = eval o X.env := by rfl) (p8 : ((backTo cpos (starEach (e :: es) X.env)).all (fun x => !x.1) && (backToKw cpos (keywordEach [] X.env)).all (fun x => x.1.isSome) && decide ((e :: es).length + ([] : List Keyword).length + (if ([] : List Keyword).isEmpty then 0 else 1) < 30)) = true := by rfl)
    (p9 : (apos.endLine == cpos.line) = true := by rfl) (p10 : starEach (e :: es) X.env = (false, eval e X.env) :: starEach es X.env := by rfl) (p11 : (backTo cpos (starEach es X.env)).any (·.1) = false := by rfl) : PE X (.Call (.Attribute o name apos) (e :: es) [] cpos) (tBM K T r to_ t) := by
  subst h
  exact pe_bm p1 p2 p3 p4 p5 p6 p7 p8 p9 p10 p11
theorem kMtIndex {X : Cx} {K : PySem.W.Frag} (h : X.K = K) : MtR X "list.index" (rIndex K) := by subst h; exact mt_index
end G
namespace G
open PySem PySem.Spec PyProof.Rows L2 Evl TL
theorem it1 {b : Bool} {A B : Prop} (h : b = true) (a : A) : if b = true then A else B := by rw [if_pos h]; exact a
theorem it0 {b : Bool} {A B : Prop} (h : b = false) (a : B) : if b = true then A else B := by rw [if_neg (by rw [h]; decide)]; exact a
theorem shaped_strs {xs : List Str} (h : ∀ x ∈ xs, PyData.strOk x = true) : SeqAt.shaped (.list (xs.map PyData.str)) = true := by
  have : PyData.canLayAll0 (xs.map PyData.str) = true ∧ PyData.depthAll (xs.map PyData.str) = 0 := by
    induction xs with
    | nil => exact ⟨rfl, rfl⟩
    | cons x xs ih =>
      obtain ⟨a, b⟩ := ih fun y hy => h y (List.mem_cons_of_mem _ hy)
      exact ⟨by show (PyData.strOk x && PyData.canLayAll0 _) = true; rw [h x (List.mem_cons_self ..), a]; rfl, by show max 0 (PyData.depthAll _) = 0; rw [b]; rfl⟩
  simp [SeqAt.shaped, PyData.canLay0, PyData.depth, this.1, this.2]
theorem dp_strs {K : PySem.W.Frag} {H : Hp} {a : Addr} {xs : List Str} (h : SqL K H a (xs.map V.str)) : Dp K H (.ref a) (.list (xs.map PyData.str)) := .lst h (dpAll_map (fun x => .str x) xs)
theorem inV_strs {x : Str} {l : List Str} : inV (.str x) (l.map V.str) = decide (x ∈ l) := by
  unfold inV
  rw [List.any_map, Bool.eq_iff_iff, List.any_eq_true, decide_eq_true_iff]
  constructor
  · rintro ⟨y, hy, h⟩
    have h' : (y == x) = true := h
    rw [← eq_of_beq h']; exact hy
  · intro h
    exact ⟨x, h, (beq_self_eq_true x : (x == x) = true)⟩
theorem inV_nats {k : Nat} {l : List Nat} : inV (.int (k : Int)) (natsV l) = decide (k ∈ l) := by
  unfold inV natsV
  rw [List.any_map, Bool.eq_iff_iff, List.any_eq_true, decide_eq_true_iff]
  constructor
  · rintro ⟨y, hy, h⟩
    have h' : ((y : Int) == (k : Int)) = true := h
    have := eq_of_beq h'
    have : y = k := by omega
    rw [← this]; exact hy
  · intro h
    exact ⟨k, h, (beq_self_eq_true (k : Int) : ((k : Int) == (k : Int)) = true)⟩
theorem flat_nats (l : List Nat) : (natsV l).all flatV = true := by
  rw [List.all_eq_true]
  intro y hy
  obtain ⟨k, _, rfl⟩ := List.mem_map.mp hy
  rfl
theorem flat_strs (l : List Str) : (l.map V.str).all flatV = true := by
  rw [List.all_eq_true]
  intro y hy
  obtain ⟨k, _, rfl⟩ := List.mem_map.mp hy
  rfl
structure POrd (N : List (List Nat)) (ord : List Nat) : Prop where
  nd : ord.Nodup
  lt : ∀ k ∈ ord, k < N.length
  closed : ∀ (i k : Nat), ord[i]? = some k → ∀ o ∈ N.getD k [], o ∈ ord.take i
theorem POrd.nil (N : List (List Nat)) : POrd N [] := ⟨List.nodup_nil, (fun _ h => nomatch h), (fun _ _ h => nomatch h)⟩
theorem POrd.snoc {N : List (List Nat)} {ord : List Nat} {k : Nat} (h : POrd N ord) (hk : k ∉ ord) (hkl : k < N.length) (h0 : leftN N ord k = 0) : POrd N (ord ++ [k]) := by
  refine ⟨List.nodup_append.mpr ⟨h.nd, by simp, fun a ha b hb => fun z => hk (by rw [← List.mem_singleton.mp hb, ← z]; exact ha)⟩, fun f hf => ?_, fun i f hi o ho => ?_⟩
  · rcases List.mem_append.mp hf with z | z
    · exact h.lt f z
    · rw [List.mem_singleton.mp z]; exact hkl
  · by_cases hi' : i < ord.length
    · rw [List.getElem?_append_left hi'] at hi
      rw [List.take_append_of_le_length (Nat.le_of_lt hi')]
      exact h.closed i f hi o ho
    · have hil := (List.getElem?_eq_some_iff.mp hi).1
      rw [List.length_append] at hil
      have : i < ord.length + 1 := hil
      have ei : i = ord.length := by omega
      subst ei
      rw [List.getElem?_append_right (Nat.le_refl _), Nat.sub_self] at hi
      cases hi
      rw [List.take_append_of_le_length (Nat.le_refl _), List.take_length]
      exact left_zero.mp h0 o ho
theorem POrd.next {N : List (List Nat)} {ord : List Nat} {rank : Nat → Nat} (h : POrd N ord) (hr : ∀ k o, k < N.length → o ∈ N.getD k [] → o < N.length ∧ rank o < rank k) (hl : ord.length < N.length) : ∃ k, k < N.length ∧ k ∉ ord ∧ leftN N ord k = 0 := by
  refine Classical.byContradiction fun hno => ?_
  have all : ∀ r k, rank k = r → k < N.length → k ∈ ord := by
    intro r
    induction r using Nat.strongRecOn with
    | _ r ih =>
      intro k hk hkl
      have h0 : leftN N ord k = 0 := left_zero.mpr fun o ho => by
        obtain ⟨h1, h2⟩ := hr k o hkl ho
        exact ih (rank o) (by omega) o rfl h1
      exact Classical.byContradiction fun z => hno ⟨k, hkl, z, h0⟩
  have p : (List.range N.length).Perm ord := by
    rw [List.perm_iff_count]
    intro a
    by_cases ha : a < N.length
    · have h1 := List.nodup_iff_count.mp (List.nodup_range (n := N.length)) a
      have h2 := List.nodup_iff_count.mp h.nd a
      have h3 := List.count_pos_iff.mpr (List.mem_range.mpr ha)
      have h4 := List.count_pos_iff.mpr (all _ a rfl ha)
      omega
    · rw [List.count_eq_zero.mpr fun z => ha (List.mem_range.mp z), List.count_eq_zero.mpr fun z => ha (h.lt a z)]
  have := p.length_eq
  rw [List.length_range] at this
  omega
theorem POrd.topo {N : List (List Nat)} {ord : List Nat} (h : POrd N ord) (hl : ord.length = N.length) : Topo N ord := by
  refine ⟨h.nd, h.lt, fun k hk => Classical.byContradiction fun z => ?_, h.closed⟩
  have := nodup_len N.length (ord ++ [k]) (List.nodup_append.mpr ⟨h.nd, by simp, fun a ha b hb => fun y => z (by rw [← List.mem_singleton.mp hb, ← y]; exact ha)⟩) fun f hf => by
    rcases List.mem_append.mp hf with y | y
    · exact h.lt f y
    · rw [List.mem_singleton.mp y]; exact hk
  rw [List.length_append] at this
  have : ord.length + 1 ≤ N.length := this
  omega
section
variable {P : Program} {w : World} {K : PySem.W.Frag} {mg : Str → Option Value} {base : Heap}
theorem sc_law_order : FnScope ["circuit", "names", "done", "turn", "k", "waiting", "gate", "net"] ["circuit"] (defScope s_law_order) := ⟨rfl, rfl, rfl, by decide +kernel, rfl, by decide +kernel, by decide +kernel⟩
theorem ok_law_order (D : Dfd K mg "_law_order" s_law_order ["circuit"]) (T : TxtS mg) : Has P w K mg base 1 "_law_order" ["circuit"] spOrder := by
  refine D.has fun f fd F => F.ok sc_law_order (fun vs H Q E h => ?_) (fun cdv A outer s H vs Q E hr h => ?_)
  · obtain ⟨c, d, it, gt, rt, ot, ga, ra, oa, rfl, _⟩ := h
    rfl
  · obtain ⟨c, d, it, gt, rt, ot, ga, ra, oa, rfl, hc, hN, q⟩ := h
    refine ⟨_, (pss_cons (ps_set (i := 1) sc_law_order.nd rfl (.inr rfl) (pe_lc (own := [("gate", 6)]) (g := gName 6) (tt := tYes) rfl sc_law_order.nd (pi_tup (pe_ix ix_tup (pv 0) pe_int (fun _ _ => rfl))) (blkOk_by (N := ["circuit", "names", "done", "turn", "k", "waiting", "gate", "net"]) (sc := defScope s_law_order) (own := [("gate", 6)]) (by decide +kernel)) (fun _ _ _ _ _ => (pg_name (i := 6) sc_law_order.nd rfl (.inl rfl))) (fun _ _ _ _ _ => pts_nil) (fun _ _ _ _ _ => (pe_ix (kIxT (K := K) rfl) (pv 6) pe_int (fun _ _ => rfl)))))
    (pss_cons (ps_set (i := 2) sc_law_order.nd rfl (.inr rfl) (pe_lst pa_nil))
    (pss_cons (ps_for PassesOwn.never rfl (pi_range1 rfl T.range (pa_cons (pe_callB call_len_seq (by rfl) T.len (by decide +kernel) (pa_cons (pv 1) pa_nil)) pa_nil)) (pg_name (i := 3) sc_law_order.nd rfl (.inl rfl))
      (pss_one (ps_for PassesOwn.never rfl (pi_range1 rfl T.range (pa_cons (pe_callB call_len_seq (by rfl) T.len (by decide +kernel) (pa_cons (pv 1) pa_nil)) pa_nil)) (pg_name (i := 4) sc_law_order.nd rfl (.inl rfl))
        (pss_cons (ps_setLc (i := 5) (own := [("net", 7)]) (g := gName 7) (tt := _) rfl sc_law_order.nd rfl rfl (sw_true rfl rfl rfl (by decide +kernel)) (pi_tup (pe_ix ix_tup (pe_ix ix_tup (pe_ix ix_tup (pv 0) pe_int (fun _ _ => rfl)) (pv 4) (fun _ _ => rfl)) pe_int (fun _ _ => rfl))) (blkOk_by (N := ["circuit", "names", "done", "turn", "k", "waiting", "gate", "net"]) (sc := defScope s_law_order) (own := [("net", 7)]) (by decide +kernel)) (fun _ _ _ _ _ => (pg_name (i := 7) sc_law_order.nd rfl (.inl rfl))) (fun _ _ _ _ _ => pts_one (PW.pt (pw_and (pt_cmpR (kIn (K := K) rfl) (pv 7) (pv 1) (by rfl)) (pw_and1 (pt_cmpR (kNotIn (K := K) rfl) (kBm (K := K) rfl PySem.F.plainAttrs_list PySem.F.slot_list_index PySem.F.type_list_index (kMtIndex (K := K) rfl) (pv 1) (pa_cons (pv 7) pa_nil)) (pv 2) (by rfl)))))) (fun _ _ _ _ _ => (pv 7)))
        (pss_one (ps_if (PW.pt (pw_and (pt_cmpR op_notIn_seq (pv 4) (pv 2) (by rfl)) (pw_and1 (pt_cmpR (op_eqD hr.units) (pv 5) (pe_lst pa_nil) (nomark _)))))
          (pss_cons (ps_expr (pe_bm PySem.F.plainAttrs_list PySem.F.slot_list_append PySem.F.type_list_append mt_append (pv 2) (pa_cons (pv 4) pa_nil)))
          (pss_one ps_break))
          pss_nil))))))
    (pss_one (ps_ret (pv 2)))))), ?_⟩
    obtain ⟨rank, hrk⟩ := need_rank hN
    have hg16 := hN.few
    have ndg : (gnames d).Nodup := (List.nodup_append.mp hN.nd).2.1
    have hnl : (gnames d).length = d.gates.length := List.length_map _
    have hnd : (needN d).length = d.gates.length := by unfold needN; rw [List.length_map]
    refine ⟨_, rfl, _, _, _, _, rfl, rfl, SqT.of hc.top, atI_nat (j := 1) rfl, gt, rfl, ⟨_, SqT.of hc.gts⟩, fun NL nNL => wk_tup (K := K) (a := gt) (xs := ga.map V.ref) (fun j H' => Ex H H' ∧ H' NL = some (.lst (((gnames d).take j).map V.str))) ⟨Ex.new nNL, by rw [upd_same]; rfl⟩ (fun j H' _ g => SqT.of (g.1 _ _ hc.gts)) ?_ ?_⟩
    · rintro j x H2 hx ⟨E2, hL⟩
      obtain ⟨b, hb, rfl⟩ := refs_get hx
      obtain ⟨g, hg, t, pt, rgt, rla, hgt, _⟩ := hc.gates.at_ hb
      have hj : j < d.gates.length := (List.getElem?_eq_some_iff.mp hg).1
      have hnx : (gnames d)[j]? = some g.name := by unfold gnames; rw [List.getElem?_map, hg]; rfl
      refine ⟨rfl, tYes_in ⟨_, rfl, _, _, _, _, rfl, rfl, SqT.of (E2 _ _ hgt), atI_nat (j := 0) rfl, _, hL, sz_lt (by rw [List.length_map, List.length_take]; omega), E2.mut nNL, ?_⟩⟩
      rw [upd_same, take_snoc1 hnx, List.map_append]; rfl
    rintro H1 ⟨E1, hNL⟩
    rw [List.length_map, hc.gates.1, ← hnl, List.take_length] at hNL
    have hnv : ((gnames d).map V.str).length = d.gates.length := by rw [List.length_map, hnl]
    refine ⟨Nat.zero_le _, fun DL nDL => ?_⟩
    have E2 : Ex H1 (upd H1 DL (.lst [])) := Ex.new nDL
    have nD0 : H DL = none := fresh_back E1 nDL
    have nND : NL ≠ DL := ne_of_none hNL nDL
    refine ⟨_, rfl, _, _, rfl, .inl (SqL.of (E2 _ _ hNL)), _, rfl, by omega, by rw [hnv]; omega, for_range (n := ((((gnames d).map V.str).length : Nat) : Int).toNat)
      (fun t σ H' => Ex H H' ∧ H' NL = some (.lst ((gnames d).map V.str)) ∧ ∃ (ord : List Nat) (y3 y4 y5 : Option V), H' DL = some (.lst (natsV ord)) ∧ POrd (needN d) ord ∧ ord.length = t ∧ σ = [some (.ref c), some (.ref NL), some (.ref DL), y3, y4, y5, none, none])
      ⟨E1.trans E2, E2 _ _ hNL, [], _, _, _, upd_same, POrd.nil _, rfl, rfl⟩ ?_ ?_⟩
    · rintro t σ H2 ht ⟨E2, hNL2, ord, y3, y4, y5, hDL, hP, hot, rfl⟩
      rw [Int.toNat_natCast, hnv] at ht
      obtain ⟨kx, hkx, hkx1, hkx2⟩ := hP.next hrk (by omega)
      refine ⟨_, rfl, _, _, rfl, .inl (SqL.of hNL2), _, rfl, by omega, by rw [hnv]; omega, for_range (n := ((((gnames d).map V.str).length : Nat) : Int).toNat)
        (fun k σ H' => Ex H H' ∧ H' NL = some (.lst ((gnames d).map V.str)) ∧ H' DL = some (.lst (natsV ord)) ∧ (∀ k', k' < k → k' ∈ ord ∨ leftN (needN d) ord k' ≠ 0) ∧ ∃ (y3 y4 y5 : Option V), σ = [some (.ref c), some (.ref NL), some (.ref DL), y3, y4, y5, none, none])
        ⟨E2, hNL2, hDL, (fun k' z => absurd z (Nat.not_lt_zero _)), _, _, _, rfl⟩ ?_ ?_⟩
      · rintro k σ H3 hk ⟨E3, hNL3, hDL3, hno, y3, y4, y5, rfl⟩
        rw [Int.toNat_natCast, hnv] at hk
        rw [Int.zero_add]
        obtain ⟨g, hg⟩ : ∃ g, d.gates[k]? = some g := ⟨_, List.getElem?_eq_getElem hk⟩
        have hgm := List.mem_of_getElem? hg
        obtain ⟨b, hb, t', pt, rgt, rla, hgt, htab, hpt, _⟩ := hc.gates.of hg
        have hp3 := hN.fewp g hgm
        refine ⟨_, rfl, _, _, _, _, rfl, rfl, SqT.of (E3 _ _ hc.top), atI_nat (j := 1) rfl, _, rfl, gt, _, _, .ref b, rfl, rfl, SqT.of (E3 _ _ hc.gts), at_of (j := k) rfl (by rw [List.getElem?_map, hb]; rfl), _, _, _, _, rfl, rfl, SqT.of (E3 _ _ hgt), atI_nat (j := 2) rfl, pt, rfl, ⟨_, SqT.of (E3 _ _ hpt)⟩, fun WL nWL => ?_⟩
        have leftW : leftN (needN d) ord k = (g.pins.filter fun x => decide (x ∈ gnames d) && decide ((gnames d).idxOf x ∉ ord)).length := by
          unfold leftN needN
          rw [List.getD_eq_getElem?_getD, List.getElem?_map, hg]
          show (((g.pins.filter _).map _).filter _).length = _
          rw [List.filter_map, List.length_map, List.filter_filter]
          congr 1
          refine List.filter_congr fun x _ => ?_
          show (decide ((gnames d).idxOf x ∉ ord) && decide (x ∈ gnames d)) = _
          rw [Bool.and_comm]
        refine wk_tup (K := K) (a := pt) (xs := g.pins.map V.str) (fun i H' => Ex H3 H' ∧ H' WL = some (.lst (((g.pins.take i).filter fun x => decide (x ∈ gnames d) && decide ((gnames d).idxOf x ∉ ord)).map V.str))) ⟨Ex.new nWL, upd_same⟩ (fun i H' _ z => SqT.of ((E3.trans z.1) _ _ hpt)) ?_ ?_
        · rintro i y H4 hy ⟨E4, hWL⟩
          obtain ⟨p, hp, rfl⟩ : ∃ p, g.pins[i]? = some p ∧ y = .str p := by
            rw [List.getElem?_map] at hy
            cases e : g.pins[i]? with
            | none => rw [e] at hy; cases hy
            | some p => rw [e] at hy; cases hy; exact ⟨p, rfl, rfl⟩
          have hfl : ((g.pins.take i).filter fun x => decide (x ∈ gnames d) && decide ((gnames d).idxOf x ∉ ord)).length ≤ 3 := by
            have h1 := List.length_filter_le (fun x => decide (x ∈ gnames d) && decide ((gnames d).idxOf x ∉ ord)) (g.pins.take i)
            rw [List.length_take] at h1
            omega
          refine ⟨rfl, ?_⟩
          simp only [wipe, _root_.L2.start, List.map_cons, List.map_nil, List.length_cons, List.length_nil, Nat.reduceAdd, Nat.reduceSub, List.replicate_succ, List.replicate_zero, List.cons_append, List.nil_append, List.set_cons_zero, List.set_cons_succ]
          refine ⟨_, rfl, _, rfl, NL, _, rfl, .inl (SqL.of (E4 _ _ hNL3)), rfl, flat_strs _, ?_⟩
          rw [if_neg Bool.false_ne_true, inV_strs]
          have skip : (decide (p ∈ gnames d) && decide ((gnames d).idxOf p ∉ ord)) = false → H4 WL = some (.lst (((g.pins.take (i + 1)).filter fun x => decide (x ∈ gnames d) && decide ((gnames d).idxOf x ∉ ord)).map V.str)) := fun e => by
            rw [hWL, take_snoc1 hp, List.filter_append, List.map_append, List.filter_cons, e, if_neg Bool.false_ne_true]
            show _ = some (HO.lst (_ ++ List.map V.str []))
            rw [List.map_nil, List.append_nil]
          refine ⟨_, rfl, ite2 (fun e1 => ?_) (fun e1 => ?_)⟩
          · have hin := of_decide_eq_true e1
            have hlt := List.idxOf_lt_length_iff.mpr hin
            have hat : (gnames d)[(gnames d).idxOf p]? = some p := by rw [List.getElem?_eq_getElem hlt]; exact congrArg some (List.getElem_idxOf hlt)
            refine ⟨_, rfl, .inl ⟨rfl, _, SqL.of (E4 _ _ hNL3)⟩, _, rfl, NL, _, _, (gnames d).idxOf p, .str p, rfl, rfl, SqL.of (E4 _ _ hNL3), rfl, flat_strs _, by rw [List.getElem?_map, hat]; rfl, (beq_self_eq_true p : (p == p) = true), fun m z' hm hz => ?_, ?_⟩
            · rw [List.getElem?_map] at hz
              cases e : (gnames d)[m]? with
              | none => rw [e] at hz; cases hz
              | some x =>
                rw [e] at hz; cases hz
                obtain ⟨h1, h2⟩ := List.getElem?_eq_some_iff.mp e
                have hne : x ≠ p := fun z => by
                  have := ndg.idxOf_getElem m h1
                  rw [h2, z] at this
                  omega
                show (x == p) = false
                cases hh : x == p with
                | false => rfl
                | true => exact absurd (eq_of_beq hh) hne
            · refine ⟨_, rfl, DL, _, rfl, .inl (SqL.of (E4 _ _ hDL3)), rfl, flat_nats _, ?_⟩
              rw [if_pos rfl, inV_nats]
              refine ⟨_, rfl, ite2 (fun e2 => ?_) (fun e2 => ?_)⟩
              · have hno' : (gnames d).idxOf p ∉ ord := by
                  cases hh : decide ((gnames d).idxOf p ∈ ord) with
                  | true => rw [hh] at e2; cases e2
                  | false => exact of_decide_eq_false hh
                refine ⟨_, rfl, _, hWL, sz_lt (by rw [List.length_map]; omega), E4.mut nWL, ?_⟩
                rw [upd_same, take_snoc1 hp, List.filter_append, List.map_append, List.filter_cons, decide_eq_true hin, decide_eq_true hno']; rfl
              · have hyes : (gnames d).idxOf p ∈ ord := by
                  cases hh : decide ((gnames d).idxOf p ∈ ord) with
                  | true => exact of_decide_eq_true hh
                  | false => exact absurd (by rw [hh]; rfl) e2
                exact ⟨E4, skip (by rw [decide_eq_true hin, decide_eq_false fun z => z hyes]; rfl)⟩
          · have hno' : p ∉ gnames d := fun z => e1 (decide_eq_true z)
            exact iteF ⟨E4, skip (by rw [decide_eq_false hno']; rfl)⟩
        rintro H4 ⟨E4, hWL⟩
        rw [List.length_map, List.take_length] at hWL
        simp only [wipe, _root_.L2.start, List.map_cons, List.map_nil, List.length_cons, List.length_nil, Nat.reduceAdd, Nat.reduceSub, List.replicate_succ, List.replicate_zero, List.cons_append, List.nil_append, List.set_cons_zero, List.set_cons_succ]
        have E34 := E3.trans E4
        have hDL4 := E4 _ _ hDL3
        have hNL4 := E4 _ _ hNL3
        have hwl : (g.pins.filter fun x => decide (x ∈ gnames d) && decide ((gnames d).idxOf x ∉ ord)).length ≤ 3 := Nat.le_trans (List.length_filter_le _ _) hp3
        have hwt : ∀ x ∈ g.pins.filter (fun x => decide (x ∈ gnames d) && decide ((gnames d).idxOf x ∉ ord)), PyData.strOk x = true := fun x hx => hN.tx x (hN.pins g hgm x (List.mem_filter.mp hx).1)
        rw [← leftW] at hwl
        generalize g.pins.filter (fun x => decide (x ∈ gnames d) && decide ((gnames d).idxOf x ∉ ord)) = ws at *
        have goOn : (k ∈ ord ∨ leftN (needN d) ord k ≠ 0) → ∀ k', k' < k + 1 → k' ∈ ord ∨ leftN (needN d) ord k' ≠ 0 := fun z k' hk' => by
          rcases Nat.lt_succ_iff_lt_or_eq.mp hk' with y | y
          · exact hno k' y
          · subst y; exact z
        refine ⟨_, rfl, _, rfl, DL, _, rfl, .inl (SqL.of hDL4), rfl, flat_nats _, ?_⟩
        rw [if_pos rfl, inV_nats]
        refine ⟨_, rfl, ite2 (fun e1 => ?_) (fun e1 => ?_)⟩
        · have hko : k ∉ ord := by
            cases hh : decide (k ∈ ord) with
            | true => rw [hh] at e1; cases e1
            | false => exact of_decide_eq_false hh
          refine ⟨_, rfl, Nat.zero_le _, fun m nm => ⟨_, _, dp_strs (SqL.of (Ex.new nm _ _ hWL)), dp_nil (SqL.of upd_same), shaped_strs hwt, shaped_nil, _, rfl, ite2 (fun e2 => ?_) (fun e2 => ?_)⟩⟩
          · have h0 : leftN (needN d) ord k = 0 := by
              rw [leftW]
              cases ws with
              | nil => rfl
              | cons x l => cases e2
            have E5 := E34.trans (Ex.new (o := .lst []) nm)
            have hDL5 := Ex.new (o := .lst []) nm _ _ hDL4
            have hol : ord.length ≤ 16 := by omega
            refine ⟨_, rfl, .inl ⟨rfl, _, SqL.of hDL5⟩, _, rfl, DL, _, .int (k : Nat), rfl, rfl, hDL5, sz_lt (by rw [nats_len]; omega), E5.mut nD0, by rw [upd_ne nND]; exact Ex.new nm _ _ hNL4, ord ++ [k], _, _, _, by rw [upd_same, nats_snoc], hP.snoc hko (by omega) h0, by rw [List.length_append, hot]; rfl, rfl⟩
          · have h0 : leftN (needN d) ord k ≠ 0 := by
              rw [leftW]
              cases ws with
              | nil => exact absurd rfl e2
              | cons x l => exact Nat.succ_ne_zero _
            exact ⟨E34.trans (Ex.new nm), Ex.new nm _ _ hNL4, Ex.new nm _ _ hDL4, goOn (.inr h0), _, _, _, rfl⟩
        · have hko : k ∈ ord := by
            cases hh : decide (k ∈ ord) with
            | true => exact of_decide_eq_true hh
            | false => exact absurd (by rw [hh]; rfl) e1
          exact iteF ⟨E34, hNL4, hDL4, goOn (.inl hko), _, _, _, rfl⟩
      · rintro σ H3 ⟨E3, hNL3, hDL3, hno, y3, y4, y5, rfl⟩
        rw [Int.toNat_natCast, hnv] at hno
        exact ((hno kx (by omega)).elim hkx1 fun z => z hkx2).elim
    · rintro σ H2 ⟨E2, hNL2, ord, y3, y4, y5, hDL, hP, hot, rfl⟩
      rw [Int.toNat_natCast, hnv] at hot
      exact ⟨_, rfl, q DL H2 ord E2 nD0 hDL (hP.topo (by omega))⟩
def spLSettled : Sp := fun vs H Q _ => ∃ (c vt : Addr) (d : CircD) (it gt rt ot : Addr) (ga ra oa : List Addr) (vec : List Bool) (val : Str → Bool), vs = [.ref c, .ref vt] ∧ CircAt H c d it gt rt ot ga ra oa ∧ Nets d ∧ H vt = some (.tup (vec.map V.bl)) ∧ vec.length = (srcs d).length ∧ Val d vec val ∧
  ∀ (q : Addr) (es : List (Key × V)) (H' : Hp), Ex H H' → H' q = some (.dK es) → Holds es (srcs d ++ gnames d) val → Q (.ref q) H'
theorem sc_law_settled : FnScope ["circuit", "vector", "known", "sources_v", "k", "index", "gate", "at", "j", "row"] ["circuit", "vector"] (defScope s_law_settled) := ⟨rfl, rfl, rfl, by decide +kernel, rfl, by decide +kernel, by decide +kernel⟩
theorem ok_law_settled (D : Dfd K mg "_law_settled" s_law_settled ["circuit", "vector"]) (T : TxtS mg) (C1 : Has P w K mg base 1 "_law_order" ["circuit"] spOrder) : Has P w K mg base 2 "_law_settled" ["circuit", "vector"] spLSettled := by
  obtain ⟨f_law_order, d_law_order, G_law_order, g_law_order, k_law_order, b_law_order⟩ := C1
  refine D.has fun f fd F => F.ok sc_law_settled (fun vs H Q E h => ?_) (fun cdv A outer s H vs Q E hr h => ?_)
  · obtain ⟨c, vt, d, it, gt, rt, ot, ga, ra, oa, vec, val, rfl, _⟩ := h
    rfl
  · obtain ⟨c, vt, d, it, gt, rt, ot, ga, ra, oa, vec, val, rfl, hc, hN, hvt, hvl, hV, q⟩ := h
    refine ⟨_, (pss_cons (ps_set (i := 2) sc_law_settled.nd rfl (.inl rfl) pe_dnewK)
    (pss_cons (ps_set (i := 3) sc_law_settled.nd rfl (.inl rfl) (pe_op op_cat (pe_callTy call_list_of (by rfl) T.list (by decide +kernel) (pa_cons (pe_ix ix_tup (pv 0) pe_int (fun _ _ => rfl)) pa_nil)) (pe_lc (own := [("row", 9)]) (g := gName 9) (tt := tYes) rfl sc_law_settled.nd (pi_tup (pe_ix ix_tup (pv 0) pe_int (fun _ _ => rfl))) (blkOk_by (N := ["circuit", "vector", "known", "sources_v", "k", "index", "gate", "at", "j", "row"]) (sc := defScope s_law_settled) (own := [("row", 9)]) (by decide +kernel)) (fun _ _ _ _ _ => (pg_name (i := 9) sc_law_settled.nd rfl (.inl rfl))) (fun _ _ _ _ _ => pts_nil) (fun _ _ _ _ _ => (pe_ix (kIxT (K := K) rfl) (pv 9) pe_int (fun _ _ => rfl))))))
    (pss_cons (ps_for PassesOwn.never rfl (pi_range1 rfl T.range (pa_cons (pe_callB call_len_seq (by rfl) T.len (by decide +kernel) (pa_cons (pv 3) pa_nil)) pa_nil)) (pg_name (i := 4) sc_law_settled.nd rfl (.inl rfl))
      (pss_one (ps_asg (pe_ix ix_tup (pv 1) (pv 4) (fun _ _ => rfl)) (pg_sub (pv 2) (pe_ix ix_list (pv 3) (pv 4) (fun _ _ => rfl)) (set_dict (hu_of hr))))))
    (pss_cons (ps_for PassesOwn.never rfl (pi_list (pe_call G_law_order (hr.mono (by omega)) (by rfl) g_law_order k_law_order b_law_order .nil pass0 (pa_cons (pv 0) pa_nil))) (pg_name (i := 5) sc_law_settled.nd rfl (.inl rfl))
      (pss_cons (ps_set (i := 6) sc_law_settled.nd rfl (.inl rfl) (pe_ix ix_tup (pe_ix ix_tup (pv 0) pe_int (fun _ _ => rfl)) (pv 5) (fun _ _ => rfl)))
      (pss_cons (ps_set (i := 7) sc_law_settled.nd rfl (.inl rfl) pe_int)
      (pss_cons (ps_for PassesOwn.never rfl (pi_range1 rfl T.range (pa_cons (pe_callB call_len_seq (by rfl) T.len (by decide +kernel) (pa_cons (pe_ix ix_tup (pv 6) pe_int (fun _ _ => rfl)) pa_nil)) pa_nil)) (pg_name (i := 8) sc_law_settled.nd rfl (.inl rfl))
        (pss_one (ps_set (i := 7) sc_law_settled.nd rfl (.inl rfl) (pe_op op_add (pv 7) (pe_op op_mul (pe_ix ix_list (pe_lst (pa_cons pe_int (pa_cons pe_int (pa_cons pe_int (pa_cons pe_int (pa_cons pe_int (pa_cons pe_int pa_nil))))))) (pv 8) (fun _ _ => rfl)) (pe_callTy call_int1 (by rfl) T.int (by decide +kernel) (pa_cons (pe_dget (hu_of hr) (pv 2) (pe_ix ix_tup (pe_ix ix_tup (pv 6) pe_int (fun _ _ => rfl)) (pv 8) (fun _ _ => rfl)) (fun _ _ => rfl)) pa_nil)))))))
      (pss_one (ps_asg (pe_ix ix_tup (pe_ix ix_tup (pv 6) pe_int (fun _ _ => rfl)) (pv 7) (fun _ _ => rfl)) (pg_sub (pv 2) (pe_ix ix_tup (pv 6) pe_int (fun _ _ => rfl)) (set_dict (hu_of hr)))))))))
    (pss_one (ps_ret (pv 2))))))), ?_⟩
    have hs16 := hN.fews
    have hg16 := hN.few
    have hnl : (gnames d).length = d.gates.length := List.length_map _
    have hnd : (needN d).length = d.gates.length := by unfold needN; rw [List.length_map]
    have hlen : d.ins.length + d.regs.length ≤ 16 := by
      unfold srcs at hs16
      rw [List.length_append, List.length_map] at hs16
      exact hs16
    refine fun Dc nDc => ?_
    have E0 : Ex H (upd H Dc (.dK [])) := Ex.new nDc
    have hD0 : upd H Dc (.dK []) Dc = some (.dK []) := upd_same
    generalize upd H Dc (.dK []) = H0 at *
    have hc0 := hc.te (.of E0)
    -- the sources
    refine ⟨_, rfl, _, _, _, _, rfl, rfl, SqT.of hc0.top, atI_nat (j := 0) rfl, _, _, rfl, .inr (SqT.of hc0.ins), fun l1 n1 => ?_⟩
    have E1 : Ex H0 (upd H0 l1 (.lst (d.ins.map V.str))) := Ex.new n1
    have h1 : upd H0 l1 (.lst (d.ins.map V.str)) l1 = some (.lst (d.ins.map V.str)) := upd_same
    generalize upd H0 l1 (.lst (d.ins.map V.str)) = H1 at *
    have hc1 := hc0.te (.of E1)
    refine ⟨_, rfl, _, _, _, _, rfl, rfl, SqT.of hc1.top, atI_nat (j := 2) rfl, rt, rfl, ⟨_, SqT.of hc1.rgs⟩, fun L2 nL2 => wk_tup (K := K) (a := rt) (xs := ra.map V.ref) (fun j H' => Ex H1 H' ∧ H' L2 = some (.lst (((d.regs.map (·.name)).take j).map V.str))) ⟨Ex.new nL2, by rw [upd_same]; rfl⟩ (fun j H' _ g => SqT.of (g.1 _ _ hc1.rgs)) ?_ ?_⟩
    · rintro j x H2 hx ⟨E2, hL⟩
      obtain ⟨b, hb, rfl⟩ := refs_get hx
      obtain ⟨g, hg, ea, oa', hgt, _⟩ := hc1.regs.at_ hb
      have hj : j < d.regs.length := (List.getElem?_eq_some_iff.mp hg).1
      refine ⟨rfl, tYes_in ⟨_, rfl, _, _, _, _, rfl, rfl, SqT.of (E2 _ _ hgt), atI_nat (j := 0) rfl, _, hL, sz_lt (by rw [List.length_map, List.length_take]; omega), E2.mut nL2, ?_⟩⟩
      rw [upd_same, List.take_add_one, List.getElem?_map, hg, List.map_append]; rfl
    rintro H2 ⟨E2, hL⟩
    rw [List.length_map, hc1.regs.1, ← List.length_map (f := fun g : RegD => g.name), List.take_length] at hL
    refine ⟨l1, L2, _, _, rfl, rfl, E2 _ _ h1, hL, sz_of (by rw [List.length_map, List.length_map, List.length_map]; omega), fun l3 n3 => ?_⟩
    rw [← List.map_append]
    have E3 : Ex H2 (upd H2 l3 (.lst ((srcs d).map V.str))) := Ex.new n3
    have h3 : upd H2 l3 (.lst ((srcs d).map V.str)) l3 = some (.lst ((srcs d).map V.str)) := upd_same
    have E03 := E0.trans (E1.trans (E2.trans E3))
    have hD3 := (E1.trans (E2.trans E3)) _ _ hD0
    show gName 3 _ _ (upd H2 l3 (.lst ((srcs d).map V.str))) _
    generalize upd H2 l3 (.lst ((srcs d).map V.str)) = H3 at *
    have hsv : ((srcs d).map V.str).length = (srcs d).length := List.length_map _
    have nl3 : H l3 = none := fresh_back (E0.trans (E1.trans E2)) n3
    have nDl : l3 ≠ Dc := fun z => by rw [z, hD3] at h3; cases h3
    refine ⟨_, rfl, _, _, rfl, .inl (SqL.of h3), _, rfl, by omega, by rw [hsv]; omega, for_range (n := ((((srcs d).map V.str).length : Nat) : Int).toNat)
      (fun k σ H' => Ex H H' ∧ H' l3 = some (.lst ((srcs d).map V.str)) ∧ ∃ (es : List (Key × V)) (y4 : Option V), H' Dc = some (.dK es) ∧ es.length ≤ k ∧ Holds es ((srcs d).take k) val ∧ σ = [some (.ref c), some (.ref vt), some (.ref Dc), some (.ref l3), y4, none, none, none, none, none])
      ⟨E03, h3, [], _, hD3, Nat.le_refl _, HoldsV.nil, rfl⟩ ?_ ?_⟩
    · rintro k σ H4 hk ⟨E4, h34, es, y4, hD, hel, hH, rfl⟩
      rw [Int.toNat_natCast, hsv] at hk
      rw [Int.zero_add]
      obtain ⟨n, hn⟩ : ∃ n, (srcs d)[k]? = some n := ⟨_, List.getElem?_eq_getElem hk⟩
      refine ⟨_, rfl, _, rfl, _, _, _, _, rfl, rfl, SqT.of (E4 _ _ hvt), at_of (j := k) rfl (by rw [List.getElem?_map, hV.src k n hn]; rfl), _, rfl, _, rfl, _, rfl, _, _, _, _, rfl, rfl, SqL.of h34, at_of (j := k) rfl (by rw [List.getElem?_map, hn]; rfl), Dc, _, rfl, .inl ⟨es, .inr n, hD, rfl, sz_lt (by omega), rfl⟩, E4.mut nDc, by rw [upd_ne nDl]; exact h34, _, _, upd_same, Nat.le_trans (length_putK _ _ _) (Nat.succ_le_succ hel), ?_, rfl⟩
      rw [take_snoc1 hn]
      exact Holds.put hH n
    rintro σ H4 ⟨E4, h34, es, y4, hD, hel, hH, rfl⟩
    rw [Int.toNat_natCast, hsv] at hel hH
    rw [List.take_length] at hH
    -- the gates
    refine ⟨_, rfl, c, d, it, gt, rt, ot, ga, ra, oa, rfl, hc.te (.of E4), hN, fun ol H5 ord E5 nol hol hT => ?_⟩
    have E05 := E4.trans E5
    have hol16 : ord.length ≤ 16 := by
      have := nodup_len _ _ hT.nd hT.lt
      omega
    have noD : ol ≠ Dc := (ne_of_none hD nol).symm
    refine ⟨ol, rfl, ⟨_, SqL.of hol⟩, for_list (K := K) (a := ol) (xs := natsV ord)
      (fun i σ H' => Ex H H' ∧ H' ol = some (.lst (natsV ord)) ∧ ∃ (es : List (Key × V)) (y4 y5 y6 y7 y8 : Option V), H' Dc = some (.dK es) ∧ es.length ≤ (srcs d).length + i ∧ Holds es (srcs d ++ doneN d (ord.take i)) val ∧ σ = [some (.ref c), some (.ref vt), some (.ref Dc), some (.ref l3), y4, y5, y6, y7, y8, none])
      ⟨E05, hol, es, _, _, _, _, _, E5 _ _ hD, by omega, by rw [show doneN d (ord.take 0) = [] from rfl, List.append_nil]; exact hH, rfl⟩ (fun i σ H' _ g => SqL.of g.2.1) ?_ ?_⟩
    · rintro i y σ H6 hy ⟨E6, hol6, es, y4, y5, y6, y7, y8, hD, hel, hH, rfl⟩
      obtain ⟨k, hk1, rfl⟩ := nats_get hy
      have hkl := hT.lt k (List.mem_of_getElem? hk1)
      rw [hnd] at hkl
      obtain ⟨g, hg⟩ : ∃ g, d.gates[k]? = some g := ⟨_, List.getElem?_eq_getElem hkl⟩
      have hgm := List.mem_of_getElem? hg
      obtain ⟨b, hb, t, pt, rgt, rla, hgt, htab, hpt, _⟩ := hc.gates.of hg
      have hp3 := hN.fewp g hgm
      have hil : i < ord.length := (List.getElem?_eq_some_iff.mp hk1).1
      have hin : ∀ p ∈ g.pins, p ∈ srcs d ++ doneN d (ord.take i) := fun p hp => by
        rcases List.mem_append.mp (hN.pins g hgm p hp) with z | z
        · exact List.mem_append_left _ z
        · refine List.mem_append_right _ ?_
          have hneed : (gnames d).idxOf p ∈ (needN d).getD k [] := by
            unfold needN
            rw [List.getD_eq_getElem?_getD, List.getElem?_map, hg]
            exact List.mem_map.mpr ⟨p, List.mem_filter.mpr ⟨hp, decide_eq_true z⟩, rfl⟩
          have := hT.closed i k hk1 _ hneed
          refine List.mem_map.mpr ⟨_, this, ?_⟩
          rw [List.getD_eq_getElem?_getD, List.getElem?_eq_getElem (List.idxOf_lt_length_iff.mpr z)]
          exact List.getElem_idxOf _
      have hpv : (g.pins.map V.str).length = g.pins.length := List.length_map _
      refine ⟨_, rfl, _, _, _, _, rfl, rfl, SqT.of (E6 _ _ hc.top), atI_nat (j := 1) rfl, _, rfl, gt, _, _, .ref b, rfl, rfl, SqT.of (E6 _ _ hc.gts), at_of (j := k) rfl (by rw [List.getElem?_map, hb]; rfl), ?_⟩
      refine ⟨_, rfl, _, _, _, _, rfl, rfl, SqT.of (E6 _ _ hgt), atI_nat (j := 2) rfl, _, _, rfl, .inr (SqT.of (E6 _ _ hpt)), _, rfl, by omega, by rw [hpv]; omega, for_range (n := (((g.pins.map V.str).length : Nat) : Int).toNat)
        (fun j σ H' => Ex H H' ∧ H' ol = some (.lst (natsV ord)) ∧ H' Dc = some (.dK es) ∧ ∃ y8 : Option V, σ = [some (.ref c), some (.ref vt), some (.ref Dc), some (.ref l3), y4, some (.int (k : Nat)), some (.ref b), some (.int ((sumB (g.pins.map val) j : Nat) : Int)), y8, none])
        ⟨E6, hol6, hD, _, rfl⟩ ?_ ?_⟩
      · rintro j σ H7 hj ⟨E7, hol7, hD7, y8, rfl⟩
        rw [Int.toNat_natCast, hpv] at hj
        rw [Int.zero_add]
        obtain ⟨p, hp⟩ : ∃ p, g.pins[j]? = some p := ⟨_, List.getElem?_eq_getElem hj⟩
        refine ⟨_, rfl, (by show 6 ≤ sizeLine; decide), fun m nm => ?_⟩
        have E8 : Ex H7 (upd H7 m (.lst [.int 1, .int 2, .int 4, .int 8, .int 16, .int 32])) := Ex.new nm
        have hm8 : upd H7 m (.lst [.int 1, .int 2, .int 4, .int 8, .int 16, .int 32]) m = some (.lst [.int 1, .int 2, .int 4, .int 8, .int 16, .int 32]) := upd_same
        generalize upd H7 m (.lst [.int 1, .int 2, .int 4, .int 8, .int 16, .int 32]) = H8 at *
        have E08 := E7.trans E8
        have hpw : (2 : Nat) ^ j ≤ 8 := Nat.le_trans (Nat.pow_le_pow_right (by decide) (show j ≤ 3 by omega)) (by decide)
        refine ⟨_, rfl, _, _, _, _, rfl, rfl, SqL.of hm8, at_of (j := j) rfl (pow6 (by omega)), _, rfl, _, rfl, _, _, _, _, rfl, rfl, SqT.of (E08 _ _ hgt), atI_nat (j := 2) rfl, _, rfl, _, _, _, .str p, rfl, rfl, SqT.of (E08 _ _ hpt), at_of (j := j) rfl (by rw [List.getElem?_map, hp]; rfl), Dc, _, rfl, hH.at_ (E8 _ _ hD7) (hin p (List.mem_of_getElem? hp)), .inr ⟨_, rfl, _, _, rfl, rfl, .inl ⟨Int.lt_of_lt_of_le (by decide) (Int.natCast_nonneg _), Int.lt_of_le_of_lt (Int.ofNat_le.mpr hpw) (by decide)⟩, _, _, rfl, rfl, E08, E8 _ _ hol7, E8 _ _ hD7, some (.int (j : Nat)), ?_⟩⟩
        have eS : sumB (g.pins.map val) (j + 1) = sumB (g.pins.map val) j + if (g.pins.map val).getD j false then 2 ^ j else 0 := rfl
        have eg : (g.pins.map val).getD j false = val p := by rw [List.getD_eq_getElem?_getD, List.getElem?_map, hp]; rfl
        rw [eS, eg]
        cases val p with
        | true => show [_, _, _, _, _, _, _, some (V.int (_ + _ * 1)), _, _] = _; rw [Int.mul_one, if_pos rfl, Int.natCast_add]
        | false => show [_, _, _, _, _, _, _, some (V.int (_ + _ * 0)), _, _] = _; rw [Int.mul_zero, if_neg Bool.false_ne_true, Int.add_zero]; rfl
      · rintro σ H7 ⟨E7, hol7, hD7, y8, rfl⟩
        rw [Int.toNat_natCast, hpv]
        have hlt := sumB_lt (g.pins.map val) g.pins.length
        have htl := hN.tab g hgm
        have hlk : g.tab[sumB (g.pins.map val) g.pins.length]? = some (val g.name) := by
          rw [hV.gate g hgm]
          unfold lookB
          rw [List.length_map, List.getD_eq_getElem?_getD, List.getElem?_eq_getElem (by omega)]; rfl
        refine ⟨_, rfl, _, _, _, _, rfl, rfl, SqT.of (E7 _ _ hgt), atI_nat (j := 1) rfl, _, rfl, _, _, _, .bl (val g.name), rfl, rfl, SqT.of (E7 _ _ htab), at_of (j := sumB (g.pins.map val) g.pins.length) rfl (by rw [List.getElem?_map, hlk]; rfl), _, rfl, _, rfl, _, _, _, _, rfl, rfl, SqT.of (E7 _ _ hgt), atI_nat (j := 0) rfl, Dc, _, rfl, .inl ⟨es, .inr g.name, hD7, rfl, sz_lt (by omega), rfl⟩, E7.mut nDc, by rw [upd_ne noD]; exact hol7, _, _, _, _, _, _, upd_same, Nat.le_trans (length_putK _ _ _) (by omega), ?_, rfl⟩
        have hdn : doneN d (ord.take (i + 1)) = doneN d (ord.take i) ++ [g.name] := by
          unfold doneN
          rw [take_snoc1 hk1, List.map_append]
          show _ ++ [(gnames d).getD k _] = _
          unfold gnames
          rw [List.getD_eq_getElem?_getD, List.getElem?_map, hg]; rfl
        rw [hdn, ← List.append_assoc]
        exact Holds.put hH g.name
    · rintro σ H6 ⟨E6, hol6, es, y4, y5, y6, y7, y8, hD, hel, hH, rfl⟩
      rw [nats_len, List.take_length] at hH
      refine ⟨_, rfl, q Dc es H6 E6 hD (hH.congr fun x => ?_)⟩
      have : x ∈ srcs d ++ doneN d ord ↔ x ∈ srcs d ++ gnames d := by
        rw [List.mem_append, List.mem_append]
        refine or_congr Iff.rfl ⟨fun z => ?_, fun z => ?_⟩
        · obtain ⟨k, hk2, rfl⟩ := List.mem_map.mp z
          have := hT.lt k hk2
          rw [List.getD_eq_getElem?_getD, List.getElem?_eq_getElem (by omega)]
          exact List.getElem_mem _
        · have hlt := List.idxOf_lt_length_iff.mpr z
          refine List.mem_map.mpr ⟨(gnames d).idxOf x, hT.all _ (by omega), ?_⟩
          rw [List.getD_eq_getElem?_getD, List.getElem?_eq_getElem hlt]
          exact List.getElem_idxOf _
      exact this
end
end G
namespace G
open PySem PySem.Spec PyProof.Rows L2 Evl
/-! ## own classes of errors -/
def HasX (P : Program) (w : World) (K : PySem.W.Frag) (mg : Str → Option Value) (base : Heap) (k : Nat) (x : Str) (ps : List Str) (sp : Sp) : Prop :=
  ∃ (f : Addr) (fd : FuncData), FnOk P w K mg base (L2.CX P w) k f fd ps sp ∧ mg x = some (.ref f) ∧ PySem.W.keepIn K (.ref f) = true ∧ Binds K fd ps []
theorem passX0 {X : Cx} {P : Program} {w : World} : Passes (L2.CX P w) X (fun _ _ _ => False) := fun _ _ _ _ _ _ _ h => by
  obtain ⟨_, _, _, _, _, _, _, _, _, _, _, _, h⟩ := h
  exact h.elim
/-- an own class over ValueError without __init__, at C -/
structure ExcT (K : PySem.W.Frag) (mg : Str → Option Value) (x : Str) (C : Addr) : Prop where
  gC : mg x = some (.ref C)
  xP : PySem.W.excIn K C [.type "ValueError", .type "Exception", .type "BaseException", .type "object"] "ValueError.__new__" = true
  kC : PySem.W.keepIn K (.ref C) = true
  bC : PySem.W.subIn K (.ref C) (.type "BaseException") = some true
  tC : PySem.W.typeIn K (.ref C) = some (.type "type")
/-- what an except clause asks of the class that it names -/
structure ExcH (K : PySem.W.Frag) (mg : Str → Option Value) (x : Str) (C : Addr) : Prop where
  u : ExcT K mg x C
  dict : PySem.W.hasDictIn K C = true
  self : PySem.W.subIn K (.ref C) (.ref C) = some true
theorem ExcH.hit {K : PySem.W.Frag} {mg : Str → Option Value} {x : Str} {C : Addr} (U : ExcH K mg x C) : PySem.W.exmOne K (.ref C) (.ref C) = some true := PySem.W.exm_ref U.u.bC U.dict U.u.tC U.self
end G
namespace G
open PySem PySem.Spec PyProof.Rows L2 Evl
/-! ## own errors: caught by name or by a class above, asked for their class -/
structure ExcI (K : PySem.W.Frag) (mg : Str → Option Value) (x : Str) (C : Addr) : Prop where
  u : ExcT K mg x C
  dict : PySem.W.hasDictIn K C = true
  self : PySem.W.subIn K (.ref C) (.ref C) = some true
  isc : ExcC K C
def IsK (K : PySem.W.Frag) (mg : Str → Option Value) (C : Addr) (d : Str) (b : Bool) : Prop := ∃ D : Addr, mg d = some (.ref D) ∧ PySem.W.kitOne K (.ref C) (.ref D) = some b
def CatchK (K : PySem.W.Frag) (mg : Str → Option Value) (C : Addr) (s : Str) : Prop := ∃ D : Addr, mg s = some (.ref D) ∧ PySem.W.exmOne K (.ref C) (.ref D) = some true
theorem ExcI.hit {K : PySem.W.Frag} {mg : Str → Option Value} {x : Str} {C : Addr} (U : ExcI K mg x C) : PySem.W.exmOne K (.ref C) (.ref C) = some true := PySem.W.exm_ref U.u.bC U.dict U.u.tC U.self
theorem IsK.at_ {K : PySem.W.Frag} {mg : Str → Option Value} {C D : Addr} {d : Str} {b : Bool} (h : IsK K mg C d b) (g : mg d = some (.ref D)) : PySem.W.kitOne K (.ref C) (.ref D) = some b := by
  obtain ⟨D', g', k⟩ := h
  rw [g] at g'
  cases g'; exact k
theorem CatchK.at_ {K : PySem.W.Frag} {mg : Str → Option Value} {C D : Addr} {s : Str} (h : CatchK K mg C s) (g : mg s = some (.ref D)) : PySem.W.exmOne K (.ref C) (.ref D) = some true := by
  obtain ⟨D', g', k⟩ := h
  rw [g] at g'
  cases g'; exact k
theorem pe_ex {X : Cx} {e : Expr} {α : Type} {p : α → Prop} {t : α → TE} (h : ∀ x, p x → PE X e (t x)) : PE X e (fun σ H Q => ∃ x, p x ∧ t x σ H Q) := by
  refine ⟨fun ps s σ H Q I z => ?_⟩
  obtain ⟨x, px, hx⟩ := z
  exact (h x px).run ps s σ H Q I hx
/-- isinstance of the error that the suite holds: whichever own error it is -/
theorem pe_isE {X : Cx} {a : Addr} {oe : Obj} {pn : List (Addr × Obj)} {cls : Value} {dd : Option Addr} {e : Expr} {t : Addr → TE} (hz : Zc cls dd oe) (hf : ∃ vs, oe.data = .fields vs)
    (h : ∀ D : Addr, Zc (.ref D) none oe → ExcC X.K D → PE (X.suite a ((a, oe) :: pn)) e (t D)) : PE (X.suite a ((a, oe) :: pn)) e (fun σ H Q => ∃ D : Addr, (cls = .ref D ∧ dd = none ∧ ExcC X.K D) ∧ t D σ H Q) :=
  pe_ex (p := fun D => cls = .ref D ∧ dd = none ∧ ExcC X.K D) fun D z => by
    obtain ⟨rfl, rfl, ic⟩ := z
    exact h D hz ic
/-! ## methods and classes called where what is raised is taken at the slots -/
section
variable {X : Cx} {CX : CXT} {k : Nat} {f C : Addr} {fd : FuncData} {ps : List Str} {sp : Sp} {dvs : List V} {ds : List Value} {E : L2.St → XK} {x m : Str} {p pos apos : Pos} {e o : Expr} {es : List Expr} {to_ : TE} {t : TA}
def tMethX (C : Addr) (m : Str) (sp : Sp) (dvs : List V) (E : L2.St → XK) (to_ : TE) (t : TA) : TE := fun σ H Q => to_ σ H fun x H1 => ∃ a dx fs, x = .ref a ∧ H1 a = some (.ins C dx fs) ∧ fs.lookup m = none ∧ t σ H1 fun vs H2 => sp (x :: (vs ++ dvs)) H2 Q (E σ)
def tMakeX (C : Addr) (sp : Sp) (dvs : List V) (E : L2.St → XK) (t : TA) : TE := fun σ H Q => t σ H fun vs H1 => ∀ x dx, H1 x = none → H1 dx = none → dx ≠ x → sp (.ref x :: (vs ++ dvs)) (upd (upd H1 dx (.own x)) x (.ins C dx [])) (fun v H2 => v = .non ∧ Q (.ref x) H2) (E σ)
theorem pe_methX {pl : Sem Bool} (ho : PE X o to_) (cc : Cls X.K C) (mm : Meth X.K C m f) (Fk : FnOk X.prog X.w X.K X.mg X.base CX k f fd ps sp) (rm : Room k X.A) (bd : Binds X.K fd ps ds) (dv : Vals dvs ds)
    (px : ∀ σ, PassesAt CX X σ (E σ)) (pa : PA X (e :: es) t) (s1 : starEach (e :: es) X.env = (false, eval e X.env) :: starEach es X.env := by rfl) (s2 : (backTo pos (starEach es X.env)).any (·.1) = false := by rfl)
    (s3 : eval (.Call (.Attribute o m apos) (e :: es) [] pos) X.env = (do let ov ← eval o X.env; standAt apos.atName; let (f, first) ← holding [ov] (getMethod ov m pl); callWith pos f first (backTo pos (starEach (e :: es) X.env)) (backToKw pos (keywordEach [] X.env))) := by rfl) :
    PE X (.Call (.Attribute o m apos) (e :: es) [] pos) (tMethX C m sp dvs E to_ t) := by
  refine ⟨fun pins st σ H Q I z => PySem.W.methodCall_KW (pl := pl) (thn (ho.run pins st σ H _ I z) fun q0 st1 ⟨y, H1, I1, ry, b, dx, fl, ey, eb, lk, z1⟩ => ?_) s3⟩
  subst ey
  cases (show q0 = Value.ref b from ry)
  exact getmeth_ok I1 eb cc mm lk (PySem.W.callWith_K (first := [.ref b]) (h₀ := X.base) I.ok.mod.kin mm.kp (thn (pa.run pos pins st1 σ H1 _ I1 z1) fun ws st2 ⟨vs, H2, I2, rs, z2⟩ => ⟨I2.kIn, run_fnSD (us := .ref b :: ws) (vs := .ref b :: vs) Fk rm bd dv (px σ) I2 (.cons rfl rs) z2⟩) s1 s2)
theorem run_makeX {pins : List (Addr × Obj)} {σ : L2.St} {H : Hp} {st : Shared} {Q : VK} {us : List Value} {vs : List V} (M : Mk X.K C f) (Fk : FnOk X.prog X.w X.K X.mg X.base CX k f fd ps sp) (rm : Room (k + 1) X.A) (bd : Binds X.K fd ps ds) (dv : Vals dvs ds)
    (px : PassesAt CX X σ (E σ)) (I : Inv X pins σ H st) (rs : Vals vs us)
    (z : ∀ x dx, H x = none → H dx = none → dx ≠ x → sp (.ref x :: (vs ++ dvs)) (upd (upd H dx (.own x)) x (.ins C dx [])) (fun v H2 => v = .non ∧ Q (.ref x) H2) (E σ)) :
    wpAny (model X.prog X.w) X.A (call (.ref C) us) (EP X pins σ Q) X.xe st := by
  have z1 := z (st.heap.objs.size + 1) st.heap.objs.size (I.hok.fresh (Nat.le_succ _)) (I.hok.fresh (Nat.le_refl _)) (Nat.ne_of_lt (Nat.lt_succ_self _))
  have J := Inv.made (C := C) I
  have rr : Vals (V.ref (st.heap.objs.size + 1) :: (vs ++ dvs)) (Value.ref (st.heap.objs.size + 1) :: (us ++ ds)) := .cons rfl (rs.append dv)
  have len : (Value.ref (st.heap.objs.size + 1) :: us ++ ds).length = ps.length := (rr.length.symm.trans (Fk.len _ _ _ _ z1))
  refine wpAny_call (make_map (f := f) I.kIn M.makes M.init (beq_iff_eq.mp M.fn) (codeAny_mono (Fk.run _ X.stack _ _ ⟨Value.ref (st.heap.objs.size + 1) :: us, []⟩ (Value.ref (st.heap.objs.size + 1) :: (us ++ ds)) _ _ (E σ) (rm.make C us []) (J.env0.make C us []) (bd _ (Value.ref (st.heap.objs.size + 1) :: us) J.kIn len) rr z1) fun r st' h => ?_))
  match r, h with
  | .error er, h => exact px pins _ _ er st' J h
  | .ok (.ret u), h =>
    obtain ⟨v, H', I3, rv, ev, q3⟩ := J.after h
    subst ev
    exact ⟨rv, ⟨V.ref (st.heap.objs.size + 1), H', I3, rfl, q3⟩⟩
  | .ok .next, h => exact h.elim
  | .ok .brk, h => exact h.elim
  | .ok .cont, h => exact h.elim
theorem pe_makeX (M : Mk X.K C f) (Fk : FnOk X.prog X.w X.K X.mg X.base CX k f fd ps sp) (rm : Room (k + 1) X.A) (gl : Gl X x) (gm : X.mg x = some (.ref C)) (bd : Binds X.K fd ps ds) (dv : Vals dvs ds) (px : ∀ σ, PassesAt CX X σ (E σ)) (pa : PA X (e :: es) t)
    (s0 : (x == ("__debug__" : Str)) = false := by decide) (s1 : starEach (e :: es) X.env = (false, eval e X.env) :: starEach es X.env := by rfl) (s2 : (backTo pos (starEach es X.env)).any (·.1) = false := by rfl) : PE X (.Call (.Name x p) (e :: es) [] pos) (tMakeX C sp dvs E t) :=
  ⟨fun pins st σ H Q I z => wpAny_Call_Name_kw (ld_glob I gl gm (PySem.W.callWith_K (h₀ := X.base) I.ok.mod.kin M.kp (thn (pa.run pos pins st σ H _ I z) fun us st1 ⟨vs, H1, I1, r, q⟩ => ⟨I1.kIn, run_makeX M Fk rm bd dv (px σ) I1 r q⟩) s1 s2) s0)⟩
end
end G
namespace G
open PySem PySem.Spec PyProof.Rows L2 Evl TL
theorem kFld {X : Cx} {K : PySem.W.Frag} {e : Expr} {f : Str} {pos : Pos} {ta : TE} (h : X.K = K) (he : PE X e ta) (hb : attributeBase e f X.env (eval e X.env) = eval e X.env) : PE X (.Attribute e f pos) (tFld K ta f) := by subst h; exact pe_fld he hb
end G
namespace G
open PySem PySem.Spec PyProof.Rows L2
structure Cl_Diagrams (K : PySem.W.Frag) (mg : Str → Option Value) (C : Addr) : Prop where
  gC : mg "Diagrams" = some (.ref C)
  cl : Cls K C
  m_init : ∃ (f : Addr) (fd : FuncData), Mk K C f ∧ Fun K "__init__" "Diagrams.__init__" s_Diagrams_init f fd ∧ Binds K fd ["self"] []
  m_variable : ∃ (f : Addr) (fd : FuncData), Meth K C "variable" f ∧ Fun K "variable" "Diagrams.variable" s_Diagrams_variable f fd ∧ Binds K fd ["self", "k"] []
  m_choose : ∃ (f : Addr) (fd : FuncData), Meth K C "choose" f ∧ Fun K "choose" "Diagrams.choose" s_Diagrams_choose f fd ∧ Binds K fd ["self", "c", "a", "b"] []
  m_applied : ∃ (f : Addr) (fd : FuncData), Meth K C "applied" f ∧ Fun K "applied" "Diagrams.applied" s_Diagrams_applied f fd ∧ Binds K fd ["self", "table", "references"] []
  m_value : ∃ (f : Addr) (fd : FuncData), Meth K C "value" f ∧ Fun K "value" "Diagrams.value" s_Diagrams_value f fd ∧ Binds K fd ["self", "a", "bits"] []
  m_node : ∃ (f : Addr) (fd : FuncData), Meth K C "_node" f ∧ Fun K "_node" "Diagrams._node" s_Diagrams_node f fd ∧ Binds K fd ["self", "k", "low", "high"] []
  m_half : ∃ (f : Addr) (fd : FuncData), Meth K C "_half" f ∧ Fun K "_half" "Diagrams._half" s_Diagrams_half f fd ∧ Binds K fd ["self", "a", "k", "value"] []
  m_known_choice : ∃ (f : Addr) (fd : FuncData), Meth K C "_known_choice" f ∧ Fun K "_known_choice" "Diagrams._known_choice" s_Diagrams_known_choice f fd ∧ Binds K fd ["self", "task"] []
  n_nodes : NoAttr K C "_nodes"
  n_places : NoAttr K C "_places"
  n_chosen : NoAttr K C "_chosen"
end G
namespace G
open PySem PySem.Spec PyProof.Rows L2 Evl TL
/-! ## diagrams as objects -/
theorem szM {n : Nat} (h : n ≤ 9000000) : n < sizeLine := Nat.lt_of_le_of_lt h (by decide)
theorem szM' {n : Nat} (h : n ≤ 9000100) : n < sizeLine := Nat.lt_of_le_of_lt h (by decide)
theorem dne1 : ¬ (("_nodes" : Str) = "_chosen") := by decide +kernel
theorem dne2 : ¬ (("_nodes" : Str) = "_places") := by decide +kernel
theorem dne3 : ¬ (("_places" : Str) = "_chosen") := by decide +kernel
def dfl (nl pl ch : Addr) : List (Str × V) := putF "_chosen" (.ref ch) (putF "_places" (.ref pl) (putF "_nodes" (.ref nl) []))
theorem dfl_n (nl pl ch : Addr) : (dfl nl pl ch).lookup ("_nodes" : Str) = some (.ref nl) := by unfold dfl; rw [lookup_putF, if_neg dne1, lookup_putF, if_neg dne2, lookup_putF, if_pos rfl]
theorem dfl_p (nl pl ch : Addr) : (dfl nl pl ch).lookup ("_places" : Str) = some (.ref pl) := by unfold dfl; rw [lookup_putF, if_neg dne3, lookup_putF, if_pos rfl]
theorem dfl_c (nl pl ch : Addr) : (dfl nl pl ch).lookup ("_chosen" : Str) = some (.ref ch) := by unfold dfl; rw [lookup_putF, if_pos rfl]
theorem dfl_no (nl pl ch : Addr) {m : Str} (h1 : ¬ m = "_chosen") (h2 : ¬ m = "_places") (h3 : ¬ m = "_nodes") : (dfl nl pl ch).lookup m = none := by
  unfold dfl; rw [lookup_putF, if_neg h1, lookup_putF, if_neg h2, lookup_putF, if_neg h3]; rfl
def NdAt (H : Hp) (a : Addr) (n : Nd) : Prop := H a = some (.tup [.int (n.k : Nat), .int (n.lo : Nat), .int (n.hi : Nat)])
def TkAt (H : Hp) (a : Addr) (τ : Tsk) : Prop := H a = some (.tup [.int (τ.c : Nat), .int (τ.a : Nat), .int (τ.b : Nat)])
def keyN (n : Nd) : List Key := [.inl (n.k : Nat), .inl (n.lo : Nat), .inl (n.hi : Nat)]
def keyT (τ : Tsk) : List Key := [.inl (τ.c : Nat), .inl (τ.a : Nat), .inl (τ.b : Nat)]
theorem keyN_inj {n m : Nd} (h : keyN n = keyN m) : n = m := by
  obtain ⟨a, b, c⟩ := n
  obtain ⟨a', b', c'⟩ := m
  unfold keyN at h
  injection h with h1 h2
  injection h2 with h2 h3
  injection h3 with h3 _
  injection h1 with h1
  injection h2 with h2
  injection h3 with h3
  have h1 : (a : Int) = (a' : Int) := h1
  have h2 : (b : Int) = (b' : Int) := h2
  have h3 : (c : Int) = (c' : Int) := h3
  rw [show a = a' by omega, show b = b' by omega, show c = c' by omega]
theorem keyT_inj {n m : Tsk} (h : keyT n = keyT m) : n = m := by
  obtain ⟨a, b, c⟩ := n
  obtain ⟨a', b', c'⟩ := m
  unfold keyT at h
  injection h with h1 h2
  injection h2 with h2 h3
  injection h3 with h3 _
  injection h1 with h1
  injection h2 with h2
  injection h3 with h3
  have h1 : (a : Int) = (a' : Int) := h1
  have h2 : (b : Int) = (b' : Int) := h2
  have h3 : (c : Int) = (c' : Int) := h3
  rw [show a = a' by omega, show b = b' by omega, show c = c' by omega]
def PlOk (es : List (List Key × V)) (N : List Nd) : Prop := ∀ n : Nd, (∃ i : Nat, 2 ≤ i ∧ N[i]? = some n ∧ valV es (keyN n) = some (.int (i : Nat))) ∨ ((∀ i, 2 ≤ i → N[i]? ≠ some n) ∧ valV es (keyN n) = none)
def MemAt (cs : List (List Key × V)) (M : Tsk → Option Nat) : Prop := ∀ τ, valV cs (keyT τ) = (M τ).map fun r : Nat => V.int (r : Int)
def putM (M : Tsk → Option Nat) (τ : Tsk) (r : Nat) : Tsk → Option Nat := fun σ => if σ = τ then some r else M σ
theorem MemAt.put {cs : List (List Key × V)} {M : Tsk → Option Nat} (h : MemAt cs M) (τ : Tsk) (r : Nat) : MemAt (putK cs (keyT τ) (.int (r : Nat))) (putM M τ r) := fun σ => by
  rw [valV_put]
  unfold putM
  by_cases e : σ = τ
  · rw [if_pos e, if_pos (by rw [e])]; rfl
  · rw [if_neg e, if_neg fun z => e (keyT_inj z)]; exact h σ
structure Dg (C : Addr) (vs : List Nat) (cl : Nat) (H : Hp) (x nl pl ch : Addr) (N : List Nd) (M : Tsk → Option Nat) : Prop where
  ob : ∃ dx, H x = some (.ins C dx (dfl nl pl ch))
  nodes : ∃ na : List Addr, H nl = some (.lst (na.map V.ref)) ∧ All2 (NdAt H) na N
  fpl : ∃ es, H pl = some (.dT es) ∧ PlOk es N ∧ es.length ≤ N.length
  fch : ∃ cs, H ch = some (.dT cs) ∧ MemAt cs M ∧ cs.length ≤ cl
  good : GoodN N
  mem : MemOk N M
  vars : VarsIn vs N
  ne : pl ≠ ch
def TupEx (H H' : Hp) : Prop := ∀ (b : Addr) (xs : List V), H b = some (.tup xs) → H' b = some (.tup xs)
theorem TupEx.of {H H' : Hp} (e : Ex H H') : TupEx H H' := fun b xs h => e b _ h
theorem TupEx.trans {H H1 H2 : Hp} (a : TupEx H H1) (b : TupEx H1 H2) : TupEx H H2 := fun c xs h => b c xs (a c xs h)
theorem TupEx.put {H : Hp} {b : Addr} {o o' : HO} (h : H b = some o) (hn : ∀ xs, o ≠ .tup xs) : TupEx H (upd H b o') := fun c xs hc => by
  rw [upd_ne fun z => by subst z; rw [h] at hc; cases hc; exact hn xs rfl]; exact hc
theorem Dg.keep {C : Addr} {vs : List Nat} {cl : Nat} {H H' : Hp} {x nl pl ch : Addr} {N : List Nd} {M : Tsk → Option Nat} (h : Dg C vs cl H x nl pl ch N M) (k : ∀ b o, (b = x ∨ b = nl ∨ b = pl ∨ b = ch) → H b = some o → H' b = some o) (t : TupEx H H') : Dg C vs cl H' x nl pl ch N M := by
  obtain ⟨⟨dx, h1⟩, ⟨na, h2, h3⟩, ⟨es, h4, h5, h6⟩, ⟨cs, h7, h8, h9⟩, g, m, v, ne⟩ := h
  exact ⟨⟨dx, k _ _ (.inl rfl) h1⟩, ⟨na, k _ _ (.inr (.inl rfl)) h2, h3.imp fun _ _ z => t _ _ z⟩, ⟨es, k _ _ (.inr (.inr (.inl rfl))) h4, h5, h6⟩, ⟨cs, k _ _ (.inr (.inr (.inr rfl))) h7, h8, h9⟩, g, m, v, ne⟩
theorem Dg.ex {C : Addr} {vs : List Nat} {cl : Nat} {H H' : Hp} {x nl pl ch : Addr} {N : List Nd} {M : Tsk → Option Nat} (h : Dg C vs cl H x nl pl ch N M) (e : Ex H H') : Dg C vs cl H' x nl pl ch N M := h.keep (fun b o _ z => e b o z) (.of e)
theorem Dg.cl_le {C : Addr} {vs : List Nat} {cl cl' : Nat} {H : Hp} {x nl pl ch : Addr} {N : List Nd} {M : Tsk → Option Nat} (h : Dg C vs cl H x nl pl ch N M) (l : cl ≤ cl') : Dg C vs cl' H x nl pl ch N M := by
  obtain ⟨h1, h2, h3, ⟨cs, h7, h8, h9⟩, g, m, v, ne⟩ := h
  exact ⟨h1, h2, h3, ⟨cs, h7, h8, Nat.le_trans h9 l⟩, g, m, v, ne⟩
/-- all but the three that a diagram's object changes is kept -/
def Kp (nl pl ch : Addr) (H H' : Hp) : Prop := ∀ b o, H b = some o → b ≠ nl → b ≠ pl → b ≠ ch → H' b = some o
section
variable {nl pl ch : Addr} {H H1 H2 H' : Hp}
theorem Kp.refl : Kp nl pl ch H H := fun _ _ h _ _ _ => h
theorem Kp.of (e : Ex H H') : Kp nl pl ch H H' := fun b o h _ _ _ => e b o h
theorem Kp.trans (a : Kp nl pl ch H H1) (b : Kp nl pl ch H1 H2) : Kp nl pl ch H H2 := fun c o h n1 n2 n3 => b c o (a c o h n1 n2 n3) n1 n2 n3
theorem Kp.more (a : Kp nl pl ch H H1) (e : Ex H1 H2) : Kp nl pl ch H H2 := a.trans (.of e)
theorem Kp.mut (a : Kp nl pl ch H H1) {l : Addr} {o : HO} (n : H l = none) : Kp nl pl ch H (upd H1 l o) := fun c q h n1 n2 n3 => by
  rw [upd_ne fun z => by rw [z, n] at h; cases h]; exact a c q h n1 n2 n3
theorem Kp.own {b : Addr} {o : HO} (h : b = nl ∨ b = pl ∨ b = ch) : Kp nl pl ch H (upd H b o) := fun c q hc n1 n2 n3 => by
  rw [upd_ne fun z => by subst z; rcases h with e | e | e <;> contradiction]; exact hc
theorem Kp.free (a : Kp nl pl ch H H1) (h1 : H nl ≠ none → H1 nl ≠ none) (h2 : H pl ≠ none → H1 pl ≠ none) (h3 : H ch ≠ none → H1 ch ≠ none) {b : Addr} (n : H1 b = none) : H b = none := by
  cases e : H b with
  | none => rfl
  | some o =>
    exfalso
    by_cases z1 : b = nl
    · subst z1; exact h1 (by rw [e]; exact fun z => nomatch z) n
    · by_cases z2 : b = pl
      · subst z2; exact h2 (by rw [e]; exact fun z => nomatch z) n
      · by_cases z3 : b = ch
        · subst z3; exact h3 (by rw [e]; exact fun z => nomatch z) n
        · rw [a b o e z1 z2 z3] at n; cases n
end
theorem Dg.free {C : Addr} {vs : List Nat} {cl : Nat} {H H1 : Hp} {x nl pl ch : Addr} {N : List Nd} {M : Tsk → Option Nat} (d : Dg C vs cl H1 x nl pl ch N M) (k : Kp nl pl ch H H1) {b : Addr} (n : H1 b = none) : H b = none := by
  obtain ⟨na, h2, _⟩ := d.nodes
  obtain ⟨es, h4, _⟩ := d.fpl
  obtain ⟨cs, h7, _⟩ := d.fch
  exact k.free (fun _ => by rw [h2]; exact fun z => nomatch z) (fun _ => by rw [h4]; exact fun z => nomatch z) (fun _ => by rw [h7]; exact fun z => nomatch z) n
theorem Dg.tup {C : Addr} {vs : List Nat} {cl : Nat} {H H1 : Hp} {x nl pl ch : Addr} {N : List Nd} {M : Tsk → Option Nat} (d : Dg C vs cl H x nl pl ch N M) (k : Kp nl pl ch H H1) : TupEx H H1 := fun b xs h => by
  obtain ⟨na, h2, _⟩ := d.nodes
  obtain ⟨es, h4, _⟩ := d.fpl
  obtain ⟨cs, h7, _⟩ := d.fch
  exact k b _ h (fun z => by rw [z, h2] at h; cases h) (fun z => by rw [z, h4] at h; cases h) (fun z => by rw [z, h7] at h; cases h)
theorem Dg.nd {C : Addr} {vs : List Nat} {cl : Nat} {H : Hp} {x nl pl ch : Addr} {N : List Nd} {M : Tsk → Option Nat} (d : Dg C vs cl H x nl pl ch N M) {a : Nat} (ha : a < N.length) : ∃ (na : List Addr) (b : Addr), H nl = some (.lst (na.map V.ref)) ∧ (na.map V.ref)[a]? = some (.ref b) ∧ NdAt H b (ndA N a) := by
  obtain ⟨na, h2, h3⟩ := d.nodes
  obtain ⟨b, hb, h⟩ := h3.of (nd_at ha)
  exact ⟨na, b, h2, by rw [List.getElem?_map, hb]; rfl, h⟩
def optV : Option Nat → V
  | none => .non
  | some r => .int (r : Nat)
structure TxtG (mg : Str → Option Value) : Prop where
  fF : ∃ t, mg "FALSE" = some (.int 0 t)
  tT : ∃ t, mg "TRUE" = some (.int 1 t)
  min : mg "min" = none
  tuple : mg "tuple" = none
  len : mg "len" = none
section
variable {P : Program} {w : World} {K : PySem.W.Frag} {mg : Str → Option Value} {base : Heap} {C : Addr}
def spHalf (C : Addr) : Sp := fun vs H Q _ => ∃ (x nl pl ch : Addr) (N : List Nd) (M : Tsk → Option Nat) (us : List Nat) (cl a k : Nat) (v : Bool), vs = [.ref x, .int (a : Nat), .int (k : Nat), .bl v] ∧ Dg C us cl H x nl pl ch N M ∧ a < N.length ∧ Q (.int (halfA N a k v : Nat)) H
theorem sc_Diagrams_half : FnScope ["self", "a", "k", "value", "top", "low", "high"] ["self", "a", "k", "value"] (defScope s_Diagrams_half) := ⟨rfl, rfl, rfl, by decide +kernel, rfl, by decide +kernel, by decide +kernel⟩
theorem ok_Diagrams_half {f : Addr} {fd : FuncData} (F : Fun K "_half" "Diagrams._half" s_Diagrams_half f fd) (W : Cl_Diagrams K mg C) (T : TxtG mg) : FnOk P w K mg base CX0 1 f fd ["self", "a", "k", "value"] (spHalf C) := by
  obtain ⟨tT, g_TRUE⟩ := T.tT
  refine F.ok sc_Diagrams_half (fun vs H Q E h => ?_) (fun cdv A outer s H vs Q E hr h => ?_)
  · obtain ⟨x, nl, pl, ch, N, M, us, cl, a, k, v, rfl, _⟩ := h
    rfl
  · obtain ⟨x, nl, pl, ch, N, M, us, cl, a, k, v, rfl, D, ha, q⟩ := h
    refine ⟨_, (pss_cons (ps_asg (pe_ix ix_list (pe_fld (pv 0) rfl) (pv 1) (fun _ _ => rfl)) (pg_tup rfl (pgs_cons (pg_name (i := 4) sc_Diagrams_half.nd rfl (.inl rfl)) (pgs_cons (pg_name (i := 5) sc_Diagrams_half.nd rfl (.inl rfl)) (pgs_cons (pg_name (i := 6) sc_Diagrams_half.nd rfl (.inl rfl)) pgs_nil)))))
    (pss_cut (ps_if (PW.pt (pw_or (pt_cmpR op_le (pv 1) (gInt rfl g_TRUE) (nomark _)) (pw_or1 (pt_cmpR op_ne (pv 4) (pv 2) (nomark _)))))
      (pss_one (ps_ret (pv 1)))
      pss_nil)
    (pss_one (ps_ret (pe_ifExp (pt_val (pv 3)) (pv 6) (pv 5)))))), ?_⟩
    obtain ⟨dx, h1⟩ := D.ob
    obtain ⟨na, b, h2, hb, hn⟩ := D.nd ha
    refine ⟨_, rfl, x, C, dx, _, _, rfl, h1, W.cl, W.n_nodes, dfl_n _ _ _, _, rfl, _, _, _, _, rfl, rfl, SqL.of h2, at_of (j := a) rfl hb, b, _, rfl, SqT.of hn, rfl, _, _, rfl, _, _, rfl, _, _, rfl, rfl, ?_⟩
    refine ⟨fun σ H' => H' = H ∧ ¬ (a < 2 ∨ (ndA N a).k ≠ k) ∧ σ = [some (.ref x), some (.int (a : Nat)), some (.int (k : Nat)), some (.bl v), some (.int ((ndA N a).k : Nat)), some (.int ((ndA N a).lo : Nat)), some (.int ((ndA N a).hi : Nat))], ?_, ?_⟩
    · have yes : (a < 2 ∨ (ndA N a).k ≠ k) → Q (.int (a : Nat)) H := fun z => by
        unfold halfA at q; rw [if_pos z] at q; exact q
      refine ⟨_, rfl, _, _, rfl, rfl, _, rfl, ite2 (fun c1 => ?_) (fun c1 => ⟨_, rfl, _, rfl, rfl, _, rfl, ite2 (fun c2 => ?_) (fun c2 => ?_)⟩)⟩
      · exact iteT ⟨_, rfl, yes (.inl (by have := of_decide_eq_true c1; omega))⟩
      · exact ⟨_, rfl, yes (.inr fun z => by rw [z] at c2; simp at c2)⟩
      · refine ⟨rfl, fun z => ?_, rfl⟩
        rcases z with z | z
        · exact c1 (decide_eq_true (by omega))
        · refine c2 ?_
          have : ¬ (V.int ((ndA N a).k : Nat) = V.int (k : Nat)) := fun y => z (by injection y; omega)
          rw [decide_eq_false this]; rfl
    · rintro σ H' ⟨rfl, hno, rfl⟩
      unfold halfA at q
      rw [if_neg hno] at q
      refine ⟨_, rfl, _, rfl, ite2 (fun c1 => ?_) (fun c1 => ?_)⟩
      · exact ⟨_, rfl, by rw [if_pos c1] at q; exact q⟩
      · exact ⟨_, rfl, by rw [if_neg c1] at q; exact q⟩
def spKnown (C : Addr) : Sp := fun vs H Q _ => ∃ (x nl pl ch : Addr) (N : List Nd) (M : Tsk → Option Nat) (us : List Nat) (cl : Nat) (ta : Addr) (τ : Tsk), vs = [.ref x, .ref ta] ∧ Dg C us cl H x nl pl ch N M ∧ TkAt H ta τ ∧ Q (optV (knB τ (M τ))) H
theorem sc_Diagrams_known_choice : FnScope ["self", "task", "c", "a", "b"] ["self", "task"] (defScope s_Diagrams_known_choice) := ⟨rfl, rfl, rfl, by decide +kernel, rfl, by decide +kernel, by decide +kernel⟩
theorem ok_Diagrams_known_choice {f : Addr} {fd : FuncData} (F : Fun K "_known_choice" "Diagrams._known_choice" s_Diagrams_known_choice f fd) (W : Cl_Diagrams K mg C) (T : TxtG mg) : FnOk P w K mg base CX0 1 f fd ["self", "task"] (spKnown C) := by
  obtain ⟨tT, g_TRUE⟩ := T.tT
  obtain ⟨tF, g_FALSE⟩ := T.fF
  refine F.ok sc_Diagrams_known_choice (fun vs H Q E h => ?_) (fun cdv A outer s H vs Q E hr h => ?_)
  · obtain ⟨x, nl, pl, ch, N, M, us, cl, ta, τ, rfl, _⟩ := h
    rfl
  · obtain ⟨x, nl, pl, ch, N, M, us, cl, ta, τ, rfl, D, ht, q⟩ := h
    refine ⟨_, (pss_cons (ps_asg (pv 1) (pg_tup rfl (pgs_cons (pg_name (i := 2) sc_Diagrams_known_choice.nd rfl (.inl rfl)) (pgs_cons (pg_name (i := 3) sc_Diagrams_known_choice.nd rfl (.inl rfl)) (pgs_cons (pg_name (i := 4) sc_Diagrams_known_choice.nd rfl (.inl rfl)) pgs_nil)))))
    (pss_cut (ps_if (PW.pt (pw_or (pt_cmpR op_eq (pv 2) (gInt rfl g_TRUE) (nomark _)) (pw_or1 (pt_cmpR op_eq (pv 3) (pv 4) (nomark _)))))
      (pss_one (ps_ret (pv 3)))
      pss_nil)
    (pss_cons (ps_if (pt_cmpR op_eq (pv 2) (gInt rfl g_FALSE) (nomark _))
      (pss_one (ps_ret (pv 4)))
      pss_nil)
    (pss_cut (ps_if (PW.pt (pw_and (PW.pt (pw_or (pt_cmpR op_eq (pv 3) (gInt rfl g_TRUE) (nomark _)) (pw_or1 (pt_cmpR op_eq (pv 3) (pv 2) (nomark _))))) (pw_and1 (PW.pt (pw_or (pt_cmpR op_eq (pv 4) (gInt rfl g_FALSE) (nomark _)) (pw_or1 (pt_cmpR op_eq (pv 4) (pv 2) (nomark _))))))))
      (pss_one (ps_ret (pv 2)))
      pss_nil)
    (pss_one (ps_ret (pe_dget1 (hu_of hr) (pe_fld (pv 0) rfl) (pv 1) ⟨rfl, rfl, rfl, rfl⟩))))))), ?_⟩
    obtain ⟨dx, h1⟩ := D.ob
    obtain ⟨cs, h7, h8, h9⟩ := D.fch
    have eqI : ∀ {i j : Nat}, decide (V.int (i : Nat) = V.int (j : Nat)) = decide (i = j) := fun {i j} => by
      rw [Bool.eq_iff_iff, decide_eq_true_iff, decide_eq_true_iff]
      exact ⟨fun z => by injection z; omega, fun z => by rw [z]⟩
    have eq1 : ∀ {i : Nat}, decide (V.int (i : Nat) = V.int 1) = decide (i = 1) := fun {i} => eqI (i := i) (j := 1)
    have eq0 : ∀ {i : Nat}, decide (V.int (i : Nat) = V.int 0) = decide (i = 0) := fun {i} => eqI (i := i) (j := 0)
    unfold knB at q
    refine ⟨_, rfl, ta, _, rfl, SqT.of ht, rfl, _, _, rfl, _, _, rfl, _, _, rfl, rfl, ?_⟩
    refine ⟨fun σ H' => H' = H ∧ ¬ (τ.c = 1 ∨ τ.a = τ.b) ∧ σ = [some (.ref x), some (.ref ta), some (.int (τ.c : Nat)), some (.int (τ.a : Nat)), some (.int (τ.b : Nat))], ?_, ?_⟩
    · have yes : (τ.c = 1 ∨ τ.a = τ.b) → Q (.int (τ.a : Nat)) H := fun z => by rw [if_pos z] at q; exact q
      refine ⟨_, rfl, rfl, _, rfl, ite2 (fun c1 => ?_) (fun c1 => ⟨_, rfl, _, rfl, rfl, _, rfl, ite2 (fun c2 => ?_) (fun c2 => ?_)⟩)⟩
      · rw [eq1] at c1
        exact iteT ⟨_, rfl, yes (.inl (of_decide_eq_true c1))⟩
      · rw [eqI] at c2
        exact ⟨_, rfl, yes (.inr (of_decide_eq_true c2))⟩
      · rw [eq1] at c1
        rw [eqI] at c2
        exact ⟨rfl, fun z => z.elim (fun y => c1 (decide_eq_true y)) fun y => c2 (decide_eq_true y), rfl⟩
    rintro σ H' ⟨rfl, hno, rfl⟩
    rw [if_neg hno] at q
    refine ⟨_, rfl, rfl, _, rfl, ite2 (fun c1 => ?_) (fun c1 => ?_)⟩
    · rw [eq0] at c1
      rw [if_pos (of_decide_eq_true c1)] at q
      exact ⟨_, rfl, q⟩
    · rw [eq0] at c1
      rw [if_neg fun z => c1 (decide_eq_true z)] at q
      refine ⟨fun σ H2 => H2 = H' ∧ ¬ ((τ.a = 1 ∨ τ.a = τ.c) ∧ (τ.b = 0 ∨ τ.b = τ.c)) ∧ σ = [some (.ref x), some (.ref ta), some (.int (τ.c : Nat)), some (.int (τ.a : Nat)), some (.int (τ.b : Nat))], ?_, ?_⟩
      · have yes : ((τ.a = 1 ∨ τ.a = τ.c) ∧ (τ.b = 0 ∨ τ.b = τ.c)) → Q (.int (τ.c : Nat)) H' := fun z => by rw [if_pos z] at q; exact q
        refine ⟨_, rfl, rfl, _, rfl, ite2 (fun c2 => ?_) (fun c2 => ⟨_, rfl, _, rfl, rfl, _, rfl, ite2 (fun c3 => ?_) (fun c3 => ?_)⟩)⟩
        · rw [eq1] at c2
          refine iteT ⟨_, rfl, rfl, _, rfl, ite2 (fun d1 => ?_) (fun d1 => ⟨_, rfl, _, rfl, rfl, _, rfl, ite2 (fun d2 => ?_) (fun d2 => ?_)⟩)⟩
          · rw [eq0] at d1
            exact iteT ⟨_, rfl, yes ⟨.inl (of_decide_eq_true c2), .inl (of_decide_eq_true d1)⟩⟩
          · rw [eqI] at d2
            exact ⟨_, rfl, yes ⟨.inl (of_decide_eq_true c2), .inr (of_decide_eq_true d2)⟩⟩
          · rw [eq0] at d1
            rw [eqI] at d2
            exact ⟨rfl, fun z => z.2.elim (fun y => d1 (decide_eq_true y)) fun y => d2 (decide_eq_true y), rfl⟩
        · rw [eqI] at c3
          refine ⟨_, rfl, rfl, _, rfl, ite2 (fun d1 => ?_) (fun d1 => ⟨_, rfl, _, rfl, rfl, _, rfl, ite2 (fun d2 => ?_) (fun d2 => ?_)⟩)⟩
          · rw [eq0] at d1
            exact iteT ⟨_, rfl, yes ⟨.inr (of_decide_eq_true c3), .inl (of_decide_eq_true d1)⟩⟩
          · rw [eqI] at d2
            exact ⟨_, rfl, yes ⟨.inr (of_decide_eq_true c3), .inr (of_decide_eq_true d2)⟩⟩
          · rw [eq0] at d1
            rw [eqI] at d2
            exact ⟨rfl, fun z => z.2.elim (fun y => d1 (decide_eq_true y)) fun y => d2 (decide_eq_true y), rfl⟩
        · rw [eq1] at c2
          rw [eqI] at c3
          exact iteF ⟨rfl, fun z => z.1.elim (fun y => c2 (decide_eq_true y)) fun y => c3 (decide_eq_true y), rfl⟩
      · rintro σ H2 ⟨rfl, hno2, rfl⟩
        rw [if_neg hno2] at q
        have g := DGet.t (k := keyT τ) h7 ht
        have e : (valV cs (keyT τ)).getD .non = optV (M τ) := by rw [h8]; cases M τ <;> rfl
        refine ⟨_, rfl, x, C, dx, _, _, rfl, h1, W.cl, W.n_chosen, dfl_c _ _ _, ch, rfl, .inr ⟨_, .inl h7⟩, _, rfl, _, g, ?_⟩
        rw [e]
        exact q
/-! ### a node more -/
theorem valN_put {es : List (List Key × V)} {n m : Nd} {v : V} : valV (putK es (keyN n) v) (keyN m) = if m = n then some v else valV es (keyN m) := by
  rw [valV_put]
  by_cases e : m = n
  · rw [if_pos e, if_pos (by rw [e])]
  · rw [if_neg e, if_neg fun z => e (keyN_inj z)]
theorem PlOk.snoc {es : List (List Key × V)} {N : List Nd} {n : Nd} (h : PlOk es N) (two : 2 ≤ N.length) : PlOk (putK es (keyN n) (.int (N.length : Nat))) (N ++ [n]) := fun m => by
  rw [valN_put]
  by_cases e : m = n
  · subst e
    rw [if_pos rfl]
    exact .inl ⟨N.length, two, by rw [List.getElem?_append_right (Nat.le_refl _), Nat.sub_self]; rfl, rfl⟩
  · rw [if_neg e]
    rcases h m with ⟨i, h1, h2, h3⟩ | ⟨h1, h2⟩
    · exact .inl ⟨i, h1, by rw [List.getElem?_append_left (List.getElem?_eq_some_iff.mp h2).1]; exact h2, h3⟩
    · refine .inr ⟨fun i hi z => ?_, h2⟩
      by_cases hl : i < N.length
      · rw [List.getElem?_append_left hl] at z; exact h1 i hi z
      · have := (List.getElem?_eq_some_iff.mp z).1
        rw [List.length_append] at this
        have : i < N.length + 1 := this
        obtain rfl : i = N.length := by omega
        rw [List.getElem?_append_right (Nat.le_refl _), Nat.sub_self] at z
        cases z
        exact e rfl
def spNode (C : Addr) : Sp := fun vs H Q _ => ∃ (x nl pl ch : Addr) (N : List Nd) (M : Tsk → Option Nat) (us : List Nat) (cl k lo hi : Nat), vs = [.ref x, .int (k : Nat), .int (lo : Nat), .int (hi : Nat)] ∧ Dg C us cl H x nl pl ch N M ∧ k ∈ us ∧ lo < N.length ∧ hi < N.length ∧ lvGe N (k + 1) lo ∧ lvGe N (k + 1) hi ∧ N.length ≤ 9000000 ∧
  ∀ (r : Nat) (N' : List Nd) (H' : Hp), Kp nl pl ch H H' → Dg C us cl H' x nl pl ch N' M → N <+: N' → N'.length ≤ N.length + 1 → r < N'.length → (∀ f, ev N' r f = if f k = true then ev N hi f else ev N lo f) → Q (.int (r : Nat)) H'
theorem sc_Diagrams_node : FnScope ["self", "k", "low", "high", "key"] ["self", "k", "low", "high"] (defScope s_Diagrams_node) := ⟨rfl, rfl, rfl, by decide +kernel, rfl, by decide +kernel, by decide +kernel⟩
theorem ok_Diagrams_node {f : Addr} {fd : FuncData} (F : Fun K "_node" "Diagrams._node" s_Diagrams_node f fd) (W : Cl_Diagrams K mg C) (T : TxtG mg) : FnOk P w K mg base CX0 1 f fd ["self", "k", "low", "high"] (spNode C) := by
  refine F.ok sc_Diagrams_node (fun vs H Q E h => ?_) (fun cdv A outer s H vs Q E hr h => ?_)
  · obtain ⟨x, nl, pl, ch, N, M, us, cl, k, lo, hi, rfl, _⟩ := h
    rfl
  · obtain ⟨x, nl, pl, ch, N, M, us, cl, k, lo, hi, rfl, D, hk, hlo, hhi, v1, v2, hn, q⟩ := h
    refine ⟨_, (pss_cons (ps_if (pt_cmpR op_eq (pv 2) (pv 3) (nomark _))
      (pss_one (ps_ret (pv 2)))
      pss_nil)
    (pss_cons (ps_set (i := 4) sc_Diagrams_node.nd rfl (.inl rfl) (pe_tup (pa_cons (pv 1) (pa_cons (pv 2) (pa_cons (pv 3) pa_nil)))))
    (pss_cut (ps_if (pt_cmp (pc_dnotin (hu_of hr) (pv 4) (pe_fld (pv 0) rfl)))
      (pss_cons (ps_asg (pe_callB call_len_seq (by rfl) T.len (by decide +kernel) (pa_cons (pe_fld (pv 0) rfl) pa_nil)) (pg_sub (pe_fld (pv 0) rfl) (pv 4) (set_dict (hu_of hr))))
      (pss_one (ps_expr (pe_bm PySem.F.plainAttrs_list PySem.F.slot_list_append PySem.F.type_list_append mt_append (pe_fld (pv 0) rfl) (pa_cons (pv 4) pa_nil)))))
      pss_nil)
    (pss_one (ps_ret (pe_dget (hu_of hr) (pe_fld (pv 0) rfl) (pv 4) (fun _ _ => rfl))))))), ?_⟩
    have G0 := D.good
    have two := G0.two
    refine ⟨_, rfl, _, rfl, rfl, _, rfl, ite2 (fun c1 => ?_) (fun c1 => ?_)⟩
    · have e : lo = hi := by have := of_decide_eq_true c1; injection this; omega
      subst e
      exact ⟨_, rfl, q lo N H .refl D (List.prefix_refl _) (Nat.le_succ _) hlo fun f => by by_cases z : f k = true <;> simp [z]⟩
    · have hne : lo ≠ hi := fun z => c1 (by rw [z]; exact decide_eq_true rfl)
      refine ⟨_, rfl, _, rfl, _, rfl, (by show 3 ≤ sizeLine; decide), fun kt nkt => ?_⟩
      have E1 : Ex H (upd H kt (.tup [.int (k : Nat), .int (lo : Nat), .int (hi : Nat)])) := Ex.new nkt
      have hkt : NdAt (upd H kt (.tup [.int (k : Nat), .int (lo : Nat), .int (hi : Nat)])) kt ⟨k, lo, hi⟩ := upd_same
      have D1 := D.ex E1
      generalize upd H kt (.tup [.int (k : Nat), .int (lo : Nat), .int (hi : Nat)]) = H1 at *
      obtain ⟨dx, h1⟩ := D1.ob
      obtain ⟨na, h2, h3⟩ := D1.nodes
      obtain ⟨es, h4, h5, h6⟩ := D1.fpl
      obtain ⟨cs, h7, h8, h9⟩ := D1.fch
      have hN : (na.map V.ref).length = N.length := by rw [List.length_map, h3.1]
      refine ⟨fun σ H' => ∃ (r : Nat) (N' : List Nd), Kp nl pl ch H H' ∧ Dg C us cl H' x nl pl ch N' M ∧ TupEx H1 H' ∧ N <+: N' ∧ N'.length ≤ N.length + 1 ∧ 2 ≤ r ∧ N'[r]? = some ⟨k, lo, hi⟩ ∧ (∃ es', H' pl = some (.dT es') ∧ valV es' (keyN ⟨k, lo, hi⟩) = some (.int (r : Nat))) ∧ σ = [some (.ref x), some (.int (k : Nat)), some (.int (lo : Nat)), some (.int (hi : Nat)), some (.ref kt)], ?_, ?_⟩
      · refine ⟨_, rfl, _, rfl, x, C, dx, _, _, rfl, h1, W.cl, W.n_places, dfl_p _ _ _, pl, _, rfl, DGet.t (k := keyN ⟨k, lo, hi⟩) h4 hkt, _, rfl, ite2 (fun c2 => ?_) (fun c2 => ?_)⟩
        · rcases h5 ⟨k, lo, hi⟩ with ⟨i, i2, i3, i4⟩ | ⟨i1, i2⟩
          · rw [i4] at c2; cases c2
          refine ⟨_, rfl, x, C, dx, _, _, rfl, h1, W.cl, W.n_nodes, dfl_n _ _ _, _, _, rfl, .inl (SqL.of h2), _, rfl, x, C, dx, _, _, rfl, h1, W.cl, W.n_places, dfl_p _ _ _, _, rfl, pl, _, rfl, DPut.t (k := keyN ⟨k, lo, hi⟩) h4 hkt (szM (by omega)), ?_⟩
          rw [hN]
          have nxp : x ≠ pl := ne_of h1 h4 (fun z => nomatch z)
          have nnp : nl ≠ pl := ne_of h2 h4 (fun z => nomatch z)
          have hx2 : upd H1 pl (.dT (putK es (keyN ⟨k, lo, hi⟩) (.int (N.length : Nat)))) x = some (.ins C dx (dfl nl pl ch)) := by rw [upd_ne nxp]; exact h1
          have hn2 : upd H1 pl (.dT (putK es (keyN ⟨k, lo, hi⟩) (.int (N.length : Nat)))) nl = some (.lst (na.map V.ref)) := by rw [upd_ne nnp]; exact h2
          have hp2 : upd H1 pl (.dT (putK es (keyN ⟨k, lo, hi⟩) (.int (N.length : Nat)))) pl = some (.dT (putK es (keyN ⟨k, lo, hi⟩) (.int (N.length : Nat)))) := upd_same
          have hc2 : upd H1 pl (.dT (putK es (keyN ⟨k, lo, hi⟩) (.int (N.length : Nat)))) ch = some (.dT cs) := by rw [upd_ne D1.ne.symm]; exact h7
          have T2 : TupEx H1 (upd H1 pl (.dT (putK es (keyN ⟨k, lo, hi⟩) (.int (N.length : Nat))))) := .put h4 fun _ z => nomatch z
          have K2 : Kp nl pl ch H (upd H1 pl (.dT (putK es (keyN ⟨k, lo, hi⟩) (.int (N.length : Nat))))) := (Kp.of E1).trans (.own (.inr (.inl rfl)))
          generalize upd H1 pl (.dT (putK es (keyN ⟨k, lo, hi⟩) (.int (N.length : Nat)))) = H2 at *
          refine ⟨_, rfl, x, C, dx, _, _, rfl, hx2, W.cl, W.n_nodes, dfl_n _ _ _, .inl ⟨rfl, _, SqL.of hn2⟩, _, rfl, nl, _, _, rfl, rfl, hn2, szM (by rw [hN]; omega), ?_⟩
          have nxn : x ≠ nl := ne_of hx2 hn2 (fun z => nomatch z)
          have npn : pl ≠ nl := nnp.symm
          have ncn : ch ≠ nl := ne_of hc2 hn2 (fun z => nomatch z)
          have T3 : TupEx H2 (upd H2 nl (.lst (na.map V.ref ++ [.ref kt]))) := .put hn2 fun _ z => nomatch z
          have p : N <+: N ++ [⟨k, lo, hi⟩] := List.prefix_append _ _
          have Gn : GoodN (N ++ [⟨k, lo, hi⟩]) := good_snoc G0 hlo hhi hne v1 v2 i1
          have hlast : (N ++ [(⟨k, lo, hi⟩ : Nd)])[N.length]? = some ⟨k, lo, hi⟩ := by rw [List.getElem?_append_right (Nat.le_refl _), Nat.sub_self]; rfl
          refine ⟨N.length, N ++ [(⟨k, lo, hi⟩ : Nd)], K2.trans (.own (.inl rfl)), ⟨⟨dx, by rw [upd_ne nxn]; exact hx2⟩, ⟨na ++ [kt], by rw [upd_same, List.map_append]; rfl, All2.snoc (b := (⟨k, lo, hi⟩ : Nd)) (h3.imp fun _ _ z => (T2.trans T3) _ _ z) ((T2.trans T3) _ _ hkt)⟩, ⟨_, by rw [upd_ne npn]; exact hp2, h5.snoc two, ?_⟩, ⟨cs, by rw [upd_ne ncn]; exact hc2, h8, h9⟩, Gn, D1.mem.pre G0 p, ?_, D1.ne⟩, T2.trans T3, p, by rw [List.length_append]; exact Nat.le_refl _, two, hlast, ⟨_, by rw [upd_ne npn]; exact hp2, by rw [valN_put, if_pos rfl]⟩, rfl⟩
          · rw [List.length_append]
            exact Nat.le_trans (length_putK _ _ _) (Nat.succ_le_succ h6)
          · intro i m hi hm
            by_cases hl : i < N.length
            · rw [List.getElem?_append_left hl] at hm; exact D1.vars i m hi hm
            · have := (List.getElem?_eq_some_iff.mp hm).1
              rw [List.length_append] at this
              have : i < N.length + 1 := this
              obtain rfl : i = N.length := by omega
              rw [hlast] at hm
              cases hm
              exact hk
        · rcases h5 ⟨k, lo, hi⟩ with ⟨i, i2, i3, i4⟩ | ⟨i1, i2⟩
          · exact ⟨i, N, .of E1, D1, fun _ _ z => z, List.prefix_refl _, Nat.le_succ _, i2, i3, ⟨es, h4, i4⟩, rfl⟩
          · rw [i2] at c2; exact absurd rfl c2
      · rintro σ H' ⟨r, N', K', D', T', p, hl, r2, hr1, ⟨es', e1, e2⟩, rfl⟩
        obtain ⟨dx', h1'⟩ := D'.ob
        have g := DGet.t (k := keyN ⟨k, lo, hi⟩) e1 (T' _ _ hkt)
        rw [e2] at g
        refine ⟨_, rfl, x, C, dx', _, _, rfl, h1', W.cl, W.n_places, dfl_p _ _ _, _, rfl, pl, _, rfl, g, q r N' H' K' D' p hl (List.getElem?_eq_some_iff.mp hr1).1 fun f => ?_⟩
        rw [ev_node D'.good r2 hr1]
        by_cases z : f k = true
        · rw [if_pos z, if_pos z]; exact pre_ev G0 p hhi f
        · rw [if_neg z, if_neg z]; exact pre_ev G0 p hlo f
end
end G
namespace G
open PySem PySem.Spec PyProof.Rows L2 Evl TL
theorem iteY {b : Bool} {A B : Prop} (h : b = true) (a : A) : if b = true then A else B := by rw [if_pos h]; exact a
theorem iteN {b : Bool} {A B : Prop} (h : b = false) (a : B) : if b = true then A else B := by rw [if_neg (by rw [h]; decide)]; exact a
def nV (l : List Nat) : List V := (l.map fun n : Nat => (n : Int)).map V.int
theorem nV_get {l : List Nat} {j : Nat} {y : V} (h : (nV l)[j]? = some y) : ∃ k, l[j]? = some k ∧ y = .int (k : Int) := by
  unfold nV at h
  rw [List.getElem?_map, List.getElem?_map] at h
  cases e : l[j]? with
  | none => rw [e] at h; cases h
  | some k => rw [e] at h; cases h; exact ⟨k, rfl, rfl⟩
theorem nV_len (l : List Nat) : (nV l).length = l.length := by unfold nV; rw [List.length_map, List.length_map]
theorem nV_snoc (l : List Nat) (k : Nat) : nV (l ++ [k]) = nV l ++ [.int (k : Int)] := by unfold nV; rw [List.map_append, List.map_append]; rfl
theorem bls_get {l : List Bool} {j : Nat} {y : V} (h : (l.map V.bl)[j]? = some y) : ∃ k, l[j]? = some k ∧ y = .bl k := by
  rw [List.getElem?_map] at h
  cases e : l[j]? with
  | none => rw [e] at h; cases h
  | some k => rw [e] at h; cases h; exact ⟨k, rfl, rfl⟩
theorem at_lastc {as : List Addr} {s : Addr} : atI ((as ++ [s]).map V.ref) (-1) = some (.ref s) := by
  have h1 : ((as ++ [s]).map V.ref).length = as.length + 1 := by rw [List.length_map, List.length_append]; rfl
  have h2 : ((as ++ [s]).map V.ref)[as.length]? = some (.ref s) := by rw [List.getElem?_map, List.getElem?_append_right (Nat.le_refl _), Nat.sub_self]; rfl
  unfold atI
  have : ixN ((as ++ [s]).map V.ref).length (-1) = some as.length := by
    rw [h1]
    unfold ixN
    rw [if_neg (by decide), if_pos (by omega)]
    congr 1
    omega
  rw [this]; exact h2
def rTupOfD (K : PySem.W.Frag) : List V → Hp → VK → Prop := fun xs H Q => ∃ p ys, xs = [.ref p] ∧ ((SqL K H p ys ∧ ∀ l, H l = none → Q (.ref l) (upd H l (.tup ys))) ∨ (SqT K H p ys ∧ Q (.ref p) H))
theorem kTupOfD {X : Cx} {K : PySem.W.Frag} (h : X.K = K) : CallR X (.type "tuple") (rTupOfD K) := by subst h; exact call_tuple_of
theorem TkAt.te {H H' : Hp} {a : Addr} {τ : Tsk} (e : TupEx H H') (h : TkAt H a τ) : TkAt H' a τ := e _ _ h
def partsT (τ : Tsk) : List Nat := [τ.c, τ.a, τ.b]
theorem tk_nV {H : Hp} {a : Addr} {τ : Tsk} (h : TkAt H a τ) : H a = some (.tup (nV (partsT τ))) := h
def opens (M : Tsk → Option Nat) (l : List (Addr × Tsk)) : List (Addr × Tsk) := l.filter fun p => (knB p.2 (M p.2)).isNone
theorem optV_non {o : Option Nat} : decide (optV o = .non) = o.isNone := by
  cases o with
  | none => rfl
  | some r => exact decide_eq_false fun z => nomatch z
theorem All2.app {α β : Type} {R : α → β → Prop} {as cs : List α} {bs ds : List β} (h : All2 R as bs) (g : All2 R cs ds) : All2 R (as ++ cs) (bs ++ ds) := by
  refine ⟨by rw [List.length_append, List.length_append, h.1, g.1], fun i a b ha hb => ?_⟩
  by_cases z : i < as.length
  · rw [List.getElem?_append_left z] at ha
    rw [List.getElem?_append_left (by rw [← h.1]; exact z)] at hb
    exact h.2 i a b ha hb
  · rw [List.getElem?_append_right (by omega)] at ha
    rw [List.getElem?_append_right (by rw [← h.1]; omega), ← h.1] at hb
    exact g.2 _ a b ha hb
theorem All2.pairs {α β : Type} {R : α → β → Prop} {l : List (α × β)} (h : ∀ p ∈ l, R p.1 p.2) : All2 R (l.map (·.1)) (l.map (·.2)) := by
  refine ⟨by rw [List.length_map, List.length_map], fun i a b ha hb => ?_⟩
  rw [List.getElem?_map] at ha hb
  cases e : l[i]? with
  | none => rw [e] at ha; cases ha
  | some p => rw [e] at ha hb; cases ha; cases hb; exact h p (List.mem_of_getElem? e)
section
variable {P : Program} {w : World} {K : PySem.W.Frag} {mg : Str → Option Value} {base : Heap} {C : Addr}
def spChoose (C : Addr) : Sp := fun vs H Q _ => ∃ (x nl pl ch : Addr) (N : List Nd) (M : Tsk → Option Nat) (us : List Nat) (cl : Nat) (τ : Tsk), vs = [.ref x, .int (τ.c : Nat), .int (τ.a : Nat), .int (τ.b : Nat)] ∧ Dg C us cl H x nl pl ch N M ∧ okT N τ ∧ N.length + wT us.length ≤ 9000000 ∧ cl + wT us.length ≤ 9000000 ∧
  ∀ (r : Nat) (N' : List Nd) (M' : Tsk → Option Nat) (H' : Hp), Kp nl pl ch H H' → Dg C us (cl + wT us.length) H' x nl pl ch N' M' → N <+: N' → N'.length ≤ N.length + wT us.length → r < N'.length → (∀ f, ev N' r f = tF N τ f) → Q (.int (r : Nat)) H'
theorem sc_Diagrams_choose : FnScope ["self", "c", "a", "b", "goal", "waiting", "task", "top", "halves", "open_halves", "low", "high", "side", "half", "part"] ["self", "c", "a", "b"] (defScope s_Diagrams_choose) := ⟨rfl, rfl, rfl, by decide +kernel, rfl, by decide +kernel, by decide +kernel⟩
theorem ok_Diagrams_choose {f0 f1 f2 : Addr} {d0 d1 d2 : FuncData} {f : Addr} {fd : FuncData} (F : Fun K "choose" "Diagrams.choose" s_Diagrams_choose f fd) (W : Cl_Diagrams K mg C) (T : TxtG mg)
    (M_Diagrams_half : Meth K C "_half" f0) (G_Diagrams_half : FnOk P w K mg base CX0 1 f0 d0 ["self", "a", "k", "value"] (spHalf C)) (b_Diagrams_half : Binds K d0 ["self", "a", "k", "value"] [])
    (M_Diagrams_known_choice : Meth K C "_known_choice" f1) (G_Diagrams_known_choice : FnOk P w K mg base CX0 1 f1 d1 ["self", "task"] (spKnown C)) (b_Diagrams_known_choice : Binds K d1 ["self", "task"] [])
    (M_Diagrams_node : Meth K C "_node" f2) (G_Diagrams_node : FnOk P w K mg base CX0 1 f2 d2 ["self", "k", "low", "high"] (spNode C)) (b_Diagrams_node : Binds K d2 ["self", "k", "low", "high"] []) : FnOk P w K mg base CX0 2 f fd ["self", "c", "a", "b"] (spChoose C) := by
  have c_Diagrams := W.cl
  obtain ⟨tT, g_TRUE⟩ := T.tT
  have noK : ∀ nl pl ch : Addr, (dfl nl pl ch).lookup ("_known_choice" : Str) = none := fun nl pl ch => dfl_no _ _ _ (by decide +kernel) (by decide +kernel) (by decide +kernel)
  have noH : ∀ nl pl ch : Addr, (dfl nl pl ch).lookup ("_half" : Str) = none := fun nl pl ch => dfl_no _ _ _ (by decide +kernel) (by decide +kernel) (by decide +kernel)
  have noN : ∀ nl pl ch : Addr, (dfl nl pl ch).lookup ("_node" : Str) = none := fun nl pl ch => dfl_no _ _ _ (by decide +kernel) (by decide +kernel) (by decide +kernel)
  refine F.ok sc_Diagrams_choose (fun vs H Q E h => ?_) (fun cdv A outer s H vs Q E hr h => ?_)
  · obtain ⟨x, nl, pl, ch, N, M, us, cl, τ, rfl, _⟩ := h
    rfl
  · obtain ⟨x, nl, pl, ch, N, M, us, cl, goal, rfl, D, hok, hb1, hb2, q⟩ := h
    refine ⟨_, (pss_cons (ps_set (i := 4) sc_Diagrams_choose.nd rfl (.inl rfl) (pe_tup (pa_cons (pv 1) (pa_cons (pv 2) (pa_cons (pv 3) pa_nil)))))
    (pss_cons (ps_set (i := 5) sc_Diagrams_choose.nd rfl (.inl rfl) (pe_lst (pa_cons (pv 4) pa_nil)))
    (pss_cons (ps_while PassesOwn.never (pt_truth (pv 5) (by intro _; rfl))
      (pss_cons (ps_set (i := 6) sc_Diagrams_choose.nd rfl (.inr rfl) (pe_ix ix_list (pv 5) (pe_un un_neg pe_int) (fun _ _ => rfl)))
      (pss_cons (ps_if (pt_cmpR op_notN (pe_meth (pv 0) c_Diagrams M_Diagrams_known_choice G_Diagrams_known_choice (hr.mono (by omega)) b_Diagrams_known_choice .nil pass0 (pa_cons (pv 6) pa_nil)) pe_non (nomark _))
        (pss_cons (ps_expr (pe_bm0 PySem.F.plainAttrs_list PySem.F.slot_list_pop PySem.F.type_list_pop mt_pop (pv 5)))
        (pss_one ps_continue))
        pss_nil)
      (pss_cons (ps_set (i := 7) sc_Diagrams_choose.nd rfl (.inr rfl) (pe_callB (cr_min rfl) (by rfl) T.min (by decide +kernel) (pa_cons (pe_lc (own := [("part", 14)]) (g := gName 14) (tt := _) rfl sc_Diagrams_choose.nd (pi_tup (pv 6)) (blkOk_by (N := ["self", "c", "a", "b", "goal", "waiting", "task", "top", "halves", "open_halves", "low", "high", "side", "half", "part"]) (sc := defScope s_Diagrams_choose) (own := [("part", 14)]) (by decide +kernel)) (fun _ _ _ _ _ => (pg_name (i := 14) sc_Diagrams_choose.nd rfl (.inl rfl))) (fun _ _ _ _ _ => pts_one (pt_cmpR op_gt (pv 14) (gInt rfl g_TRUE) (nomark _))) (fun _ _ _ _ _ => (pe_ix (kIxT (K := K) rfl) (pe_ix (kIxL (K := K) rfl) (kFld (K := K) rfl (pv 0) rfl) (pv 14) (fun _ _ => rfl)) pe_int (fun _ _ => rfl)))) pa_nil)))
      (pss_cons (ps_setLc (i := 8) (own := [("side", 12)]) (g := gName 12) (tt := tYes) rfl sc_Diagrams_choose.nd rfl rfl (sw_true rfl rfl rfl (by decide +kernel)) (pi_tup (pe_tup (pa_cons pe_bl (pa_cons pe_bl pa_nil)))) (blkOk_by (N := ["self", "c", "a", "b", "goal", "waiting", "task", "top", "halves", "open_halves", "low", "high", "side", "half", "part"]) (sc := defScope s_Diagrams_choose) (own := [("side", 12)]) (by decide +kernel)) (fun _ _ _ _ _ => (pg_name (i := 12) sc_Diagrams_choose.nd rfl (.inr rfl))) (fun _ _ _ _ _ => pts_nil) (fun _ _ _ _ _ => (pe_callTy (kTupOfD (K := K) rfl) (by rfl) T.tuple (by decide +kernel) (pa_cons (pe_lc (own := [("part", 14)]) (g := gName 14) (tt := tYes) rfl sc_Diagrams_choose.nd (kPiT (K := K) rfl (pv 6)) (blkOk_by (own := [("part", 14)]) (by kernel_rfl)) (fun _ _ _ _ _ => (pg_name (i := 14) sc_Diagrams_choose.nd rfl (.inl rfl))) (fun _ _ _ _ _ => pts_nil) (fun _ _ _ _ _ => (pe_meth (pv 0) c_Diagrams M_Diagrams_half G_Diagrams_half (hr.mono (by omega)) b_Diagrams_half .nil pass0 (pa_cons (pv 14) (pa_cons (pv 7) (pa_cons (pv 12) pa_nil)))))) pa_nil))))
      (pss_cons (ps_setLc (i := 9) (own := [("half", 13)]) (g := gName 13) (tt := _) rfl sc_Diagrams_choose.nd rfl rfl (sw_true rfl rfl rfl (by decide +kernel)) (pi_list (pv 8)) (blkOk_by (N := ["self", "c", "a", "b", "goal", "waiting", "task", "top", "halves", "open_halves", "low", "high", "side", "half", "part"]) (sc := defScope s_Diagrams_choose) (own := [("half", 13)]) (by decide +kernel)) (fun _ _ _ _ _ => (pg_name (i := 13) sc_Diagrams_choose.nd rfl (.inl rfl))) (fun _ _ _ _ _ => pts_one (pt_cmpR op_isN (pe_meth (pv 0) c_Diagrams M_Diagrams_known_choice G_Diagrams_known_choice (hr.mono (by omega)) b_Diagrams_known_choice .nil pass0 (pa_cons (pv 13) pa_nil)) pe_non (nomark _))) (fun _ _ _ _ _ => (pv 13)))
      (pss_one (ps_if (pt_truth (pv 9) (by intro _; rfl))
        (pss_one (ps_expr (pe_bm PySem.F.plainAttrs_list PySem.F.slot_list_extend PySem.F.type_list_extend mt_extend (pv 5) (pa_cons (pv 9) pa_nil))))
        (pss_cons (ps_asg (pe_lc (own := [("half", 13)]) (g := gName 13) (tt := tYes) rfl sc_Diagrams_choose.nd (pi_list (pv 8)) (blkOk_by (N := ["self", "c", "a", "b", "goal", "waiting", "task", "top", "halves", "open_halves", "low", "high", "side", "half", "part"]) (sc := defScope s_Diagrams_choose) (own := [("half", 13)]) (by decide +kernel)) (fun _ _ _ _ _ => (pg_name (i := 13) sc_Diagrams_choose.nd rfl (.inl rfl))) (fun _ _ _ _ _ => pts_nil) (fun _ _ _ _ _ => (pe_meth (pv 0) c_Diagrams M_Diagrams_known_choice G_Diagrams_known_choice (hr.mono (by omega)) b_Diagrams_known_choice .nil pass0 (pa_cons (pv 13) pa_nil)))) (pg_unl rfl (pgs_cons (pg_name (i := 10) sc_Diagrams_choose.nd rfl (.inl rfl)) (pgs_cons (pg_name (i := 11) sc_Diagrams_choose.nd rfl (.inl rfl)) pgs_nil))))
        (pss_one (ps_asg (pe_meth (pv 0) c_Diagrams M_Diagrams_node G_Diagrams_node (hr.mono (by omega)) b_Diagrams_node .nil pass0 (pa_cons (pv 7) (pa_cons (pv 10) (pa_cons (pv 11) pa_nil)))) (pg_sub (pe_fld (pv 0) rfl) (pv 6) (set_dict (hu_of hr))))))))))))))
    (pss_one (ps_ret (pe_meth (pv 0) c_Diagrams M_Diagrams_known_choice G_Diagrams_known_choice (hr.mono (by omega)) b_Diagrams_known_choice .nil pass0 (pa_cons (pv 4) pa_nil))))))), ?_⟩
    have wpos := wT_pos us.length
    refine ⟨_, rfl, _, rfl, _, rfl, (by show 3 ≤ sizeLine; decide), fun gt ngt => ⟨_, rfl, (by show 1 ≤ sizeLine; decide), fun WL nWL => ?_⟩⟩
    have E1 : Ex H (upd H gt (.tup [.int (goal.c : Nat), .int (goal.a : Nat), .int (goal.b : Nat)])) := Ex.new ngt
    have hgt : TkAt (upd H gt (.tup [.int (goal.c : Nat), .int (goal.a : Nat), .int (goal.b : Nat)])) gt goal := upd_same
    generalize upd H gt (.tup [.int (goal.c : Nat), .int (goal.a : Nat), .int (goal.b : Nat)]) = H1 at *
    have nW0 : H WL = none := fresh_back E1 nWL
    have E2 : Ex H1 (upd H1 WL (.lst [.ref gt])) := Ex.new nWL
    have hWL : upd H1 WL (.lst [.ref gt]) WL = some (.lst (([gt] : List Addr).map V.ref)) := upd_same
    generalize upd H1 WL (.lst [.ref gt]) = H2 at *
    have E02 := E1.trans E2
    have D2 := D.ex E02
    obtain ⟨nWn, nWp, nWc, nWx⟩ : WL ≠ nl ∧ WL ≠ pl ∧ WL ≠ ch ∧ WL ≠ x := by
      obtain ⟨dx, h1⟩ := D.ob
      obtain ⟨na, h2, _⟩ := D.nodes
      obtain ⟨es, h4, _⟩ := D.fpl
      obtain ⟨cs, h7, _⟩ := D.fch
      exact ⟨(ne_of_none h2 nW0).symm, (ne_of_none h4 nW0).symm, (ne_of_none h7 nW0).symm, (ne_of_none h1 nW0).symm⟩
    refine ⟨fun μ σ H' => Kp nl pl ch H H' ∧ ∃ (N' : List Nd) (M' : Tsk → Option Nat) (cl' : Nat) (S : List Tsk) (ws : List Nat) (sa : List Addr) (y6 y7 y8 y9 y10 y11 : Option V), Dg C us cl' H' x nl pl ch N' M' ∧ N <+: N' ∧ SInv us N' M' goal S ws ∧ H' WL = some (.lst (sa.map V.ref)) ∧ All2 (TkAt H') sa S ∧ ws.sum = μ ∧
        N'.length + ws.sum ≤ N.length + wT us.length ∧ cl' + ws.sum ≤ cl + wT us.length ∧ TkAt H' gt goal ∧ σ = [some (.ref x), some (.int (goal.c : Nat)), some (.int (goal.a : Nat)), some (.int (goal.b : Nat)), some (.ref gt), some (.ref WL), y6, y7, y8, y9, y10, y11, none, none, none],
      ⟨wT us.length, .of E02, N, M, cl, [goal], [wT us.length], [gt], _, _, _, _, _, _, D2, List.prefix_refl _, SInv.start hok, hWL, .cons (E2 _ _ hgt) .nil, by simp, by simp, by simp, E2 _ _ hgt, rfl⟩, ?_⟩
    rintro μ σ H3 ⟨K3, N', M', cl', S, ws, sa, y6, y7, y8, y9, y10, y11, D3, p3, I3, hWL3, hA3, hμ, hb3, hb4, hgt3, rfl⟩
    obtain ⟨dx, h1⟩ := D3.ob
    refine ⟨_, rfl, !(sa.map V.ref).isEmpty, .inl ⟨_, SqL.of hWL3, rfl⟩, ite2 (fun c1 => ?_) (fun c1 => ?_)⟩
    · obtain ⟨sa0, ta, rfl⟩ : ∃ sa0 ta, sa = sa0 ++ [ta] := by
        rcases List.eq_nil_or_concat sa with rfl | ⟨L, b, rfl⟩
        · cases c1
        · exact ⟨L, b, List.concat_eq_append⟩
      obtain ⟨S0, τ, rfl⟩ : ∃ S0 τ, S = S0 ++ [τ] := by
        rcases List.eq_nil_or_concat S with rfl | ⟨L, b, rfl⟩
        · have := hA3.1; rw [List.length_append] at this; cases this
        · exact ⟨L, b, List.concat_eq_append⟩
      obtain ⟨ws0, m, rfl⟩ : ∃ ws0 m, ws = ws0 ++ [m] := by
        rcases List.eq_nil_or_concat ws with rfl | ⟨L, b, rfl⟩
        · have := I3.len; rw [List.length_append] at this; cases this
        · exact ⟨L, b, List.concat_eq_append⟩
      have hl0 : sa0.length = S0.length := by have := hA3.1; rw [List.length_append, List.length_append] at this; exact Nat.succ.inj this
      have hlw : S0.length = ws0.length := by have := I3.len; rw [List.length_append, List.length_append] at this; exact Nat.succ.inj this
      have hta : TkAt H3 ta τ := hA3.2 sa0.length ta τ (by rw [List.getElem?_append_right (Nat.le_refl _), Nat.sub_self]; rfl) (by rw [hl0, List.getElem?_append_right (Nat.le_refl _), Nat.sub_self]; rfl)
      have hA0 : All2 (TkAt H3) sa0 S0 := ⟨hl0, fun i a b ha hb => hA3.2 i a b (by rw [List.getElem?_append_left (List.getElem?_eq_some_iff.mp ha).1]; exact ha) (by rw [List.getElem?_append_left (List.getElem?_eq_some_iff.mp hb).1]; exact hb)⟩
      have hokτ := I3.ok τ (List.mem_append_right _ (List.mem_singleton.mpr rfl))
      have hm1 : 1 ≤ m := I3.one m (List.mem_append_right _ (List.mem_singleton.mpr rfl))
      have esum : (ws0 ++ [m]).sum = ws0.sum + m := by rw [List.sum_append]; simp
      have hbig : ∀ l : List Nat, (∀ y ∈ l, 1 ≤ y) → l.length ≤ l.sum := fun l => by
        induction l with
        | nil => intro _; exact Nat.le_refl _
        | cons a l ih => intro h; have := ih fun y hy => h y (List.mem_cons_of_mem _ hy); have := h a (List.mem_cons_self ..); rw [List.sum_cons, List.length_cons]; omega
      have hsz : (ws0 ++ [m]).length ≤ 9000000 := by
        have := hbig _ I3.one
        omega
      have hsz1 : ws0.length + 1 ≤ 9000000 := by rw [List.length_append] at hsz; exact hsz
      refine ⟨fun σ' H' => Kp nl pl ch H H' ∧ ∃ (N' : List Nd) (M' : Tsk → Option Nat) (cl' : Nat) (S : List Tsk) (ws : List Nat) (sa : List Addr) (y6 y7 y8 y9 y10 y11 : Option V), Dg C us cl' H' x nl pl ch N' M' ∧ N <+: N' ∧ SInv us N' M' goal S ws ∧ H' WL = some (.lst (sa.map V.ref)) ∧ All2 (TkAt H') sa S ∧ ws.sum < μ ∧
        N'.length + ws.sum ≤ N.length + wT us.length ∧ cl' + ws.sum ≤ cl + wT us.length ∧ TkAt H' gt goal ∧ σ' = [some (.ref x), some (.int (goal.c : Nat)), some (.int (goal.a : Nat)), some (.int (goal.b : Nat)), some (.ref gt), some (.ref WL), y6, y7, y8, y9, y10, y11, none, none, none], ?_, ?_⟩
      · rintro σ' H' ⟨b1, b2, b3, b4, b5, b6, b7, z6, z7, z8, z9, z10, z11, b8, b9, b10, b11, b12, b13, b14, b15, b16, rfl⟩
        exact ⟨b6.sum, b13, b1, b2, b3, b4, b5, b6, b7, z6, z7, z8, z9, z10, z11, b8, b9, b10, b11, b12, rfl, b14, b15, b16, rfl⟩
      refine ⟨_, rfl, _, rfl, _, _, _, _, rfl, rfl, SqL.of hWL3, at_lastc, ?_⟩
      refine ⟨_, rfl, x, dx, _, rfl, h1, noK _ _ _, _, rfl, x, nl, pl, ch, N', M', us, cl', ta, τ, rfl, D3, hta, rfl, _, rfl, ?_⟩
      rw [optV_non]
      cases hkn : knB τ (M' τ) with
      | some r =>
        refine iteY rfl ?_
        have epop : ((sa0 ++ [ta]).map V.ref).dropLast = sa0.map V.ref := by rw [List.map_append]; exact List.dropLast_concat
        have elast : ((sa0 ++ [ta]).map V.ref)[((sa0 ++ [ta]).map V.ref).length - 1]? = some (.ref ta) := by
          rw [List.length_map, List.length_append, List.getElem?_map, List.getElem?_append_right (by show _ ≤ _ + 1 - 1; omega)]
          show Option.map V.ref ([ta][sa0.length + 1 - 1 - sa0.length]?) = _
          rw [show sa0.length + 1 - 1 - sa0.length = 0 by omega]; rfl
        refine ⟨_, rfl, .inl ⟨rfl, _, SqL.of hWL3⟩, WL, _, _, rfl, rfl, hWL3, elast, ?_⟩
        rw [epop]
        have T4 : TupEx H3 (upd H3 WL (.lst (sa0.map V.ref))) := .put hWL3 fun _ z => nomatch z
        refine ⟨K3.mut nW0, N', M', cl', S0, ws0, sa0, _, _, _, _, _, _, D3.keep (fun b o hb h => ?_) T4, p3, I3.pop ⟨r, hkn⟩, upd_same, hA0.imp fun _ _ z => T4 _ _ z, by omega, by omega, by omega, T4 _ _ hgt3, rfl⟩
        rw [upd_ne fun z => by subst z; rcases hb with e | e | e | e; exact nWx e; exact nWn e; exact nWp e; exact nWc e]; exact h
      | none =>
        refine iteN rfl ?_
        have hnk : ¬ Kn M' τ := fun ⟨r, e⟩ => by rw [hkn] at e; cases e
        have hc2 := (kn_none hkn).1
        -- the top
        refine ⟨_, rfl, ta, rfl, ⟨_, SqT.of (tk_nV hta)⟩, fun L nL => wk_tup (K := K) (a := ta) (xs := nV (partsT τ)) (fun j H' => Ex H3 H' ∧ H' L = some (.lst (nV ((((partsT τ).take j).filter fun p => decide (2 ≤ p)).map fun p => (ndA N' p).k)))) ⟨Ex.new nL, upd_same⟩ (fun j H' _ g => SqT.of (g.1 _ _ (tk_nV hta))) ?_ ?_⟩
        · rintro j y H4 hy ⟨E4, hL⟩
          obtain ⟨p, hp, rfl⟩ := nV_get hy
          have hj : j < 3 := (List.getElem?_eq_some_iff.mp hp).1
          have hfl : ((((partsT τ).take j).filter fun p => decide (2 ≤ p)).map fun p => (ndA N' p).k).length ≤ 3 := by
            rw [List.length_map]
            have h1 := List.length_filter_le (fun p => decide (2 ≤ p)) ((partsT τ).take j)
            rw [List.length_take] at h1
            omega
          have hpl : p < N'.length := by
            have hm := List.mem_of_getElem? hp
            unfold partsT at hm
            simp only [List.mem_cons, List.not_mem_nil, or_false] at hm
            exact or3 (P := fun q => q < N'.length) hm hokτ.1 hokτ.2.1 hokτ.2.2
          refine ⟨rfl, ?_⟩
          simp only [wipe, _root_.L2.start, List.map_cons, List.map_nil, List.length_cons, List.length_nil, Nat.reduceAdd, Nat.reduceSub, List.replicate_succ, List.replicate_zero, List.cons_append, List.nil_append, List.set_cons_zero, List.set_cons_succ]
          refine ⟨_, rfl, _, _, rfl, rfl, _, rfl, ite2 (fun c2 => ?_) (fun c2 => ?_)⟩
          · have hp2 : 2 ≤ p := by have := of_decide_eq_true c2; omega
            obtain ⟨na, b, h2, hb, hn⟩ := (D3.ex E4).nd hpl
            refine ⟨_, rfl, x, C, dx, _, _, rfl, E4 _ _ h1, W.cl, W.n_nodes, dfl_n _ _ _, _, rfl, _, _, _, _, rfl, rfl, SqL.of h2, at_of (j := p) rfl hb, _, _, _, _, rfl, rfl, SqT.of hn, atI_nat (j := 0) rfl, _, hL, sz_lt (by rw [nV_len]; omega), E4.mut nL, ?_⟩
            rw [upd_same, take_snoc1 hp, List.filter_append, List.map_append, List.filter_cons, decide_eq_true hp2, if_pos rfl, ← nV_snoc]; rfl
          · have hp2 : ¬ 2 ≤ p := fun z => c2 (decide_eq_true (by omega))
            refine ⟨E4, ?_⟩
            rw [hL, take_snoc1 hp, List.filter_append, List.filter_cons, decide_eq_false hp2, if_neg Bool.false_ne_true, List.filter_nil, List.append_nil]
        rintro H4 ⟨E4, hL⟩
        rw [nV_len, List.take_length] at hL
        refine ⟨L, _, rfl, SqL.of hL, ?_, fun tI htm hmin => ?_⟩
        · rw [List.length_map, List.length_map]
          refine List.length_pos_of_mem (List.mem_filter.mpr ⟨?_, decide_eq_true hc2⟩)
          exact List.mem_cons_self ..
        obtain ⟨t, ht, rfl⟩ := List.mem_map.mp htm
        obtain ⟨p, hp, rfl⟩ := List.mem_map.mp ht
        obtain ⟨hpm, hp2⟩ := List.mem_filter.mp hp
        have hp2 := of_decide_eq_true hp2
        have hpm3 : p = τ.c ∨ p = τ.a ∨ p = τ.b := by
          unfold partsT at hpm
          simpa only [List.mem_cons, List.not_mem_nil, or_false] using hpm
        have hge : ∀ p', (p' = τ.c ∨ p' = τ.a ∨ p' = τ.b) → lvGe N' (ndA N' p).k p' := fun p' hp' n h2 hn => by
          have := hmin ((ndA N' p').k : Nat) (List.mem_map.mpr ⟨_, List.mem_map.mpr ⟨p', List.mem_filter.mpr ⟨by unfold partsT; simpa only [List.mem_cons, List.not_mem_nil, or_false] using hp', decide_eq_true h2⟩, rfl⟩, rfl⟩)
          rw [ndA_of hn] at this
          omega
        have hTop : IsTop N' (ndA N' p).k τ := ⟨⟨p, hpm3, hp2, rfl⟩, hge _ (.inl rfl), hge _ (.inr (.inl rfl)), hge _ (.inr (.inr rfl))⟩
        generalize (ndA N' p).k = t at *
        have K4 := K3.more E4
        have D4 := D3.ex E4
        -- halves
        refine ⟨(by show 2 ≤ sizeLine; decide), fun tt ntt => ?_⟩
        have E5 : Ex H4 (upd H4 tt (.tup [.bl false, .bl true])) := Ex.new ntt
        have htt : upd H4 tt (.tup [.bl false, .bl true]) tt = some (.tup (([false, true] : List Bool).map V.bl)) := upd_same
        generalize upd H4 tt (.tup [.bl false, .bl true]) = H5 at *
        have D5 := D4.ex E5
        have E35 := E4.trans E5
        refine ⟨tt, rfl, ⟨_, SqT.of htt⟩, fun HL nHL => wk_tup (K := K) (a := tt) (xs := ([false, true] : List Bool).map V.bl) (fun j H' => Ex H5 H' ∧ ∃ qs : List Addr, H' HL = some (.lst (qs.map V.ref)) ∧ All2 (TkAt H') qs ((([false, true] : List Bool).take j).map fun v => halfT N' τ t v)) ⟨Ex.new nHL, [], upd_same, .nil⟩ (fun j H' _ g => SqT.of (g.1 _ _ htt)) ?_ ?_⟩
        · rintro j y H6 hy ⟨E6, qs, hHL, hq⟩
          obtain ⟨v, hv, rfl⟩ := bls_get hy
          have hj : j < 2 := (List.getElem?_eq_some_iff.mp hv).1
          have hql : qs.length ≤ 2 := by rw [hq.1, List.length_map, List.length_take]; exact Nat.min_le_right _ _
          have hta6 := tk_nV (hta.te (TupEx.of (E35.trans E6)))
          have h16 := (E35.trans E6) _ _ h1
          have D6 := D5.ex E6
          refine ⟨rfl, tYes_in ?_⟩
          simp only [wipe, _root_.L2.start, List.map_cons, List.map_nil, List.length_cons, List.length_nil, Nat.reduceAdd, Nat.reduceSub, List.replicate_succ, List.replicate_zero, List.cons_append, List.nil_append, List.set_cons_zero, List.set_cons_succ]
          refine ⟨_, rfl, ta, rfl, ⟨_, SqT.of hta6⟩, fun L2 nL2 => wk_tup (K := K) (a := ta) (xs := nV (partsT τ)) (fun i H' => Ex H6 H' ∧ H' L2 = some (.lst (nV (((partsT τ).take i).map fun p => halfA N' p t v)))) ⟨Ex.new nL2, upd_same⟩ (fun i H' _ g => SqT.of (g.1 _ _ hta6)) ?_ ?_⟩
          · rintro i y H7 hy ⟨E7, hL2⟩
            obtain ⟨p, hp, rfl⟩ := nV_get hy
            have hi : i < 3 := (List.getElem?_eq_some_iff.mp hp).1
            have hpl : p < N'.length := by
              have hm := List.mem_of_getElem? hp
              unfold partsT at hm
              simp only [List.mem_cons, List.not_mem_nil, or_false] at hm
              exact or3 (P := fun q => q < N'.length) hm hokτ.1 hokτ.2.1 hokτ.2.2
            refine ⟨rfl, tYes_in ?_⟩
            simp only [wipe, _root_.L2.start, List.map_cons, List.map_nil, List.length_cons, List.length_nil, Nat.reduceAdd, Nat.reduceSub, List.replicate_succ, List.replicate_zero, List.cons_append, List.nil_append, List.set_cons_zero, List.set_cons_succ]
            refine ⟨_, rfl, x, dx, _, rfl, E7 _ _ h16, noH _ _ _, _, rfl, _, rfl, _, rfl, x, nl, pl, ch, N', M', us, cl', p, t, v, rfl, D6.ex E7, hpl, _, hL2, sz_lt (by rw [nV_len, List.length_map, List.length_take]; omega), E7.mut nL2, ?_⟩
            rw [upd_same, take_snoc1 hp, List.map_append, ← nV_snoc]; rfl
          rintro H7 ⟨E7, hL2⟩
          rw [nV_len, List.take_length] at hL2
          refine ⟨L2, _, rfl, .inl ⟨SqL.of hL2, fun q nq => ?_⟩⟩
          have E8 : Ex H7 (upd H7 q (.tup (nV ((partsT τ).map fun p => halfA N' p t v)))) := Ex.new nq
          have hq8 : TkAt (upd H7 q (.tup (nV ((partsT τ).map fun p => halfA N' p t v)))) q (halfT N' τ t v) := upd_same
          generalize upd H7 q (.tup (nV ((partsT τ).map fun p => halfA N' p t v))) = H8 at *
          have E68 := E7.trans E8
          have hHL8 := E68 _ _ hHL
          have T9 : TupEx H8 (upd H8 HL (.lst (qs.map V.ref ++ [.ref q]))) := .put hHL8 fun _ z => nomatch z
          refine ⟨_, hHL8, sz_lt (by rw [List.length_map]; omega), (E6.trans E68).mut nHL, qs ++ [q], by rw [upd_same, List.map_append]; rfl, ?_⟩
          rw [take_snoc1 hv, List.map_append]
          exact (hq.imp fun _ _ z => T9 _ _ (E68 _ _ z)).snoc (T9 _ _ hq8)
        rintro H6 ⟨E6, qs, hHL, hq⟩
        obtain ⟨q0, q1, rfl⟩ : ∃ q0 q1, qs = [q0, q1] := by
          have := hq.1
          match qs, this with
          | [a, b], _ => exact ⟨a, b, rfl⟩
        have hq0 : TkAt H6 q0 (halfT N' τ t false) := hq.2 0 _ _ rfl rfl
        have hq1 : TkAt H6 q1 (halfT N' τ t true) := hq.2 1 _ _ rfl rfl
        have E36 := E35.trans E6
        have h16 := E36 _ _ h1
        have D6 := D3.ex E36
        -- those that are open
        refine ⟨_, rfl, HL, rfl, ⟨_, SqL.of hHL⟩, fun OL nOL => wk_list (K := K) (a := HL) (xs := ([q0, q1] : List Addr).map V.ref) (fun j H' => Ex H6 H' ∧ H' OL = some (.lst ((opens M' (([(q0, halfT N' τ t false), (q1, halfT N' τ t true)] : List (Addr × Tsk)).take j)).map fun p => V.ref p.1))) ⟨Ex.new nOL, upd_same⟩ (fun j H' _ g => SqL.of (g.1 _ _ hHL)) ?_ ?_⟩
        · rintro j y H7 hy ⟨E7, hOL⟩
          obtain ⟨b, hb, rfl⟩ := refs_get hy
          have hj : j < 2 := (List.getElem?_eq_some_iff.mp hb).1
          obtain ⟨σ, hσ, hbσ⟩ : ∃ σ, ([(q0, halfT N' τ t false), (q1, halfT N' τ t true)] : List (Addr × Tsk))[j]? = some (b, σ) ∧ TkAt H7 b σ := by
            match j, hj with
            | 0, _ => cases hb; exact ⟨_, rfl, E7 _ _ hq0⟩
            | 1, _ => cases hb; exact ⟨_, rfl, E7 _ _ hq1⟩
          have hol : (opens M' (([(q0, halfT N' τ t false), (q1, halfT N' τ t true)] : List (Addr × Tsk)).take j)).length ≤ 2 := by
            have h1 := List.length_filter_le (fun p : Addr × Tsk => (knB p.2 (M' p.2)).isNone) (([(q0, halfT N' τ t false), (q1, halfT N' τ t true)] : List (Addr × Tsk)).take j)
            rw [List.length_take] at h1
            unfold opens
            omega
          refine ⟨rfl, ?_⟩
          simp only [wipe, _root_.L2.start, List.map_cons, List.map_nil, List.length_cons, List.length_nil, Nat.reduceAdd, Nat.reduceSub, List.replicate_succ, List.replicate_zero, List.cons_append, List.nil_append, List.set_cons_zero, List.set_cons_succ]
          refine ⟨_, rfl, x, dx, _, rfl, E7 _ _ h16, noK _ _ _, _, rfl, x, nl, pl, ch, N', M', us, cl', b, σ, rfl, D6.ex E7, hbσ, rfl, _, rfl, ?_⟩
          rw [optV_non]
          cases hks : (knB σ (M' σ)).isNone with
          | true =>
            refine iteY rfl ⟨_, rfl, _, hOL, sz_lt (by rw [List.length_map]; omega), E7.mut nOL, ?_⟩
            unfold opens
            rw [upd_same, take_snoc1 hσ, List.filter_append, List.map_append, List.filter_cons, hks, if_pos rfl]; rfl
          | false =>
            refine iteN rfl ⟨E7, ?_⟩
            rw [hOL]
            unfold opens
            rw [take_snoc1 hσ, List.filter_append, List.filter_cons, hks, if_neg Bool.false_ne_true, List.filter_nil, List.append_nil]
        rintro H7 ⟨E7, hOL⟩
        have hOL : H7 OL = some (.lst ((opens M' [(q0, halfT N' τ t false), (q1, halfT N' τ t true)]).map fun p => V.ref p.1)) := hOL
        have E37 := E36.trans E7
        have D7 := D3.ex E37
        have h17 := E37 _ _ h1
        have hWL7 := E37 _ _ hWL3
        have hop : ∀ p ∈ opens M' [(q0, halfT N' τ t false), (q1, halfT N' τ t true)], TkAt H7 p.1 p.2 ∧ ∃ v, p.2 = halfT N' τ t v ∧ ¬ Kn M' p.2 := fun p hp => by
          obtain ⟨hm, hk⟩ := List.mem_filter.mp hp
          have hk' : ¬ Kn M' p.2 := fun ⟨r, e⟩ => by rw [e] at hk; cases hk
          simp only [List.mem_cons, List.not_mem_nil, or_false] at hm
          rcases hm with e | e
          · subst e; exact ⟨E7 _ _ hq0, false, rfl, hk'⟩
          · subst e; exact ⟨E7 _ _ hq1, true, rfl, hk'⟩
        have hall : ∀ v, Kn M' (halfT N' τ t v) ∨ ∃ b, (b, halfT N' τ t v) ∈ opens M' [(q0, halfT N' τ t false), (q1, halfT N' τ t true)] := fun v => by
          cases hks : knB (halfT N' τ t v) (M' (halfT N' τ t v)) with
          | some r => exact .inl ⟨r, hks⟩
          | none =>
            refine .inr ?_
            cases v with
            | false => exact ⟨q0, List.mem_filter.mpr ⟨List.mem_cons_self .., by show (knB (halfT N' τ t false) (M' (halfT N' τ t false))).isNone = true; rw [hks]; rfl⟩⟩
            | true => exact ⟨q1, List.mem_filter.mpr ⟨List.mem_cons_of_mem _ (List.mem_cons_self ..), by show (knB (halfT N' τ t true) (M' (halfT N' τ t true))).isNone = true; rw [hks]; rfl⟩⟩
        have hol2 : (opens M' [(q0, halfT N' τ t false), (q1, halfT N' τ t true)]).length ≤ 2 := List.length_filter_le _ _
        generalize opens M' [(q0, halfT N' τ t false), (q1, halfT N' τ t true)] = op at *
        refine ⟨_, rfl, !(op.map fun p => V.ref p.1).isEmpty, .inl ⟨_, SqL.of hOL, rfl⟩, ite2 (fun c2 => ?_) (fun c2 => ?_)⟩
        · have hne : op ≠ [] := fun z => by rw [z] at c2; cases c2
          refine ⟨_, rfl, .inl ⟨rfl, _, SqL.of hWL7⟩, _, rfl, WL, OL, _, _, rfl, rfl, hWL7, hOL, Nat.le_of_lt (szM' (by rw [List.length_map, List.length_map, List.length_append]; show _ + 1 + _ ≤ _; omega)), ?_⟩
          have ew : (sa0 ++ [ta]).map V.ref ++ op.map (fun p => V.ref p.1) = (sa0 ++ [ta] ++ op.map (·.1)).map V.ref := by rw [List.map_append (l₁ := sa0 ++ [ta]), List.map_map]; rfl
          rw [ew]
          obtain ⟨ws', I', hlt⟩ := I3.push (op := op.map (·.2)) D3.good D3.vars hnk hTop (fun v => (hall v).imp id fun ⟨b, hb⟩ => List.mem_map.mpr ⟨_, hb, rfl⟩) (fun σ hσ => by obtain ⟨p, hp, rfl⟩ := List.mem_map.mp hσ; exact (hop p hp).2) (fun z => hne (List.map_eq_nil_iff.mp z)) (by rw [List.length_map]; exact hol2)
          have T8 : TupEx H7 (upd H7 WL (.lst ((sa0 ++ [ta] ++ op.map (·.1)).map V.ref))) := .put hWL7 fun _ z => nomatch z
          refine ⟨(K3.more E37).mut nW0, N', M', cl', _, ws', sa0 ++ [ta] ++ op.map (·.1), _, _, _, _, _, _, D7.keep (fun b o hb h => ?_) T8, p3, I', upd_same, ((hA3.imp fun _ _ z => T8 _ _ (E37 _ _ z)).app ?_), by omega, by omega, by omega, T8 _ _ (E37 _ _ hgt3), rfl⟩
          · rw [upd_ne fun z => by subst z; rcases hb with e | e | e | e; exact nWx e; exact nWn e; exact nWp e; exact nWc e]; exact h
          · exact All2.pairs fun p hp => T8 _ _ (hop p hp).1
        · have hop0 : op = [] := by
            cases op with
            | nil => rfl
            | cons a l => exact absurd rfl c2
          subst hop0
          have hkn2 : ∀ v, ∃ r, knB (halfT N' τ t v) (M' (halfT N' τ t v)) = some r := fun v => (hall v).elim id fun ⟨b, hb⟩ => nomatch hb
          obtain ⟨r0, hr0⟩ := hkn2 false
          obtain ⟨r1, hr1⟩ := hkn2 true
          have hHL7 := E7 _ _ hHL
          -- low, high
          refine ⟨_, rfl, HL, rfl, ⟨_, SqL.of hHL7⟩, fun LL nLL => wk_list (K := K) (a := HL) (xs := ([q0, q1] : List Addr).map V.ref) (fun j H' => Ex H7 H' ∧ H' LL = some (.lst (nV (([r0, r1] : List Nat).take j)))) ⟨Ex.new nLL, upd_same⟩ (fun j H' _ g => SqL.of (g.1 _ _ hHL7)) ?_ ?_⟩
          · rintro j y H8 hy ⟨E8, hLL⟩
            obtain ⟨b, hb, rfl⟩ := refs_get hy
            have hj : j < 2 := (List.getElem?_eq_some_iff.mp hb).1
            obtain ⟨σ, r, hσ, hkr, hbσ⟩ : ∃ σ r, ([r0, r1] : List Nat)[j]? = some r ∧ knB σ (M' σ) = some r ∧ TkAt H8 b σ := by
              match j, hj with
              | 0, _ => cases hb; exact ⟨_, _, rfl, hr0, E8 _ _ (E7 _ _ hq0)⟩
              | 1, _ => cases hb; exact ⟨_, _, rfl, hr1, E8 _ _ (E7 _ _ hq1)⟩
            refine ⟨rfl, tYes_in ?_⟩
            simp only [wipe, _root_.L2.start, List.map_cons, List.map_nil, List.length_cons, List.length_nil, Nat.reduceAdd, Nat.reduceSub, List.replicate_succ, List.replicate_zero, List.cons_append, List.nil_append, List.set_cons_zero, List.set_cons_succ]
            refine ⟨_, rfl, x, dx, _, rfl, E8 _ _ h17, noK _ _ _, _, rfl, x, nl, pl, ch, N', M', us, cl', b, σ, rfl, D7.ex E8, hbσ, _, hLL, sz_lt (by rw [nV_len, List.length_take]; show min j 2 < _; omega), E8.mut nLL, ?_⟩
            rw [upd_same, take_snoc1 hσ, nV_snoc, hkr]; rfl
          rintro H8 ⟨E8, hLL⟩
          have hLL : H8 LL = some (.lst [.int (r0 : Nat), .int (r1 : Nat)]) := hLL
          have E38 := E37.trans E8
          have D8 := D3.ex E38
          have h18 := E38 _ _ h1
          have hkok : ∀ v r, knB (halfT N' τ t v) (M' (halfT N' τ t v)) = some r → r < N'.length ∧ ∀ f, ev N' r f = tF N' (halfT N' τ t v) f := fun v r e => kn_ok (halfT_ok D3.good hokτ hTop.2).1 (fun r' e' => (D3.mem _ r' e').2) r e
          obtain ⟨lv0, lv1, hev⟩ := node_choice D3.good hokτ hTop.2 (hkok false r0 hr0) (hkok true r1 hr1)
          refine ⟨LL, _, rfl, SqL.of hLL, rfl, _, _, rfl, _, _, rfl, rfl, ?_⟩
          refine ⟨_, rfl, x, dx, _, rfl, h18, noN _ _ _, _, rfl, _, rfl, _, rfl, x, nl, pl, ch, N', M', us, cl', t, r0, r1, rfl, D8, hTop.mem hokτ D3.vars, (hkok false r0 hr0).1, (hkok true r1 hr1).1, lv0, lv1, by omega, fun r N2 H9 K9 D9 p9 hl9 hr9 hev9 => ?_⟩
          obtain ⟨dx9, h19⟩ := D9.ob
          obtain ⟨cs, h7, h8, h9⟩ := D9.fch
          have T89 := D8.tup K9
          have hta9 : TkAt H9 ta τ := T89 _ _ (E38 _ _ hta)
          refine ⟨_, rfl, x, C, dx9, _, _, rfl, h19, W.cl, W.n_chosen, dfl_c _ _ _, _, rfl, ch, _, rfl, DPut.t (k := keyT τ) h7 hta9 (szM (by omega)), ?_⟩
          have hWL9 : H9 WL = some (.lst ((sa0 ++ [ta]).map V.ref)) := K9 _ _ (E38 _ _ hWL3) nWn nWp nWc
          have T10 : TupEx H9 (upd H9 ch (.dT (putK cs (keyT τ) (.int (r : Nat))))) := .put h7 fun _ z => nomatch z
          have T310 := (TupEx.of E38).trans (T89.trans T10)
          have e2 : M' τ = none := (kn_none hkn).2
          have hM2 : ∀ σ r', M' σ = some r' → putM M' τ r σ = some r' := fun σ r' e => by
            unfold putM
            by_cases z : σ = τ
            · rw [z, e2] at e; cases e
            · rw [if_neg z]; exact e
          have hKn2 : Kn (putM M' τ r) τ := by
            refine ⟨r, ?_⟩
            have : putM M' τ r τ = some r := by unfold putM; rw [if_pos rfl]
            rw [this]
            have hkn' := hkn
            unfold knB at hkn' ⊢
            by_cases z1 : τ.c = 1 ∨ τ.a = τ.b
            · rw [if_pos z1] at hkn'; cases hkn'
            · rw [if_neg z1] at hkn' ⊢
              by_cases z2 : τ.c = 0
              · rw [if_pos z2] at hkn'; cases hkn'
              · rw [if_neg z2] at hkn' ⊢
                by_cases z3 : (τ.a = 1 ∨ τ.a = τ.c) ∧ (τ.b = 0 ∨ τ.b = τ.c)
                · rw [if_pos z3] at hkn'; cases hkn'
                · rw [if_neg z3]
          obtain ⟨I', hs'⟩ := I3.done (M' := putM M' τ r) D3.vars hnk hTop p9 hM2 hKn2
          obtain ⟨na9, hn9, hA9⟩ := D9.nodes
          obtain ⟨es9, hp9, hP9, hPl9⟩ := D9.fpl
          have nxc : x ≠ ch := ne_of h19 h7 (fun z => nomatch z)
          have nnc : nl ≠ ch := ne_of hn9 h7 (fun z => nomatch z)
          refine ⟨((K3.more E38).trans K9).trans (.own (.inr (.inr rfl))), N2, putM M' τ r, cl' + 1, S0 ++ [τ], ws0 ++ [1], sa0 ++ [ta], _, _, _, _, _, _,
            ⟨⟨dx9, by rw [upd_ne nxc]; exact h19⟩, ⟨na9, by rw [upd_ne nnc]; exact hn9, hA9.imp fun _ _ z => T10 _ _ z⟩, ⟨es9, by rw [upd_ne D9.ne]; exact hp9, hP9, hPl9⟩, ⟨_, upd_same, h8.put τ r, Nat.le_trans (length_putK _ _ _) (Nat.succ_le_succ h9)⟩, D9.good, ?_, D9.vars, D9.ne⟩,
            p3.trans p9, I', by rw [upd_ne nWc]; exact hWL9, hA3.imp fun _ _ z => T310 _ _ z, by omega, by omega, by omega, T310 _ _ hgt3, rfl⟩
          intro σ r' e
          unfold putM at e
          by_cases z : σ = τ
          · rw [if_pos z] at e
            cases e
            subst z
            refine ⟨hokτ.pre p9, hr9, fun f => ?_⟩
            rw [hev9, pre_tF D3.good p9 hokτ, ← hev f]
          · rw [if_neg z] at e
            exact D9.mem σ r' e
    · have hsa : sa = [] := by
        cases sa with
        | nil => rfl
        | cons a l => exact absurd rfl c1
      subst hsa
      have hS : S = [] := List.eq_nil_of_length_eq_zero hA3.1.symm
      subst hS
      obtain ⟨r, hr⟩ := I3.goal.elim id fun z => nomatch z
      have hokg := hok.pre p3
      obtain ⟨k1, k2⟩ := kn_ok hokg (fun r' e' => (D3.mem _ r' e').2) r hr
      refine ⟨_, rfl, x, dx, _, rfl, h1, noK _ _ _, _, rfl, x, nl, pl, ch, N', M', us, cl', gt, goal, rfl, D3, hgt3, ?_⟩
      rw [hr]
      exact q r N' M' H3 K3 (D3.cl_le (by omega)) p3 (by omega) k1 fun f => by rw [k2, pre_tF D.good p3 hok]
end
end G
namespace G
open PySem PySem.Spec PyProof.Rows L2 Evl TL
/-! ## what a class's __init__ keeps: all but the new object -/
def ExB (x : Addr) (H H' : Hp) : Prop := ∀ b o, H b = some o → b ≠ x → H' b = some o
theorem ExB.of {x : Addr} {H H' : Hp} (e : Ex H H') : ExB x H H' := fun b o h _ => e b o h
theorem ExB.trans {x : Addr} {H H1 H2 : Hp} (a : ExB x H H1) (b : ExB x H1 H2) : ExB x H H2 := fun c o h n => b c o (a c o h n) n
theorem ExB.put {x : Addr} {H : Hp} {o : HO} : ExB x H (upd H x o) := fun b q h n => by rw [upd_ne n]; exact h
theorem ExB.made {x dx : Addr} {H H' : Hp} {o1 o2 : HO} (nx : H x = none) (nd : H dx = none) (e : ExB x (upd (upd H dx o1) x o2) H') : Ex H H' := fun b o h => by
  have h1 : b ≠ x := ne_of_none h nx
  have h2 : b ≠ dx := ne_of_none h nd
  exact e b o (by rw [upd_ne h1, upd_ne h2]; exact h) h1
theorem bmade_free {x dx L : Addr} {H : Hp} {o1 o2 : HO} (h : upd (upd H dx o1) x o2 L = none) : H L = none := by
  have h1 : L ≠ x := fun z => by rw [z, upd_same] at h; cases h
  rw [upd_ne h1] at h
  have h2 : L ≠ dx := fun z => by rw [z, upd_same] at h; cases h
  rw [upd_ne h2] at h; exact h
def N0 : List Nd := [⟨0, 0, 0⟩, ⟨0, 1, 1⟩]
theorem good0 : GoodN N0 := by
  have no : ∀ i n, 2 ≤ i → N0[i]? = some n → False := fun i n h e => by
    have := (List.getElem?_eq_some_iff.mp e).1
    have : i < 2 := this
    omega
  exact ⟨rfl, rfl, fun i n h e => (no i n h e).elim, fun i n h e => (no i n h e).elim, fun i j n h _ e => (no i n h e).elim⟩
section
variable {P : Program} {w : World} {K : PySem.W.Frag} {mg : Str → Option Value} {base : Heap} {C : Addr}
def spDInit (C : Addr) : Sp := fun vs H Q _ => ∃ (x dx : Addr), vs = [.ref x] ∧ H x = some (.ins C dx []) ∧ ∀ (nl pl ch : Addr) (H' : Hp), H nl = none → H pl = none → H ch = none → ExB x H H' → (∀ us, Dg C us 0 H' x nl pl ch N0 fun _ => none) → Q .non H'
theorem sc_Diagrams_init : FnScope ["self"] ["self"] (defScope s_Diagrams_init) := ⟨rfl, rfl, rfl, by decide +kernel, rfl, by decide +kernel, by decide +kernel⟩
theorem ok_Diagrams_init {f : Addr} {fd : FuncData} (F : Fun K "__init__" "Diagrams.__init__" s_Diagrams_init f fd) (W : Cl_Diagrams K mg C) (T : TxtG mg) : FnOk P w K mg base CX0 1 f fd ["self"] (spDInit C) := by
  obtain ⟨tT, g_TRUE⟩ := T.tT
  obtain ⟨tF, g_FALSE⟩ := T.fF
  refine F.ok sc_Diagrams_init (fun vs H Q E h => ?_) (fun cdv A outer s H vs Q E hr h => ?_)
  · obtain ⟨x, dx, rfl, _⟩ := h
    rfl
  · obtain ⟨x, dx, rfl, hx, q⟩ := h
    refine ⟨_, (pss_cons (ps_fld (pv 0) (pe_lst (pa_cons (pe_tup (pa_cons pe_int (pa_cons (gInt rfl g_FALSE) (pa_cons (gInt rfl g_FALSE) pa_nil)))) (pa_cons (pe_tup (pa_cons pe_int (pa_cons (gInt rfl g_TRUE) (pa_cons (gInt rfl g_TRUE) pa_nil)))) pa_nil))) rfl)
    (pss_cons (ps_fld (pv 0) pe_dnewT rfl)
    (pss_one (ps_fld (pv 0) pe_dnewT rfl)))), ?_⟩
    refine ⟨(by show 3 ≤ sizeLine; decide), fun t0 n0 => ⟨(by show 3 ≤ sizeLine; decide), fun t1 n1 => ⟨(by show 2 ≤ sizeLine; decide), fun nl nnl => ?_⟩⟩⟩
    have h0 : NdAt (upd H t0 (.tup [.int 0, .int 0, .int 0])) t0 ⟨0, 0, 0⟩ := upd_same
    have E0 : Ex H (upd H t0 (.tup [.int 0, .int 0, .int 0])) := Ex.new n0
    generalize upd H t0 (.tup [.int 0, .int 0, .int 0]) = H0 at *
    have h1 : NdAt (upd H0 t1 (.tup [.int 0, .int 1, .int 1])) t1 ⟨0, 1, 1⟩ := upd_same
    have E1 : Ex H0 (upd H0 t1 (.tup [.int 0, .int 1, .int 1])) := Ex.new n1
    generalize upd H0 t1 (.tup [.int 0, .int 1, .int 1]) = H1 at *
    have nn0 : H nl = none := fresh_back (E0.trans E1) nnl
    have E2 : Ex H1 (upd H1 nl (.lst [.ref t0, .ref t1])) := Ex.new nnl
    have hnl : upd H1 nl (.lst [.ref t0, .ref t1]) nl = some (.lst (([t0, t1] : List Addr).map V.ref)) := upd_same
    generalize upd H1 nl (.lst [.ref t0, .ref t1]) = H2 at *
    have E02 := E0.trans (E1.trans E2)
    have hA2 : All2 (NdAt H2) [t0, t1] N0 := .cons (E2 _ _ (E1 _ _ h0)) (.cons (E2 _ _ h1) .nil)
    have nxn : nl ≠ x := (ne_of_none hx nn0).symm
    refine ⟨_, rfl, x, C, dx, _, rfl, E02 _ _ hx, W.cl, W.n_nodes, (by show 0 < 1000; decide), ?_⟩
    have B3 : ExB x H (upd H2 x (.ins C dx (putF "_nodes" (.ref nl) []))) := (ExB.of E02).trans ExB.put
    have hx3 : upd H2 x (.ins C dx (putF "_nodes" (.ref nl) [])) x = some (.ins C dx (putF "_nodes" (.ref nl) [])) := upd_same
    have T3 : TupEx H2 (upd H2 x (.ins C dx (putF "_nodes" (.ref nl) []))) := .put (E02 _ _ hx) fun _ z => nomatch z
    have hnl3 : upd H2 x (.ins C dx (putF "_nodes" (.ref nl) [])) nl = some (.lst (([t0, t1] : List Addr).map V.ref)) := by rw [upd_ne nxn]; exact hnl
    have fr : ∀ b, upd H2 x (.ins C dx (putF "_nodes" (.ref nl) [])) b = none → H b = none := fun b z => by
      have hb : b ≠ x := fun y => by rw [y, upd_same] at z; cases z
      rw [upd_ne hb] at z
      exact fresh_back E02 z
    generalize upd H2 x (.ins C dx (putF "_nodes" (.ref nl) [])) = H3 at *
    refine fun pl npl => ?_
    have np0 := fr pl npl
    have E4 : Ex H3 (upd H3 pl (.dT [])) := Ex.new npl
    have hpl : upd H3 pl (.dT []) pl = some (.dT []) := upd_same
    generalize upd H3 pl (.dT []) = H4 at *
    have nxp : pl ≠ x := (ne_of_none hx np0).symm
    refine ⟨_, rfl, x, C, dx, _, rfl, E4 _ _ hx3, W.cl, W.n_places, (by show 1 < 1000; decide), ?_⟩
    have B5 : ExB x H3 (upd H4 x (.ins C dx (putF "_places" (.ref pl) (putF "_nodes" (.ref nl) [])))) := (ExB.of E4).trans ExB.put
    have hx5 : upd H4 x (.ins C dx (putF "_places" (.ref pl) (putF "_nodes" (.ref nl) []))) x = some (.ins C dx (putF "_places" (.ref pl) (putF "_nodes" (.ref nl) []))) := upd_same
    have T5 : TupEx H4 (upd H4 x (.ins C dx (putF "_places" (.ref pl) (putF "_nodes" (.ref nl) [])))) := .put (E4 _ _ hx3) fun _ z => nomatch z
    have hpl5 : upd H4 x (.ins C dx (putF "_places" (.ref pl) (putF "_nodes" (.ref nl) []))) pl = some (.dT []) := by rw [upd_ne nxp]; exact hpl
    have fr5 : ∀ b, upd H4 x (.ins C dx (putF "_places" (.ref pl) (putF "_nodes" (.ref nl) []))) b = none → H3 b = none := fun b z => by
      have hb : b ≠ x := fun y => by rw [y, upd_same] at z; cases z
      rw [upd_ne hb] at z
      exact fresh_back E4 z
    generalize upd H4 x (.ins C dx (putF "_places" (.ref pl) (putF "_nodes" (.ref nl) []))) = H5 at *
    refine fun ch nch => ?_
    have nc0 := fr ch (fr5 ch nch)
    have E6 : Ex H5 (upd H5 ch (.dT [])) := Ex.new nch
    have hch : upd H5 ch (.dT []) ch = some (.dT []) := upd_same
    have npc : pl ≠ ch := ne_of_none hpl5 nch
    generalize upd H5 ch (.dT []) = H6 at *
    have nxc : ch ≠ x := (ne_of_none hx nc0).symm
    refine ⟨_, rfl, x, C, dx, _, rfl, E6 _ _ hx5, W.cl, W.n_chosen, (by show 2 < 1000; decide), ?_⟩
    have B7 : ExB x H5 (upd H6 x (.ins C dx (dfl nl pl ch))) := (ExB.of E6).trans ExB.put
    have T7 : TupEx H6 (upd H6 x (.ins C dx (dfl nl pl ch))) := .put (E6 _ _ hx5) fun _ z => nomatch z
    have T27 : TupEx H2 (upd H6 x (.ins C dx (dfl nl pl ch))) := T3.trans ((TupEx.of E4).trans (T5.trans ((TupEx.of E6).trans T7)))
    refine q nl pl ch _ nn0 np0 nc0 (B3.trans (B5.trans B7)) fun us => ⟨⟨dx, upd_same⟩, ⟨[t0, t1], (B5.trans B7) _ _ hnl3 nxn, hA2.imp fun _ _ z => T27 _ _ z⟩, ⟨[], B7 _ _ hpl5 nxp, fun n => .inr ⟨fun i hi z => ?_, rfl⟩, Nat.zero_le _⟩, ⟨[], by rw [upd_ne nxc]; exact hch, fun _ => rfl, Nat.le_refl _⟩, good0, (fun _ _ z => nomatch z), fun i n hi z => ?_, npc⟩
    · have := (List.getElem?_eq_some_iff.mp z).1
      have : i < 2 := this
      omega
    · have := (List.getElem?_eq_some_iff.mp z).1
      have : i < 2 := this
      omega
def spVariable (C B : Addr) : Sp := fun vs H Q E => ∃ (x nl pl ch : Addr) (N : List Nd) (M : Tsk → Option Nat) (us : List Nat) (cl : Nat) (k : Int), vs = [.ref x, .int k] ∧ Dg C us cl H x nl pl ch N M ∧ N.length ≤ 9000000 ∧
  (∀ n : Nat, k = n → n ∈ us ∧ ∀ (r : Nat) (N' : List Nd) (H' : Hp), Kp nl pl ch H H' → Dg C us cl H' x nl pl ch N' M → N <+: N' → N'.length ≤ N.length + 1 → r < N'.length → (∀ f, ev N' r f = f n) → Q (.int (r : Nat)) H') ∧ (k < 0 → ∀ H', Ex H H' → E (.ref B) none H')
theorem sc_Diagrams_variable : FnScope ["self", "k"] ["self", "k"] (defScope s_Diagrams_variable) := ⟨rfl, rfl, rfl, by decide +kernel, rfl, by decide +kernel, by decide +kernel⟩
theorem ok_Diagrams_variable {B f2 : Addr} {d2 : FuncData} {f : Addr} {fd : FuncData} (F : Fun K "variable" "Diagrams.variable" s_Diagrams_variable f fd) (W : Cl_Diagrams K mg C) (T : TxtG mg) (UB : ExcT K mg "BadArgument" B)
    (M_Diagrams_node : Meth K C "_node" f2) (G_Diagrams_node : FnOk P w K mg base CX0 1 f2 d2 ["self", "k", "low", "high"] (spNode C)) (b_Diagrams_node : Binds K d2 ["self", "k", "low", "high"] []) : FnOk P w K mg base (L2.CX P w) 2 f fd ["self", "k"] (spVariable C B) := by
  have c_Diagrams := W.cl
  obtain ⟨tT, g_TRUE⟩ := T.tT
  obtain ⟨tF, g_FALSE⟩ := T.fF
  refine F.okX sc_Diagrams_variable (fun vs H Q E h => ?_) (fun cdv A outer s H vs Q E hr h => ?_)
  · obtain ⟨x, nl, pl, ch, N, M, us, cl, k, rfl, _⟩ := h
    rfl
  · obtain ⟨x, nl, pl, ch, N, M, us, cl, k, rfl, D, hn, q1, q2⟩ := h
    refine ⟨_, (pss_cons (ps_if (pt_cmpR op_lt (pv 1) pe_int (nomark _))
      (pss_one (ps_raise rfl (takes_of rfl rfl rfl rfl) (pmk_ownA PySem.F.excBase_ValueError UB.xP UB.gC UB.kC (raises_own UB.bC UB.tC) rfl (pa_cons pe_str pa_nil))))
      pss_nil)
    (pss_one (ps_ret (pe_meth (pv 0) c_Diagrams M_Diagrams_node G_Diagrams_node (hr.mono (by omega)) b_Diagrams_node .nil pass0 (pa_cons (pv 1) (pa_cons (gInt rfl g_FALSE) (pa_cons (gInt rfl g_TRUE) pa_nil))))))), ?_⟩
    obtain ⟨dx, h1⟩ := D.ob
    have two := D.good.two
    refine ⟨_, rfl, _, _, rfl, rfl, _, rfl, ite2 (fun c1 => ?_) (fun c1 => ?_)⟩
    · exact ⟨(by show 1 ≤ sizeLine; decide), q2 (of_decide_eq_true c1) H (.refl _)⟩
    · have hk : ¬ k < 0 := fun z => c1 (decide_eq_true z)
      obtain ⟨n, rfl⟩ : ∃ n : Nat, k = n := ⟨k.toNat, by omega⟩
      obtain ⟨hu, q⟩ := q1 n rfl
      refine ⟨_, rfl, x, dx, _, rfl, h1, dfl_no _ _ _ (by decide +kernel) (by decide +kernel) (by decide +kernel), _, rfl, x, nl, pl, ch, N, M, us, cl, n, 0, 1, rfl, D, hu, by omega, by omega, (fun _ h => absurd h (by decide)), (fun _ h => absurd h (by decide)), hn, fun r N' H' K' D' p hl hr hev => q r N' H' K' D' p hl hr fun f => ?_⟩
      rw [hev, ev_lt2 (a := 0) (by decide), ev_lt2 (a := 1) (by decide)]
      cases f n <;> rfl
def bitF (bs : List Bool) : Nat → Bool := fun k => bs.getD k false
def spValue (C : Addr) : Sp := fun vs H Q _ => ∃ (x nl pl ch : Addr) (N : List Nd) (M : Tsk → Option Nat) (us : List Nat) (cl a : Nat) (b : Addr) (bs : List Bool), vs = [.ref x, .int (a : Nat), .ref b] ∧ Dg C us cl H x nl pl ch N M ∧ a < N.length ∧ (H b = some (.lst (bs.map V.bl)) ∨ H b = some (.tup (bs.map V.bl))) ∧ (∀ u ∈ us, u < bs.length) ∧ Q (.bl (ev N a (bitF bs))) H
theorem sc_Diagrams_value : FnScope ["self", "a", "bits", "node"] ["self", "a", "bits"] (defScope s_Diagrams_value) := ⟨rfl, rfl, rfl, by decide +kernel, rfl, by decide +kernel, by decide +kernel⟩
theorem ok_Diagrams_value {f0 : Addr} {d0 : FuncData} {f : Addr} {fd : FuncData} (F : Fun K "value" "Diagrams.value" s_Diagrams_value f fd) (W : Cl_Diagrams K mg C) (T : TxtG mg)
    (M_Diagrams_half : Meth K C "_half" f0) (G_Diagrams_half : FnOk P w K mg base CX0 1 f0 d0 ["self", "a", "k", "value"] (spHalf C)) (b_Diagrams_half : Binds K d0 ["self", "a", "k", "value"] []) : FnOk P w K mg base CX0 2 f fd ["self", "a", "bits"] (spValue C) := by
  have c_Diagrams := W.cl
  obtain ⟨tT, g_TRUE⟩ := T.tT
  refine F.ok sc_Diagrams_value (fun vs H Q E h => ?_) (fun cdv A outer s H vs Q E hr h => ?_)
  · obtain ⟨x, nl, pl, ch, N, M, us, cl, a, b, bs, rfl, _⟩ := h
    rfl
  · obtain ⟨x, nl, pl, ch, N, M, us, cl, a, b, bs, rfl, D, ha, hb, hu, q⟩ := h
    refine ⟨_, (pss_cons (ps_set (i := 3) sc_Diagrams_value.nd rfl (.inl rfl) (pv 1))
    (pss_cons (ps_while PassesOwn.never (pt_cmpR op_gt (pv 3) (gInt rfl g_TRUE) (nomark _))
      (pss_one (ps_set (i := 3) sc_Diagrams_value.nd rfl (.inl rfl) (pe_meth (pv 0) c_Diagrams M_Diagrams_half G_Diagrams_half (hr.mono (by omega)) b_Diagrams_half .nil pass0 (pa_cons (pv 3) (pa_cons (pe_ix ix_tup (pe_ix ix_list (pe_fld (pv 0) rfl) (pv 3) (fun _ _ => rfl)) pe_int (fun _ _ => rfl)) (pa_cons (pe_ix ix_seq (pv 2) (pe_ix ix_tup (pe_ix ix_list (pe_fld (pv 0) rfl) (pv 3) (fun _ _ => rfl)) pe_int (fun _ _ => rfl)) (fun _ _ => rfl)) pa_nil)))))))
    (pss_one (ps_ret (pe_cmpR op_eq (pv 3) (gInt rfl g_TRUE) (nomark _)))))), ?_⟩
    obtain ⟨dx, h1⟩ := D.ob
    refine ⟨_, rfl, ?_⟩
    refine ⟨fun μ σ H' => H' = H ∧ μ < N.length ∧ ev N μ (bitF bs) = ev N a (bitF bs) ∧ σ = [some (.ref x), some (.int (a : Nat)), some (.ref b), some (.int (μ : Nat))], ⟨a, rfl, ha, rfl, rfl⟩, ?_⟩
    rintro μ σ H' ⟨rfl, hμ, hev, rfl⟩
    refine ⟨_, rfl, _, _, rfl, rfl, _, rfl, ite2 (fun c1 => ?_) (fun c1 => ?_)⟩
    · have h2 : 2 ≤ μ := by have := of_decide_eq_true c1; omega
      obtain ⟨na, c, hn, hc, hnd⟩ := D.nd hμ
      have hku := D.vars μ _ h2 (nd_at hμ)
      have hkl := hu _ hku
      have hlk : (bs.map V.bl)[(ndA N μ).k]? = some (.bl (bitF bs (ndA N μ).k)) := by
        unfold bitF
        rw [List.getElem?_map, List.getD_eq_getElem?_getD, List.getElem?_eq_getElem hkl]; rfl
      have go : ∀ R : VK, R (.bl (bitF bs (ndA N μ).k)) H' → rIx K (.ref b) (.int ((ndA N μ).k : Nat)) H' R := fun R r => hb.elim (fun z => .inl ⟨_, _, _, _, rfl, rfl, SqL.of z, at_of (j := (ndA N μ).k) rfl hlk, r⟩) fun z => .inr (.inl ⟨_, _, _, _, rfl, rfl, SqT.of z, at_of (j := (ndA N μ).k) rfl hlk, r⟩)
      refine ⟨fun σ' H2 => H2 = H' ∧ ∃ a', a' < μ ∧ ev N a' (bitF bs) = ev N a (bitF bs) ∧ σ' = [some (.ref x), some (.int (a : Nat)), some (.ref b), some (.int (a' : Nat))], ?_, ?_⟩
      · rintro σ' H2 ⟨rfl, a', b1, b2, rfl⟩
        exact ⟨a', b1, rfl, by omega, b2, rfl⟩
      refine ⟨_, rfl, x, dx, _, rfl, h1, dfl_no _ _ _ (by decide +kernel) (by decide +kernel) (by decide +kernel), _, rfl, _, rfl, x, C, dx, _, _, rfl, h1, W.cl, W.n_nodes, dfl_n _ _ _, _, rfl, _, _, _, _, rfl, rfl, SqL.of hn, at_of (j := μ) rfl hc, _, _, _, _, rfl, rfl, SqT.of hnd, atI_nat (j := 0) rfl, _, rfl, _, rfl, x, C, dx, _, _, rfl, h1, W.cl, W.n_nodes, dfl_n _ _ _, _, rfl, _, _, _, _, rfl, rfl, SqL.of hn, at_of (j := μ) rfl hc, _, _, _, _, rfl, rfl, SqT.of hnd, atI_nat (j := 0) rfl, go _ ?_⟩
      refine ⟨x, nl, pl, ch, N, M, us, cl, μ, (ndA N μ).k, bitF bs (ndA N μ).k, rfl, D, hμ, ?_⟩
      obtain ⟨l1, l2, _⟩ := D.good.lt μ _ h2 (nd_at hμ)
      have eh : halfA N μ (ndA N μ).k (bitF bs (ndA N μ).k) = if bitF bs (ndA N μ).k = true then (ndA N μ).hi else (ndA N μ).lo := by
        unfold halfA
        rw [if_neg fun z => z.elim (fun y => by omega) fun y => y rfl]
      refine ⟨rfl, _, ?_, ?_, rfl⟩
      · rw [eh]; split <;> assumption
      · rw [eh, ← ev_node D.good h2 (nd_at hμ)]; exact hev
    · have h2 : μ < 2 := by
        have : ¬ (μ : Int) > 1 := fun z => c1 (decide_eq_true z)
        omega
      refine ⟨_, rfl, rfl, ?_⟩
      have e : decide (V.int (μ : Nat) = V.int 1) = ev N a (bitF bs) := by
        rw [← hev, ev_lt2 h2, Bool.eq_iff_iff, decide_eq_true_iff, beq_iff_eq]
        exact ⟨fun z => by injection z; omega, fun z => by rw [z]; rfl⟩
      rw [e]
      exact q
end
end G
namespace G
open PySem PySem.Spec PyProof.Rows L2 Evl TL
section
variable {P : Program} {w : World} {K : PySem.W.Frag} {mg : Str → Option Value} {base : Heap} {C : Addr}
structure TxtY (mg : Str → Option Value) : Prop where
  len : mg "len" = none
  range : mg "range" = none
theorem rg2 {m : Nat} (h : m = 2 ∨ m = 4 ∨ m = 8 ∨ m = 16) : RgC 0 (m : Nat) 2 (m / 2) := by
  rcases h with e | e | e | e <;> subst e <;> exact ⟨by decide, by decide, by decide +kernel, by decide +kernel⟩
def spApplied (C : Addr) : Sp := fun vs H Q _ => ∃ (x nl pl ch : Addr) (N : List Nd) (M : Tsk → Option Nat) (us : List Nat) (cl : Nat) (t rl : Addr) (tab : List Bool) (rs : List Nat), vs = [.ref x, .ref t, .ref rl] ∧ Dg C us cl H x nl pl ch N M ∧ H t = some (.tup (tab.map V.bl)) ∧ H rl = some (.lst (nV rs)) ∧
  (rl ≠ nl ∧ rl ≠ pl ∧ rl ≠ ch) ∧ (∀ r ∈ rs, r < N.length) ∧ tab.length = 2 ^ rs.length ∧ rs.length ≤ 4 ∧ N.length + 16 * wT us.length ≤ 9000000 ∧ cl + 16 * wT us.length ≤ 9000000 ∧
  ∀ (r : Nat) (N' : List Nd) (M' : Tsk → Option Nat) (H' : Hp), Kp nl pl ch H H' → Dg C us (cl + 16 * wT us.length) H' x nl pl ch N' M' → N <+: N' → N'.length ≤ N.length + 16 * wT us.length → r < N'.length → (∀ f, ev N' r f = lookB tab (rs.map fun a => ev N a f)) → Q (.int (r : Nat)) H'
theorem sumB_cong {a b : List Bool} : ∀ j, (∀ i, i < j → a.getD i false = b.getD i false) → sumB a j = sumB b j
  | 0, _ => rfl
  | j + 1, h => by
    show sumB a j + _ = sumB b j + _
    rw [sumB_cong j fun i hi => h i (by omega), h j (by omega)]
theorem sc_Diagrams_applied : FnScope ["self", "table", "references", "rows", "part", "value", "k"] ["self", "table", "references"] (defScope s_Diagrams_applied) := ⟨rfl, rfl, rfl, by decide +kernel, rfl, by decide +kernel, by decide +kernel⟩
theorem ok_Diagrams_applied {f2 : Addr} {d2 : FuncData} {f : Addr} {fd : FuncData} (F : Fun K "applied" "Diagrams.applied" s_Diagrams_applied f fd) (W : Cl_Diagrams K mg C) (TG : TxtG mg) (T : TxtY mg)
    (M_Diagrams_choose : Meth K C "choose" f2) (G_Diagrams_choose : FnOk P w K mg base CX0 2 f2 d2 ["self", "c", "a", "b"] (spChoose C)) (b_Diagrams_choose : Binds K d2 ["self", "c", "a", "b"] []) : FnOk P w K mg base CX0 3 f fd ["self", "table", "references"] (spApplied C) := by
  have c_Diagrams := W.cl
  obtain ⟨tT, g_TRUE⟩ := TG.tT
  obtain ⟨tF, g_FALSE⟩ := TG.fF
  refine F.ok sc_Diagrams_applied (fun vs H Q E h => ?_) (fun cdv A outer s H vs Q E hr h => ?_)
  · obtain ⟨x, nl, pl, ch, N, M, us, cl, t, rl, tab, rs, rfl, _⟩ := h
    rfl
  · obtain ⟨x, nl, pl, ch, N, M, us, cl, t, rl, tab, rs, rfl, D, ht, hrl, nrl, hrs, htl, hn4, hb1, hb2, q⟩ := h
    refine ⟨_, (pss_cons (ps_set (i := 3) sc_Diagrams_applied.nd rfl (.inr rfl) (pe_lc (own := [("value", 5)]) (g := gName 5) (tt := tYes) rfl sc_Diagrams_applied.nd (pi_tup (pv 1)) (blkOk_by (N := ["self", "table", "references", "rows", "part", "value", "k"]) (sc := defScope s_Diagrams_applied) (own := [("value", 5)]) (by decide +kernel)) (fun _ _ _ _ _ => (pg_name (i := 5) sc_Diagrams_applied.nd rfl (.inl rfl))) (fun _ _ _ _ _ => pts_nil) (fun _ _ _ _ _ => (pe_ifExp (pt_val (pv 5)) (gInt rfl g_TRUE) (gInt rfl g_FALSE)))))
    (pss_cons (ps_for PassesOwn.never rfl (pi_list (pv 2)) (pg_name (i := 4) sc_Diagrams_applied.nd rfl (.inr rfl))
      (pss_one (ps_set (i := 3) sc_Diagrams_applied.nd rfl (.inr rfl) (pe_lc (own := [("k", 6)]) (g := gName 6) (tt := tYes) rfl sc_Diagrams_applied.nd (pi_range3 rfl T.range (pa_cons pe_int (pa_cons (pe_callB call_len_seq (by rfl) T.len (by decide +kernel) (pa_cons (pv 3) pa_nil)) (pa_cons pe_int pa_nil)))) (blkOk_by (N := ["self", "table", "references", "rows", "part", "value", "k"]) (sc := defScope s_Diagrams_applied) (own := [("k", 6)]) (by decide +kernel)) (fun _ _ _ _ _ => (pg_name (i := 6) sc_Diagrams_applied.nd rfl (.inl rfl))) (fun _ _ _ _ _ => pts_nil) (fun _ _ _ _ _ => (pe_meth (pv 0) c_Diagrams M_Diagrams_choose G_Diagrams_choose (hr.mono (by omega)) b_Diagrams_choose .nil pass0 (pa_cons (pv 4) (pa_cons (pe_ix (kIxL (K := K) rfl) (pv 3) (pe_op op_add (pv 6) pe_int) (fun _ _ => rfl)) (pa_cons (pe_ix (kIxL (K := K) rfl) (pv 3) (pv 6) (fun _ _ => rfl)) pa_nil)))))))))
    (pss_one (ps_ret (pe_ix ix_list (pv 3) pe_int (fun _ _ => rfl)))))), ?_⟩
    have two := D.good.two
    obtain ⟨dx, h1⟩ := D.ob
    have ne3 : ∀ {b : Addr}, H b = none → b ≠ x ∧ b ≠ nl ∧ b ≠ pl ∧ b ≠ ch := fun {b} nb => by
      obtain ⟨na, h2, _⟩ := D.nodes
      obtain ⟨es, h4, _⟩ := D.fpl
      obtain ⟨cs, h7, _⟩ := D.fch
      exact ⟨(ne_of_none h1 nb).symm, (ne_of_none h2 nb).symm, (ne_of_none h4 nb).symm, (ne_of_none h7 nb).symm⟩
    have htab16 : tab.length ≤ 16 := by rw [htl]; exact Nat.le_trans (Nat.pow_le_pow_right (by decide) hn4) (by decide)
    generalize hWd : wT us.length = W0 at *
    have hmul : ∀ c, c ≤ 16 → c * W0 ≤ 16 * W0 := fun c h => Nat.mul_le_mul_right _ h
    -- rows
    refine ⟨_, rfl, t, rfl, ⟨_, SqT.of ht⟩, fun R nR => wk_tup (K := K) (a := t) (xs := tab.map V.bl) (fun j H' => Ex H H' ∧ H' R = some (.lst (nV ((tab.take j).map fun b => if b = true then 1 else 0)))) ⟨Ex.new nR, upd_same⟩ (fun j H' _ g => SqT.of (g.1 _ _ ht)) ?_ ?_⟩
    · rintro j y H2 hy ⟨E2, hR⟩
      obtain ⟨b, hb, rfl⟩ := bls_get hy
      have hj : j < tab.length := (List.getElem?_eq_some_iff.mp hb).1
      refine ⟨rfl, tYes_in ?_⟩
      simp only [wipe, _root_.L2.start, List.map_cons, List.map_nil, List.length_cons, List.length_nil, Nat.reduceAdd, Nat.reduceSub, List.replicate_succ, List.replicate_zero, List.cons_append, List.nil_append, List.set_cons_zero, List.set_cons_succ]
      refine ⟨_, rfl, _, rfl, ite2 (fun c1 => ⟨_, hR, sz_lt (by rw [nV_len, List.length_map, List.length_take]; omega), E2.mut nR, ?_⟩) (fun c1 => ⟨_, hR, sz_lt (by rw [nV_len, List.length_map, List.length_take]; omega), E2.mut nR, ?_⟩)⟩
      · subst c1
        rw [upd_same, take_snoc1 hb, List.map_append]
        exact congrArg (fun z => some (HO.lst z)) (nV_snoc _ 1).symm
      · obtain rfl : b = false := by cases b with | true => exact absurd rfl c1 | false => rfl
        rw [upd_same, take_snoc1 hb, List.map_append]
        exact congrArg (fun z => some (HO.lst z)) (nV_snoc _ 0).symm
    rintro H2 ⟨E2, hR⟩
    rw [List.length_map, List.take_length] at hR
    have nRn := ne3 nR
    have hrl2 := E2 _ _ hrl
    -- the sum's places
    refine ⟨_, rfl, rl, rfl, ⟨_, SqL.of hrl2⟩, for_list (K := K) (a := rl) (xs := nV rs)
      (fun i σ H' => Kp nl pl ch H H' ∧ ∃ (N' : List Nd) (M' : Tsk → Option Nat) (cl' c : Nat) (R' : Addr) (rw_ : List Nat) (y4 : Option V), Dg C us cl' H' x nl pl ch N' M' ∧ N <+: N' ∧ N'.length ≤ N.length + c * W0 ∧ cl' ≤ cl + c * W0 ∧ H' R' = some (.lst (nV rw_)) ∧ (R' ≠ nl ∧ R' ≠ pl ∧ R' ≠ ch) ∧ rw_.length = 2 ^ (rs.length - i) ∧ c + rw_.length ≤ 16 ∧
        (∀ j r, rw_[j]? = some r → r < N'.length ∧ ∀ f, ev N' r f = tab.getD (j * 2 ^ i + sumB (rs.map fun a => ev N a f) i) false) ∧ σ = [some (.ref x), some (.ref t), some (.ref rl), some (.ref R'), y4, none, none])
      ⟨.of E2, N, M, cl, 0, R, _, _, D.ex E2, List.prefix_refl _, by rw [Nat.zero_mul]; exact Nat.le_refl _, by rw [Nat.zero_mul]; exact Nat.le_refl _, hR, ⟨nRn.2.1, nRn.2.2.1, nRn.2.2.2⟩, by rw [List.length_map, htl]; rfl, by rw [List.length_map]; omega, ?_, rfl⟩ (fun i σ H' _ g => SqL.of (g.1 _ _ hrl nrl.1 nrl.2.1 nrl.2.2)) ?_ ?_⟩
    · intro j r hr'
      rw [List.getElem?_map] at hr'
      cases e : tab[j]? with
      | none => rw [e] at hr'; cases hr'
      | some b =>
        rw [e] at hr'
        have : r = if b = true then 1 else 0 := (Option.some.inj hr').symm
        subst this
        refine ⟨by split <;> omega, fun f => ?_⟩
        have eS : sumB (rs.map fun a => ev N a f) 0 = 0 := rfl
        rw [eS, Nat.pow_zero, Nat.mul_one, Nat.add_zero, List.getD_eq_getElem?_getD, e]
        cases b
        · rw [if_neg Bool.false_ne_true]; exact ev_lt2 (by decide)
        · rw [if_pos rfl]; exact ev_lt2 (by decide)
    · rintro i y σ H3 hy ⟨K3, N3, M3, cl3, c, R3, rw_, y4, D3, p3, hl3, hcl3, hR3, nR3, hwl, hcw, hsem, rfl⟩
      obtain ⟨part, hp, rfl⟩ := nV_get hy
      have hi : i < rs.length := (List.getElem?_eq_some_iff.mp hp).1
      have hpl : part < N.length := hrs part (List.mem_of_getElem? hp)
      have hpl3 : part < N3.length := Nat.lt_of_lt_of_le hpl (pre_len p3)
      have hm2 : rw_.length = 2 * 2 ^ (rs.length - (i + 1)) := by
        rw [hwl, show rs.length - i = (rs.length - (i + 1)) + 1 by omega, Nat.pow_succ, Nat.mul_comm]
      have hm4 : rw_.length = 2 ∨ rw_.length = 4 ∨ rw_.length = 8 ∨ rw_.length = 16 := by
        have h4 : rs.length - (i + 1) ≤ 3 := by omega
        generalize rs.length - (i + 1) = e at *
        match e, h4 with
        | 0, _ => exact .inl hm2
        | 1, _ => exact .inr (.inl hm2)
        | 2, _ => exact .inr (.inr (.inl hm2))
        | 3, _ => exact .inr (.inr (.inr hm2))
        | n + 4, h => exact absurd h (by omega)
      have hhalf : rw_.length / 2 = 2 ^ (rs.length - (i + 1)) := by rw [hm2]; omega
      obtain ⟨dx3, h13⟩ := D3.ob
      refine ⟨_, rfl, _, _, rfl, .inl (SqL.of hR3), _, _, _, rw_.length / 2, by rw [nV_len], rg2 hm4, fun R4 nR4 => wk_it walk_rangeC
        (fun j H' => Kp nl pl ch H3 H' ∧ ∃ (N' : List Nd) (M' : Tsk → Option Nat) (cl' : Nat) (ac : List Nat), Dg C us cl' H' x nl pl ch N' M' ∧ N3 <+: N' ∧ N'.length ≤ N.length + (c + j) * W0 ∧ cl' ≤ cl + (c + j) * W0 ∧ H' R4 = some (.lst (nV ac)) ∧ ac.length = j ∧
          ∀ k r, ac[k]? = some r → r < N'.length ∧ ∀ f, ev N' r f = tab.getD (k * 2 ^ (i + 1) + sumB (rs.map fun a => ev N a f) (i + 1)) false)
        ⟨.of (Ex.new nR4), N3, M3, cl3, [], D3.ex (Ex.new nR4), List.prefix_refl _, hl3, hcl3, upd_same, rfl, (fun k r z => by rw [List.getElem?_nil] at z; cases z)⟩ (fun _ _ _ _ => trivial) ?_ ?_⟩
      · rintro j z H4 H5 hj ⟨K4, N4, M4, cl4, ac, D4, p4, hl4, hcl4, hR4, hacl, hac⟩ ⟨rfl, ez⟩
        have nR40 : H R4 = none := D3.free K3 nR4
        obtain ⟨q0, q1, q2, q3⟩ := ne3 nR40
        have ez2 : z = V.int ((2 * j : Nat) : Int) := ez.trans (by
          show V.int ((0 : Int) + ((j : Nat) : Int) * 2) = _
          rw [show (0 : Int) + ((j : Nat) : Int) * 2 = ((2 * j : Nat) : Int) by omega])
        subst ez2
        have hj2 : 2 * j + 1 < rw_.length := by omega
        obtain ⟨ra, hra⟩ : ∃ r, rw_[2 * j]? = some r := ⟨_, List.getElem?_eq_getElem (by omega)⟩
        obtain ⟨rb, hrb⟩ : ∃ r, rw_[2 * j + 1]? = some r := ⟨_, List.getElem?_eq_getElem hj2⟩
        obtain ⟨a1, a2⟩ := hsem _ _ hra
        obtain ⟨b1, b2⟩ := hsem _ _ hrb
        have nva : (nV rw_)[2 * j]? = some (.int (ra : Nat)) := by unfold nV; rw [List.getElem?_map, List.getElem?_map, hra]; rfl
        have nvb : (nV rw_)[2 * j + 1]? = some (.int (rb : Nat)) := by unfold nV; rw [List.getElem?_map, List.getElem?_map, hrb]; rfl
        have hR34 := K4 _ _ hR3 nR3.1 nR3.2.1 nR3.2.2
        obtain ⟨dx4, h14⟩ := D4.ob
        have hcj : c + j + 1 ≤ 16 := by omega
        have m1 := hmul _ hcj
        have e1 : (c + j + 1) * W0 = (c + j) * W0 + W0 := by rw [Nat.succ_mul]
        have pl4 := pre_len p4
        refine ⟨rfl, tYes_in ?_⟩
        simp only [wipe, _root_.L2.start, List.map_cons, List.map_nil, List.length_cons, List.length_nil, Nat.reduceAdd, Nat.reduceSub, List.replicate_succ, List.replicate_zero, List.cons_append, List.nil_append, List.set_cons_zero, List.set_cons_succ]
        refine ⟨_, rfl, x, dx4, _, rfl, h14, dfl_no _ _ _ (by decide +kernel) (by decide +kernel) (by decide +kernel), _, rfl, _, rfl, _, rfl, _, _, rfl, rfl, _, _, _, _, rfl, rfl, SqL.of hR34, at_of (j := 2 * j + 1) rfl nvb, _, rfl, _, rfl, _, _, _, _, rfl, rfl, SqL.of hR34, at_of (j := 2 * j) rfl nva, ?_⟩
        refine ⟨x, nl, pl, ch, N4, M4, us, cl4, ⟨part, rb, ra⟩, rfl, D4, ⟨Nat.lt_of_lt_of_le hpl3 pl4, Nat.lt_of_lt_of_le b1 pl4, Nat.lt_of_lt_of_le a1 pl4⟩, by rw [hWd]; omega, by rw [hWd]; omega, fun r N5 M5 H6 K6 D6 p6 hl6 hr6 hev6 => ?_⟩
        rw [hWd] at D6 hl6
        have hR46 := K6 _ _ hR4 q1 q2 q3
        have T7 : TupEx H6 (upd H6 R4 (.lst (nV ac ++ [.int (r : Nat)]))) := .put hR46 fun _ z => nomatch z
        refine ⟨_, hR46, sz_lt (by rw [nV_len]; omega), (K4.trans K6).mut nR4, N5, M5, _, ac ++ [r], D6.keep (fun b o hb h => ?_) T7, p4.trans p6, ?_, ?_, by rw [upd_same, nV_snoc], by rw [List.length_append, hacl]; rfl, fun k r' hk => ?_⟩
        · rw [upd_ne fun z => by subst z; rcases hb with e | e | e | e; exact q0 e; exact q1 e; exact q2 e; exact q3 e]; exact h
        · show N5.length ≤ N.length + (c + j + 1) * W0
          omega
        · show cl4 + W0 ≤ cl + (c + j + 1) * W0
          omega
        · by_cases z : k < ac.length
          · rw [List.getElem?_append_left z] at hk
            obtain ⟨u1, u2⟩ := hac k r' hk
            exact ⟨Nat.lt_of_lt_of_le u1 (pre_len p6), fun f => by rw [pre_ev D4.good p6 u1]; exact u2 f⟩
          · have := (List.getElem?_eq_some_iff.mp hk).1
            rw [List.length_append] at this
            have : k < ac.length + 1 := this
            obtain rfl : k = ac.length := by omega
            rw [List.getElem?_append_right (Nat.le_refl _), Nat.sub_self] at hk
            cases hk
            refine ⟨hr6, fun f => ?_⟩
            rw [hev6, hacl]
            show (if ev N4 part f = true then ev N4 rb f else ev N4 ra f) = _
            rw [pre_ev D3.good p4 b1, pre_ev D3.good p4 a1, pre_ev D3.good p4 hpl3, pre_ev D.good p3 hpl, a2, b2]
            have eS : sumB (rs.map fun a => ev N a f) (i + 1) = sumB (rs.map fun a => ev N a f) i + if (rs.map fun a => ev N a f).getD i false then 2 ^ i else 0 := rfl
            have eg : (rs.map fun a => ev N a f).getD i false = ev N part f := by rw [List.getD_eq_getElem?_getD, List.getElem?_map, hp]; rfl
            rw [eS, eg, Nat.pow_succ]
            have ej : j * (2 ^ i * 2) = 2 * j * 2 ^ i := by rw [Nat.mul_comm (2 ^ i) 2, ← Nat.mul_assoc, Nat.mul_comm j 2]
            cases ev N part f with
            | true =>
              rw [if_pos rfl, if_pos rfl, ej, Nat.succ_mul]
              congr 1
              omega
            | false =>
              rw [if_neg Bool.false_ne_true, if_neg Bool.false_ne_true, ej]; rfl
      · rintro H4 ⟨K4, N4, M4, cl4, ac, D4, p4, hl4, hcl4, hR4, hacl, hac⟩
        obtain ⟨q0, q1, q2, q3⟩ := ne3 (D3.free K3 nR4)
        exact ⟨K3.trans K4, N4, M4, cl4, c + rw_.length / 2, R4, ac, _, D4, p3.trans p4, hl4, hcl4, hR4, ⟨q1, q2, q3⟩, by rw [hacl]; exact hhalf, by rw [hacl]; omega, hac, rfl⟩
    · rintro σ H3 ⟨K3, N3, M3, cl3, c, R3, rw_, y4, D3, p3, hl3, hcl3, hR3, nR3, hwl, hcw, hsem, rfl⟩
      rw [nV_len] at hwl hsem
      rw [Nat.sub_self, Nat.pow_zero] at hwl
      obtain ⟨r, rfl⟩ : ∃ r, rw_ = [r] := by match rw_, hwl with | [r], _ => exact ⟨r, rfl⟩
      obtain ⟨a1, a2⟩ := hsem 0 r rfl
      have m1 := hmul c (by omega)
      refine ⟨_, rfl, _, _, _, _, rfl, rfl, SqL.of hR3, atI_nat (j := 0) rfl, q r N3 M3 H3 K3 (D3.cl_le (by omega)) p3 (by omega) a1 fun f => ?_⟩
      rw [a2, Nat.zero_mul, Nat.zero_add]
      unfold lookB
      rw [List.length_map]
end
end G
namespace G
open PySem PySem.Spec PyProof.Rows L2 Evl TL
section
variable {P : Program} {w : World} {K : PySem.W.Frag} {mg : Str → Option Value} {base : Heap} {C : Addr}
def vecF (d : CircD) (f : Nat → Bool) : List Bool := (List.range (srcs d).length).map f
theorem vecF_len (d : CircD) (f : Nat → Bool) : (vecF d f).length = (srcs d).length := by unfold vecF; rw [List.length_map, List.length_range]
def spSettle : Sp := fun vs H Q _ => ∃ (c vt : Addr) (d : CircD) (it gt rt ot : Addr) (ga ra oa : List Addr) (vec : List Bool) (val : Str → Bool), vs = [.ref c, .ref vt] ∧ CircAt H c d it gt rt ot ga ra oa ∧ Nets d ∧ H vt = some (.tup (vec.map V.bl)) ∧ vec.length = (srcs d).length ∧ Val d vec val ∧
  ∀ (q : Addr) (es : List (Key × V)) (H' : Hp), Ex H H' → H' q = some (.dK es) → Holds es (srcs d ++ gnames d) val → Q (.ref q) H'
theorem sc_settle : FnScope ["circuit", "vector"] ["circuit", "vector"] (defScope s_settle) := ⟨rfl, rfl, rfl, by decide +kernel, rfl, by decide +kernel, by decide +kernel⟩
theorem ok_settle (D : Dfd K mg "settle" s_settle ["circuit", "vector"]) (C1 : Has P w K mg base 2 "gate_order" ["circuit"] spOrder) (C2 : Has P w K mg base 2 "_settled" ["circuit", "order", "vector"] spSettled) : Has P w K mg base 3 "settle" ["circuit", "vector"] spSettle := by
  obtain ⟨f_gate_order, d_gate_order, G_gate_order, g_gate_order, k_gate_order, b_gate_order⟩ := C1
  obtain ⟨f_settled, d_settled, G_settled, g_settled, k_settled, b_settled⟩ := C2
  refine D.has fun f fd F => F.ok sc_settle (fun vs H Q E h => ?_) (fun cdv A outer s H vs Q E hr h => ?_)
  · obtain ⟨c, vt, d, it, gt, rt, ot, ga, ra, oa, vec, val, rfl, _⟩ := h
    rfl
  · obtain ⟨c, vt, d, it, gt, rt, ot, ga, ra, oa, vec, val, rfl, hc, hN, hvt, hvl, hV, q⟩ := h
    refine ⟨_, (pss_one (ps_ret (pe_call G_settled (hr.mono (by omega)) (by rfl) g_settled k_settled b_settled .nil pass0 (pa_cons (pv 0) (pa_cons (pe_call G_gate_order (hr.mono (by omega)) (by rfl) g_gate_order k_gate_order b_gate_order .nil pass0 (pa_cons (pv 0) pa_nil)) (pa_cons (pv 1) pa_nil)))))), ?_⟩
    exact ⟨_, rfl, _, rfl, c, d, it, gt, rt, ot, ga, ra, oa, rfl, hc, hN, fun ol H1 ord E1 nol hol hT => ⟨_, rfl, c, ol, vt, d, it, gt, rt, ot, ga, ra, oa, ord, vec, val, rfl, hc.te (.of E1), hN, hol, hT, E1 _ _ hvt, hvl, hV, fun q1 es H2 E2 hD hk => q q1 es H2 (E1.trans E2) hD hk⟩⟩
def RefsOk (d : CircD) (N : List Nd) (ns : List Str) (ρ : Str → Nat) : Prop := ∀ x ∈ ns, ρ x < N.length ∧ ∀ f, ev N (ρ x) f = valF d (vecF d f) x
theorem RefsOk.pre {d : CircD} {N N' : List Nd} {ns : List Str} {ρ : Str → Nat} (G0 : GoodN N) (p : N <+: N') (h : RefsOk d N ns ρ) : RefsOk d N' ns ρ := fun x hx => by
  obtain ⟨h1, h2⟩ := h x hx
  exact ⟨Nat.lt_of_lt_of_le h1 (pre_len p), fun f => by rw [pre_ev G0 p h1]; exact h2 f⟩
theorem RefsOk.put {d : CircD} {N : List Nd} {ns : List Str} {ρ : Str → Nat} (h : RefsOk d N ns ρ) {n : Str} {r : Nat} (hr : r < N.length) (e : ∀ f, ev N r f = valF d (vecF d f) n) : RefsOk d N (ns ++ [n]) (fun x => if x = n then r else ρ x) := fun x hx => by
  show (if x = n then r else ρ x) < N.length ∧ ∀ f, ev N (if x = n then r else ρ x) f = _
  by_cases z : x = n
  · rw [if_pos z, z]; exact ⟨hr, e⟩
  · rw [if_neg z]
    refine h x ((List.mem_append.mp hx).elim id fun y => absurd (List.mem_singleton.mp y) z)
theorem int_put {ρ : Str → Nat} {n : Str} {r : Nat} : (fun x => if x = n then V.int (r : Nat) else .int (ρ x : Nat)) = fun x => V.int ((if x = n then r else ρ x : Nat) : Int) := by
  funext x
  by_cases z : x = n
  · rw [if_pos z, if_pos z]
  · rw [if_neg z, if_neg z]
def spFuns (C : Addr) : Sp := fun vs H Q _ => ∃ (c x nl pl ch : Addr) (d : CircD) (it gt rt ot : Addr) (ga ra oa : List Addr) (N : List Nd) (M : Tsk → Option Nat) (cl : Nat), vs = [.ref c, .ref x] ∧ CircAt H c d it gt rt ot ga ra oa ∧ Nets d ∧ (∀ vec : List Bool, vec.length = (srcs d).length → ∃ val, Val d vec val) ∧ (srcs d).length ≤ 6 ∧ Dg C (List.range (srcs d).length) cl H x nl pl ch N M ∧ N.length ≤ 1000000 ∧ cl ≤ 1000000 ∧
  ∀ (q : Addr) (es : List (Key × V)) (ρ : Str → Nat) (N' : List Nd) (M' : Tsk → Option Nat) (H' : Hp), Kp nl pl ch H H' → H q = none → Dg C (List.range (srcs d).length) (cl + 100000) H' x nl pl ch N' M' → N <+: N' → N'.length ≤ N.length + 100000 → H' q = some (.dK es) → HoldsV es (srcs d ++ gnames d) (fun y => .int (ρ y : Nat)) → RefsOk d N' (srcs d ++ gnames d) ρ → Q (.ref q) H'
theorem sc_functions : FnScope ["circuit", "diagrams", "found", "g", "name", "table", "nets", "_", "k", "net"] ["circuit", "diagrams"] (defScope s_functions) := ⟨rfl, rfl, rfl, by decide +kernel, rfl, by decide +kernel, by decide +kernel⟩
theorem ok_functions {B f0 f1 : Addr} {d0 d1 : FuncData} (D0 : Dfd K mg "functions" s_functions ["circuit", "diagrams"]) (T : TxtM mg) (W : Cl_Diagrams K mg C) (C1 : Has P w K mg base 2 "gate_order" ["circuit"] spOrder) (C2 : Has P w K mg base 1 "sources" ["circuit"] spSources)
    (M_Diagrams_variable : Meth K C "variable" f0) (G_Diagrams_variable : FnOk P w K mg base (L2.CX P w) 2 f0 d0 ["self", "k"] (spVariable C B)) (b_Diagrams_variable : Binds K d0 ["self", "k"] [])
    (M_Diagrams_applied : Meth K C "applied" f1) (G_Diagrams_applied : FnOk P w K mg base CX0 3 f1 d1 ["self", "table", "references"] (spApplied C)) (b_Diagrams_applied : Binds K d1 ["self", "table", "references"] []) : Has P w K mg base 4 "functions" ["circuit", "diagrams"] (spFuns C) := by
  obtain ⟨f_gate_order, d_gate_order, G_gate_order, g_gate_order, k_gate_order, b_gate_order⟩ := C1
  obtain ⟨f_sources, d_sources, G_sources, g_sources, k_sources, b_sources⟩ := C2
  have c_Diagrams := W.cl
  refine D0.has fun f fd F => F.ok sc_functions (fun vs H Q E h => ?_) (fun cdv A outer s H vs Q E hr h => ?_)
  · obtain ⟨c, x, nl, pl, ch, d, it, gt, rt, ot, ga, ra, oa, N, M, cl, rfl, _⟩ := h
    rfl
  · obtain ⟨c, x, nl, pl, ch, d, it, gt, rt, ot, ga, ra, oa, N, M, cl, rfl, hc, hN, hval, hs6, D, hb1, hb2, q⟩ := h
    refine ⟨_, (pss_cons (ps_set (i := 2) sc_functions.nd rfl (.inr rfl) (pe_dc (own := [("k", 8), ("net", 9)]) (g := gTup K 2 (gCons (gName 8) (gCons (gName 9) gNil))) (tt := tYes) rfl sc_functions.nd (pi_enum (by rfl) T.enumerate (pa_cons (pe_call G_sources (hr.mono (by omega)) (by rfl) g_sources k_sources b_sources .nil pass0 (pa_cons (pv 0) pa_nil)) pa_nil)) (blkOk_by (N := ["circuit", "diagrams", "found", "g", "name", "table", "nets", "_", "k", "net"]) (sc := defScope s_functions) (own := [("k", 8), ("net", 9)]) (by decide +kernel)) (fun _ _ _ _ _ => (pg_tup rfl (pgs_cons (pg_name (i := 8) sc_functions.nd rfl (.inl rfl)) (pgs_cons (pg_name (i := 9) sc_functions.nd rfl (.inl rfl)) pgs_nil)))) (fun _ _ _ _ _ => pts_nil) (fun _ _ _ _ _ => (pv 9)) (fun _ _ _ _ _ => (pe_meth (pv 1) c_Diagrams M_Diagrams_variable G_Diagrams_variable (hr.mono (by omega)) b_Diagrams_variable .nil passX0 (pa_cons (pv 8) pa_nil)))))
    (pss_cons (ps_for PassesOwn.never rfl (pi_list (pe_call G_gate_order (hr.mono (by omega)) (by rfl) g_gate_order k_gate_order b_gate_order .nil pass0 (pa_cons (pv 0) pa_nil))) (pg_name (i := 3) sc_functions.nd rfl (.inl rfl))
      (pss_cons (ps_asg (pe_ix ix_tup (pe_ix ix_tup (pv 0) pe_int (fun _ _ => rfl)) (pv 3) (fun _ _ => rfl)) (pg_tup rfl (pgs_cons (pg_name (i := 4) sc_functions.nd rfl (.inl rfl)) (pgs_cons (pg_name (i := 5) sc_functions.nd rfl (.inl rfl)) (pgs_cons (pg_name (i := 6) sc_functions.nd rfl (.inl rfl)) (pgs_cons (pg_name (i := 7) sc_functions.nd rfl (.inl rfl)) pgs_nil))))))
      (pss_one (ps_asg (pe_meth (pv 1) c_Diagrams M_Diagrams_applied G_Diagrams_applied (hr.mono (by omega)) b_Diagrams_applied .nil pass0 (pa_cons (pv 5) (pa_cons (pe_lc (own := [("net", 9)]) (g := gName 9) (tt := tYes) rfl sc_functions.nd (pi_tup (pv 6)) (blkOk_by (N := ["circuit", "diagrams", "found", "g", "name", "table", "nets", "_", "k", "net"]) (sc := defScope s_functions) (own := [("net", 9)]) (by decide +kernel)) (fun _ _ _ _ _ => (pg_name (i := 9) sc_functions.nd rfl (.inl rfl))) (fun _ _ _ _ _ => pts_nil) (fun _ _ _ _ _ => (pe_dget (hu_of hr) (pv 2) (pv 9) (fun _ _ => rfl)))) pa_nil))) (pg_sub (pv 2) (pv 4) (set_dict (hu_of hr)))))))
    (pss_one (ps_ret (pv 2))))), ?_⟩
    have hg16 := hN.few
    have hnl : (gnames d).length = d.gates.length := List.length_map _
    have hnd : (needN d).length = d.gates.length := by unfold needN; rw [List.length_map]
    obtain ⟨dx, h1⟩ := D.ob
    have ne3 : ∀ {b : Addr}, H b = none → b ≠ x ∧ b ≠ nl ∧ b ≠ pl ∧ b ≠ ch := fun {b} nb => by
      obtain ⟨na, h2, _⟩ := D.nodes
      obtain ⟨es, h4, _⟩ := D.fpl
      obtain ⟨cs, h7, _⟩ := D.fch
      exact ⟨(ne_of_none h1 nb).symm, (ne_of_none h2 nb).symm, (ne_of_none h4 nb).symm, (ne_of_none h7 nb).symm⟩
    have hV : ∀ f, Val d (vecF d f) (valF d (vecF d f)) := fun f => valF_ok (hval _ (vecF_len d f))
    have hW : wT (List.range (srcs d).length).length ≤ 253 := by
      rw [List.length_range]
      exact Nat.le_trans (wT_mono hs6) (by decide)
    -- the sources
    refine ⟨_, rfl, c, d, it, gt, rt, ot, ga, ra, oa, rfl, hc, by omega, fun l H1 nl0 E1 hl => ⟨l, _, rfl, SqL.of hl, fun Dc nDc => wk_it walk_enum
      (fun j H' => Kp nl pl ch H1 H' ∧ ∃ (es : List (Key × V)) (ρ : Str → Nat) (N1 : List Nd), H' Dc = some (.dK es) ∧ es.length ≤ j ∧ HoldsV es ((srcs d).take j) (fun y => .int (ρ y : Nat)) ∧ Dg C (List.range (srcs d).length) cl H' x nl pl ch N1 M ∧ N <+: N1 ∧ N1.length ≤ N.length + j ∧ RefsOk d N1 ((srcs d).take j) ρ)
      ⟨.of (Ex.new nDc), [], fun _ => 0, N, upd_same, Nat.le_refl _, HoldsV.nil, (D.ex E1).ex (Ex.new nDc), List.prefix_refl _, Nat.le_refl _, (fun _ h => nomatch h)⟩ (fun j H' _ g => SqL.of (g.1 _ _ hl (ne3 nl0).2.1 (ne3 nl0).2.2.1 (ne3 nl0).2.2.2)) ?_ ?_⟩⟩
    · rintro j y H2 H3 hj ⟨K2, es, ρ, N1, hD, hel, hk, D2, p2, hl2, hR⟩ ⟨T1, x0, y0, rfl, nT, rfl, hx0, hy0⟩
      rw [List.length_map] at hj
      cases hx0
      obtain ⟨n, hn⟩ : ∃ n, (srcs d)[j]? = some n := ⟨_, List.getElem?_eq_getElem hj⟩
      obtain rfl : y0 = .str n := by
        have : ((srcs d).map V.str)[j]? = some y0 := hy0
        rw [List.getElem?_map, hn] at this
        cases this; rfl
      have nD0 : H Dc = none := fresh_back E1 nDc
      have nDk := ne3 nD0
      have E3 : Ex H2 (upd H2 T1 (.tup [.int (j : Nat), .str n])) := Ex.new nT
      refine ⟨T1, _, rfl, SqT.of upd_same, rfl, _, _, rfl, _, _, rfl, rfl, rfl, tYes_in ?_⟩
      simp only [wipe, _root_.L2.start, List.map_cons, List.map_nil, List.length_cons, List.length_nil, Nat.reduceAdd, Nat.reduceSub, List.replicate_succ, List.replicate_zero, List.cons_append, List.nil_append, List.set_cons_zero, List.set_cons_succ]
      have hD3 := E3 _ _ hD
      have D3 := D2.ex E3
      generalize upd H2 T1 (.tup [.int (j : Nat), .str n]) = H3 at *
      obtain ⟨dx3, h13⟩ := D3.ob
      refine ⟨_, rfl, _, rfl, x, dx3, _, rfl, h13, dfl_no _ _ _ (by decide +kernel) (by decide +kernel) (by decide +kernel), _, rfl, x, nl, pl, ch, N1, M, _, cl, _, rfl, D3, by omega, fun n' en => ⟨?_, fun r N4 H4 K4 D4 p4 hl4 hr4 hev4 => ?_⟩, fun z => absurd z (by omega)⟩
      · obtain rfl : n' = j := by omega
        exact List.mem_range.mpr hj
      · obtain rfl : n' = j := by omega
        have hD4 := K4 _ _ hD3 nDk.2.1 nDk.2.2.1 nDk.2.2.2
        have T5 : TupEx H4 (upd H4 Dc (.dK (putK es (.inr n) (.int (r : Nat))))) := .put hD4 fun _ z => nomatch z
        have hput := hk.put n (.int (r : Nat))
        rw [int_put, ← take_snoc1 hn] at hput
        have hRput := (hR.pre D2.good p4).put hr4 (n := n) fun f => by
          rw [hev4]
          have h := (hV f).src n' n hn
          unfold vecF at h
          rw [List.getElem?_map, List.getElem?_range hj] at h
          exact Option.some.inj h
        rw [← take_snoc1 hn] at hRput
        refine ⟨es, .inr n, rfl, hD4, sz_lt (by omega), ((K2.trans (.of E3)).trans K4).mut nDc, _, _, N4, upd_same, Nat.le_trans (length_putK _ _ _) (Nat.succ_le_succ hel), hput, D4.keep (fun b o hb h => ?_) T5, p2.trans p4, by omega, hRput⟩
        rw [upd_ne fun z => by subst z; rcases hb with e | e | e | e; exact nDk.1 e; exact nDk.2.1 e; exact nDk.2.2.1 e; exact nDk.2.2.2 e]; exact h
    rintro H2 ⟨K2, es, ρ, N1, hD, hel, hk, D2, p2, hl2, hR⟩
    rw [List.length_map] at hel hk hl2 hR
    rw [List.take_length] at hk hR
    have nD0 : H Dc = none := fresh_back E1 nDc
    have nDk := ne3 nD0
    have K02 := (Kp.of E1).trans K2
    have hc2 : CircAt H2 c d it gt rt ot ga ra oa := hc.te (D.tup K02)
    -- the gates, in the order
    refine ⟨_, rfl, c, d, it, gt, rt, ot, ga, ra, oa, rfl, hc2, hN, fun ol H3 ord E3 nol hol hT => ?_⟩
    have hol16 : ord.length ≤ 16 := by
      have := nodup_len _ _ hT.nd hT.lt
      omega
    have D3 := D2.ex E3
    have K03 := K02.more E3
    have nolk := ne3 (D2.free K02 nol)
    have hD3 := E3 _ _ hD
    have noD : ol ≠ Dc := fun z => by rw [z, hD] at nol; cases nol
    refine ⟨ol, rfl, ⟨_, SqL.of hol⟩, for_list (K := K) (a := ol) (xs := natsV ord)
      (fun i σ H' => Kp nl pl ch H H' ∧ ∃ (es : List (Key × V)) (ρ : Str → Nat) (N2 : List Nd) (M2 : Tsk → Option Nat) (cl2 : Nat) (y3 y4 y5 y6 y7 : Option V), H' ol = some (.lst (natsV ord)) ∧ H' Dc = some (.dK es) ∧ es.length ≤ (srcs d).length + i ∧ HoldsV es (srcs d ++ doneN d (ord.take i)) (fun y => .int (ρ y : Nat)) ∧ Dg C (List.range (srcs d).length) cl2 H' x nl pl ch N2 M2 ∧ N <+: N2 ∧ N2.length ≤ N.length + 10 + i * 4048 ∧ cl2 ≤ cl + i * 4048 ∧ RefsOk d N2 (srcs d ++ doneN d (ord.take i)) ρ ∧
        σ = [some (.ref c), some (.ref x), some (.ref Dc), y3, y4, y5, y6, y7, none, none])
      ⟨K03, es, ρ, N1, M, cl, _, _, _, _, _, hol, hD3, by omega, by rw [show doneN d (ord.take 0) = [] from rfl, List.append_nil]; exact hk, D3, p2, by omega, by omega, by rw [show doneN d (ord.take 0) = [] from rfl, List.append_nil]; exact hR, rfl⟩ (fun i σ H' _ g => by obtain ⟨_, _, _, _, _, _, _, _, _, _, _, h, _⟩ := g; exact SqL.of h) ?_ ?_⟩
    · rintro i y σ H4 hy ⟨K4, es, ρ, N2, M2, cl2, y3, y4, y5, y6, y7, hol4, hD, hel, hk, D4, p4, hl4, hcl4, hR, rfl⟩
      obtain ⟨k, hk1, rfl⟩ := nats_get hy
      have hkl := hT.lt k (List.mem_of_getElem? hk1)
      rw [hnd] at hkl
      obtain ⟨g, hg⟩ : ∃ g, d.gates[k]? = some g := ⟨_, List.getElem?_eq_getElem hkl⟩
      have hgm := List.mem_of_getElem? hg
      have hc4 : CircAt H4 c d it gt rt ot ga ra oa := hc.te (D.tup K4)
      obtain ⟨b, hb, t, pt, rgt, rla, hgt, htab, hpt, _⟩ := hc4.gates.of hg
      have hp3 := hN.fewp g hgm
      have hil : i < ord.length := (List.getElem?_eq_some_iff.mp hk1).1
      refine ⟨_, rfl, _, _, _, _, rfl, rfl, SqT.of hc4.top, atI_nat (j := 1) rfl, _, rfl, gt, _, _, .ref b, rfl, rfl, SqT.of hc4.gts, at_of (j := k) rfl (by rw [List.getElem?_map, hb]; rfl), b, _, rfl, SqT.of hgt, rfl, _, _, rfl, _, _, rfl, _, _, rfl, _, _, rfl, rfl, ?_⟩
      simp only [wipe, _root_.L2.start, List.map_cons, List.map_nil, List.length_cons, List.length_nil, Nat.reduceAdd, Nat.reduceSub, List.replicate_succ, List.replicate_zero, List.cons_append, List.nil_append, List.set_cons_zero, List.set_cons_succ]
      have hin : ∀ p ∈ g.pins, p ∈ srcs d ++ doneN d (ord.take i) := fun p hp => by
        rcases List.mem_append.mp (hN.pins g hgm p hp) with z | z
        · exact List.mem_append_left _ z
        · refine List.mem_append_right _ ?_
          have hneed : (gnames d).idxOf p ∈ (needN d).getD k [] := by
            unfold needN
            rw [List.getD_eq_getElem?_getD, List.getElem?_map, hg]
            exact List.mem_map.mpr ⟨p, List.mem_filter.mpr ⟨hp, decide_eq_true z⟩, rfl⟩
          have := hT.closed i k hk1 _ hneed
          refine List.mem_map.mpr ⟨_, this, ?_⟩
          rw [List.getD_eq_getElem?_getD, List.getElem?_eq_getElem (List.idxOf_lt_length_iff.mpr z)]
          exact List.getElem_idxOf _
      obtain ⟨dx4, h14⟩ := D4.ob
      refine ⟨_, rfl, x, dx4, _, rfl, h14, dfl_no _ _ _ (by decide +kernel) (by decide +kernel) (by decide +kernel), _, rfl, _, rfl, pt, rfl, ⟨_, SqT.of hpt⟩, fun L nL => wk_tup (K := K) (a := pt) (xs := g.pins.map V.str) (fun j H' => Ex H4 H' ∧ H' L = some (.lst (nV ((g.pins.take j).map ρ)))) ⟨Ex.new nL, upd_same⟩ (fun j H' _ z => SqT.of (z.1 _ _ hpt)) ?_ ?_⟩
      · rintro j y H5 hy ⟨E5, hL⟩
        obtain ⟨p, hp, rfl⟩ : ∃ p, g.pins[j]? = some p ∧ y = .str p := by
          rw [List.getElem?_map] at hy
          cases e : g.pins[j]? with
          | none => rw [e] at hy; cases hy
          | some p => rw [e] at hy; cases hy; exact ⟨p, rfl, rfl⟩
        refine ⟨rfl, tYes_in ?_⟩
        simp only [wipe, _root_.L2.start, List.map_cons, List.map_nil, List.length_cons, List.length_nil, Nat.reduceAdd, Nat.reduceSub, List.replicate_succ, List.replicate_zero, List.cons_append, List.nil_append, List.set_cons_zero, List.set_cons_succ]
        refine ⟨_, rfl, _, rfl, Dc, _, rfl, hk.at_ (E5 _ _ hD) (hin p (List.mem_of_getElem? hp)), _, hL, sz_lt (by rw [nV_len, List.length_map, List.length_take]; omega), E5.mut nL, ?_⟩
        rw [upd_same, take_snoc1 hp, List.map_append, ← nV_snoc]; rfl
      rintro H5 ⟨E5, hL⟩
      rw [List.length_map, List.take_length] at hL
      have D5 := D4.ex E5
      have K5 := K4.more E5
      have nLk := ne3 (D4.free K4 nL)
      have hW16 : 16 * wT (List.range (srcs d).length).length ≤ 4048 := by omega
      refine ⟨x, nl, pl, ch, N2, M2, _, cl2, t, L, g.tab, g.pins.map ρ, rfl, D5, E5 _ _ htab, hL, nLk.2, fun r hr' => ?_, by rw [List.length_map]; exact hN.tab g hgm, by rw [List.length_map]; omega, by omega, by omega, fun r N6 M6 H6 K6 D6 p6 hl6 hr6 hev6 => ?_⟩
      · obtain ⟨p, hp, rfl⟩ := List.mem_map.mp hr'
        exact (hR p (hin p hp)).1
      have hD6 := K6 _ _ (E5 _ _ hD) nDk.2.1 nDk.2.2.1 nDk.2.2.2
      have hol6 := K6 _ _ (E5 _ _ hol4) nolk.2.1 nolk.2.2.1 nolk.2.2.2
      have T7 : TupEx H6 (upd H6 Dc (.dK (putK es (.inr g.name) (.int (r : Nat))))) := .put hD6 fun _ z => nomatch z
      have hdn : doneN d (ord.take (i + 1)) = doneN d (ord.take i) ++ [g.name] := by
        unfold doneN
        rw [take_snoc1 hk1, List.map_append]
        show _ ++ [(gnames d).getD k _] = _
        unfold gnames
        rw [List.getD_eq_getElem?_getD, List.getElem?_map, hg]; rfl
      have hput := hk.put g.name (.int (r : Nat))
      rw [int_put, List.append_assoc, ← hdn] at hput
      have hRput := (hR.pre D4.good p6).put hr6 (n := g.name) fun f => by
        rw [hev6, (hV f).gate g hgm]
        congr 1
        rw [List.map_map]
        refine List.map_congr_left fun p hp => ?_
        exact (hR p (hin p hp)).2 f
      rw [List.append_assoc, ← hdn] at hRput
      refine ⟨_, rfl, _, rfl, Dc, _, rfl, .inl ⟨es, .inr g.name, hD6, rfl, sz_lt (by omega), rfl⟩, (K5.trans K6).mut nD0, _, _, N6, M6, _, _, _, _, _, _, by rw [upd_ne noD]; exact hol6, upd_same, Nat.le_trans (length_putK _ _ _) (by omega), hput, D6.keep (fun b o hb h => ?_) T7, p4.trans p6, by omega, by omega, hRput, rfl⟩
      rw [upd_ne fun z => by subst z; rcases hb with e | e | e | e; exact nDk.1 e; exact nDk.2.1 e; exact nDk.2.2.1 e; exact nDk.2.2.2 e]; exact h
    · rintro σ H4 ⟨K4, es, ρ, N2, M2, cl2, y3, y4, y5, y6, y7, hol4, hD, hel, hk, D4, p4, hl4, hcl4, hR, rfl⟩
      rw [nats_len] at hk hel hl4 hcl4 hR
      rw [List.take_length] at hk hR
      have same : ∀ x, x ∈ srcs d ++ doneN d ord ↔ x ∈ srcs d ++ gnames d := fun x => by
        rw [List.mem_append, List.mem_append]
        refine or_congr Iff.rfl ⟨fun z => ?_, fun z => ?_⟩
        · obtain ⟨k, hk2, rfl⟩ := List.mem_map.mp z
          have := hT.lt k hk2
          rw [List.getD_eq_getElem?_getD, List.getElem?_eq_getElem (by omega)]
          exact List.getElem_mem _
        · have hlt := List.idxOf_lt_length_iff.mpr z
          refine List.mem_map.mpr ⟨(gnames d).idxOf x, hT.all _ (by omega), ?_⟩
          rw [List.getD_eq_getElem?_getD, List.getElem?_eq_getElem hlt]
          exact List.getElem_idxOf _
      exact ⟨_, rfl, q Dc es ρ N2 M2 H4 K4 nD0 (D4.cl_le (by omega)) p4 (by omega) hD (hk.congr same) fun x hx => hR x ((same x).mpr hx)⟩
end
end G
namespace G
open PySem PySem.Spec PyProof.Rows L2 Evl TL
theorem perm_pw {α : Type} {R : α → α → Prop} (anti : ∀ x y, R x y → R y x → x = y) : ∀ {a b : List α}, a.Perm b → a.Pairwise R → b.Pairwise R → a = b
  | [], b, p, _, _ => (List.nil_perm.mp p).symm ▸ rfl
  | x :: a, [], p, _, _ => absurd p.length_eq (by simp)
  | x :: a, y :: b, p, ha, hb => by
    obtain ⟨ha1, ha2⟩ := List.pairwise_cons.mp ha
    obtain ⟨hb1, hb2⟩ := List.pairwise_cons.mp hb
    have e : x = y := by
      rcases List.mem_cons.mp (p.mem_iff.mp (List.mem_cons_self ..)) with z | z
      · exact z
      · rcases List.mem_cons.mp (p.mem_iff.mpr (List.mem_cons_self ..)) with w | w
        · exact w.symm
        · exact anti x y (ha1 y w) (hb1 x z)
    subst e
    rw [perm_pw anti (List.Perm.cons_inv p) ha2 hb2]
def leS (x y : Str) : Prop := ltCps y.cps.toList x.cps.toList = false
theorem leS_iff {x y : Str} : leS x y ↔ x.cps.toList ≤ y.cps.toList := by
  unfold leS
  rw [ltCps_eq, decide_eq_false_iff_not]
  exact Iff.rfl
theorem leS_trans {x y z : Str} (h1 : leS x y) (h2 : leS y z) : leS x z := leS_iff.mpr (List.le_trans (leS_iff.mp h1) (leS_iff.mp h2))
theorem leS_anti {x y : Str} (h1 : leS x y) (h2 : leS y x) : x = y := by
  have h := List.le_antisymm (leS_iff.mp h1) (leS_iff.mp h2)
  obtain ⟨⟨a⟩⟩ := x
  obtain ⟨⟨b⟩⟩ := y
  have : a = b := h
  rw [this]
theorem rising_pw : ∀ (l : List Str) (p : Str), risingS p l = true → (p :: l).Pairwise leS
  | [], p, _ => List.pairwise_singleton _ _
  | x :: l, p, h => by
    have h : (!ltCps x.cps.toList p.cps.toList && risingS x l) = true := h
    rw [Bool.and_eq_true, Bool.not_eq_true'] at h
    have ih := rising_pw l x h.2
    refine List.pairwise_cons.mpr ⟨fun y hy => ?_, ih⟩
    rcases List.mem_cons.mp hy with z | z
    · rw [z]; exact h.1
    · exact leS_trans (show leS p x from h.1) ((List.pairwise_cons.mp ih).1 y z)
theorem sorted_pw : ∀ {l : List Str}, sortedS l = true → l.Pairwise leS
  | [], _ => List.Pairwise.nil
  | x :: l, h => rising_pw l x h
theorem perm_mem {a b : List Str} (na : a.Nodup) (nb : b.Nodup) (h : ∀ x, x ∈ a ↔ x ∈ b) : a.Perm b := by
  rw [List.perm_iff_count]
  intro x
  by_cases hx : x ∈ a
  · have h1 := List.nodup_iff_count.mp na x
    have h2 := List.nodup_iff_count.mp nb x
    have h3 := List.count_pos_iff.mpr hx
    have h4 := List.count_pos_iff.mpr ((h x).mp hx)
    omega
  · rw [List.count_eq_zero.mpr hx, List.count_eq_zero.mpr fun z => hx ((h x).mpr z)]
theorem sort_eq {a b : List Str} (na : a.Nodup) (nb : b.Nodup) (h : ∀ x, x ∈ a ↔ x ∈ b) (sa : sortedS a = true) (sb : sortedS b = true) : a = b := perm_pw (fun _ _ => leS_anti) (perm_mem na nb h) (sorted_pw sa) (sorted_pw sb)
theorem ps_lockF {X : Cx} {tg iter : Expr} {body : List Stmt} {wi : TI} {g : TG} {tb : TS} {pos : Pos} (hp : PassesOwn (model X.prog X.w) X.A X.env X.xe) (hc : X.calm = true) (hi : PI X tg iter wi) (hg : PG X tg g) (hb : PSs X body tb)
    (hs : ∀ x, foldedSetIterable iter X.env x = pure x := by intro _; rfl) : PS X (.For tg iter body [] pos) (tLock (tFor wi g tb)) := ps_lock (ps_for hp hc hi hg hb hs)
theorem pow7D : ∀ {m : Nat}, m ≤ 6 → ([.int 1, .int 2, .int 4, .int 8, .int 16, .int 32, .int 64] : List V)[m]? = some (.int ((2 ^ m : Nat) : Int))
  | 0, _ => rfl
  | 1, _ => rfl
  | 2, _ => rfl
  | 3, _ => rfl
  | 4, _ => rfl
  | 5, _ => rfl
  | 6, _ => rfl
  | n + 7, h => absurd h (by omega)
def nvD (val : Str → Bool) (y : Str) : G.D := .tup [.str y, .bl (val y)]
section
variable {P : Program} {w : World} {K : PySem.W.Frag} {mg : Str → Option Value} {base : Heap} {C : Addr}
structure TxtZ (mg : Str → Option Value) : Prop where
  sorted : mg "sorted" = none
  dict : mg "dict" = none
def spListed : Sp := fun vs H Q _ => ∃ (k : Addr) (es : List (Key × V)) (ns : List Str) (val : Str → Bool), vs = [.ref k] ∧ H k = some (.dK es) ∧ Holds es ns val ∧ ns.Nodup ∧ ns.length < 60 ∧
  ∀ (l : Addr) (as : List Addr) (ys : List Str) (H' : Hp), Ex H H' → H' l = some (.lst (as.map V.ref)) → All2 (fun a y => H' a = some (.tup [.str y, .bl (val y)])) as ys → ys.Nodup → (∀ x, x ∈ ys ↔ x ∈ ns) → sortedS ys = true → Q (.ref l) H'
theorem sc_law_listed_values : FnScope ["known", "name"] ["known"] (defScope s_law_listed_values) := ⟨rfl, rfl, rfl, by decide +kernel, rfl, by decide +kernel, by decide +kernel⟩
theorem ok_law_listed_values (D : Dfd K mg "_law_listed_values" s_law_listed_values ["known"]) (T : TxtZ mg) : Has P w K mg base 1 "_law_listed_values" ["known"] spListed := by
  refine D.has fun f fd F => F.ok sc_law_listed_values (fun vs H Q E h => ?_) (fun cdv A outer s H vs Q E hr h => ?_)
  · obtain ⟨k, es, ns, val, rfl, _⟩ := h
    rfl
  · obtain ⟨k, es, ns, val, rfl, hk, hh, nd, hl, q⟩ := h
    refine ⟨_, (pss_one (ps_ret (pe_lc (own := [("name", 1)]) (g := gName 1) (tt := tYes) rfl sc_law_listed_values.nd (pi_list (pe_callB (call_sortedD rfl) (by rfl) T.sorted (by decide +kernel) (pa_cons (pv 0) pa_nil))) (blkOk_by (N := ["known", "name"]) (sc := defScope s_law_listed_values) (own := [("name", 1)]) (by decide +kernel)) (fun _ _ _ _ _ => (pg_name (i := 1) sc_law_listed_values.nd rfl (.inl rfl))) (fun _ _ _ _ _ => pts_nil) (fun _ _ _ _ _ => (pe_tup (pa_cons (pv 1) (pa_cons (pe_dget (hu_of hr) (pv 0) (pv 1) (fun _ _ => rfl)) pa_nil))))))), ?_⟩
    obtain ⟨ks, k1, k2, k3⟩ := hh.keys
    have pk := perm_mem k2 nd k3
    refine ⟨_, rfl, k, es, ks, rfl, .inl hk, k1, by rw [pk.length_eq]; omega, fun ys p hp hs np => ?_⟩
    have E1 : Ex H (upd H p (.lst (ys.map V.str))) := Ex.new np
    have h1 : upd H p (.lst (ys.map V.str)) p = some (.lst (ys.map V.str)) := upd_same
    generalize upd H p (.lst (ys.map V.str)) = H1 at *
    have hyl : ys.length < 60 := by rw [hp.length_eq, pk.length_eq]; exact hl
    have hym : ∀ x, x ∈ ys ↔ x ∈ ns := fun x => hp.mem_iff.trans (k3 x)
    refine ⟨p, rfl, ⟨_, SqL.of h1⟩, fun L nL => wk_list (K := K) (a := p) (xs := ys.map V.str)
      (fun j H' => Ex H1 H' ∧ ∃ as : List Addr, H' L = some (.lst (as.map V.ref)) ∧ All2 (fun a y => H' a = some (.tup [.str y, .bl (val y)])) as (ys.take j)) ⟨Ex.new nL, [], upd_same, .nil⟩ (fun j H' _ g => SqL.of (g.1 _ _ h1)) ?_ ?_⟩
    · rintro j z H2 hz ⟨E2, as, hL, hA⟩
      obtain ⟨y, hy, rfl⟩ : ∃ y, ys[j]? = some y ∧ z = .str y := by
        rw [List.getElem?_map] at hz
        cases e : ys[j]? with
        | none => rw [e] at hz; cases hz
        | some y => rw [e] at hz; cases hz; exact ⟨y, rfl, rfl⟩
      refine ⟨rfl, tYes_in ?_⟩
      simp only [wipe, _root_.L2.start, List.map_cons, List.map_nil, List.length_cons, List.length_nil, Nat.reduceAdd, Nat.reduceSub, List.replicate_succ, List.replicate_zero, List.cons_append, List.nil_append, List.set_cons_zero, List.set_cons_succ]
      refine ⟨_, rfl, _, rfl, _, rfl, k, _, rfl, hh.at_ ((E1.trans E2) _ _ hk) ((hym y).mp (List.mem_of_getElem? hy)), (by show 2 ≤ sizeLine; decide), fun t nt => ?_⟩
      have E3 : Ex H2 (upd H2 t (.tup [.str y, .bl (val y)])) := Ex.new nt
      have h3 : upd H2 t (.tup [.str y, .bl (val y)]) t = some (.tup [.str y, .bl (val y)]) := upd_same
      generalize upd H2 t (.tup [.str y, .bl (val y)]) = H3 at *
      have hL3 := E3 _ _ hL
      have T4 : TupEx H3 (upd H3 L (.lst (as.map V.ref ++ [.ref t]))) := .put hL3 fun _ z => nomatch z
      refine ⟨_, hL3, sz_lt (by rw [List.length_map, hA.1, List.length_take]; omega), (E2.trans E3).mut nL, as ++ [t], by rw [upd_same, List.map_append]; rfl, ?_⟩
      rw [take_snoc1 hy]
      exact (hA.imp fun _ _ z => T4 _ _ (E3 _ _ z)).snoc (T4 _ _ h3)
    · rintro H2 ⟨E2, as, hL, hA⟩
      rw [List.length_map, List.take_length] at hA
      exact q L as ys H2 (E1.trans E2) hL hA (hp.nodup_iff.mpr k2) hym hs
theorem rep_nv {H : Hp} {l : Addr} {as : List Addr} {ys : List Str} {val : Str → Bool} (h : H l = some (.lst (as.map V.ref))) (z : All2 (fun a y => H a = some (.tup [.str y, .bl (val y)])) as ys) : Rep H (.ref l) (.lst (ys.map (nvD val))) := by
  refine .lst h (by rw [List.length_map, List.length_map, z.1]) fun i x y hx hy => ?_
  obtain ⟨b, hb, rfl⟩ := refs_get hx
  rw [List.getElem?_map] at hy
  cases e : ys[i]? with
  | none => rw [e] at hy; cases hy
  | some r =>
    rw [e] at hy; cases hy
    refine .tup (z.2 i b r hb e) rfl fun j x y hx hy => ?_
    match j, hx, hy with
    | 0, hx, hy => cases hx; cases hy; exact .str r
    | 1, hx, hy => cases hx; cases hy; exact .bl _
theorem okD_nv {ys : List Str} {val : Str → Bool} (h : ys.length ≤ 1000) : okD 2 (.lst (ys.map (nvD val))) := ⟨by rw [List.length_map]; omega, fun d hd => by
  obtain ⟨y, _, rfl⟩ := List.mem_map.mp hd
  refine ⟨by show 2 < 2 ^ 61; decide, fun e he => ?_⟩
  simp only [List.mem_cons, List.not_mem_nil, or_false] at he
  rcases he with z | z <;> rw [z] <;> trivial⟩
end
end G
namespace G
open PySem PySem.Spec PyProof.Rows L2 Evl TL
section
variable {P : Program} {w : World} {K : PySem.W.Frag} {mg : Str → Option Value} {base : Heap} {C : Addr}
def spLaw (K : PySem.W.Frag) : Sp := fun vs H Q _ => ∃ (a : Addr) (ns : List Int), vs = [.ref a] ∧ SqL K H a (ns.map V.int) ∧ ns.length ≤ 63 ∧ ∀ H', Q (.bl true) H'
theorem canLay_strs {xs : List Str} (h : ∀ x ∈ xs, PyData.strOk x = true) : PyData.canLay0 (.list (xs.map PyData.str)) = true := by
  have := shaped_strs h
  simp [SeqAt.shaped] at this
  exact this.1
theorem sc_law : FnScope ["script", "pool", "circuit", "many", "diagrams", "found", "again", "index", "vector", "due", "actual", "name"] ["script"] (defScope s_law) := ⟨rfl, rfl, rfl, by decide +kernel, rfl, by decide +kernel, by decide +kernel⟩
theorem fn_law {f0 f1 : Addr} {d0 d1 : FuncData} {f : Addr} {fd : FuncData} (F : Fun K "law" "law" s_law f fd) (T : TxtS mg) (TZ : TxtZ mg) (W : Cl_Diagrams K mg C)
    (C1 : Has P w K mg base 1 "_law_pool" ["script"] (spPool K)) (C3 : Has P w K mg base 4 "_law_circuit" ["pool", "most"] spCirc) (C4 : Has P w K mg base 4 "functions" ["circuit", "diagrams"] (spFuns C))
    (C5 : Has P w K mg base 1 "_law_bits" ["index", "many"] spBits) (C6 : Has P w K mg base 2 "_law_settled" ["circuit", "vector"] spLSettled) (C7 : Has P w K mg base 3 "settle" ["circuit", "vector"] spSettle) (C8 : Has P w K mg base 1 "_law_listed_values" ["known"] spListed) (C9 : Has P w K mg base 3 "_law_same" ["actual", "due"] (spSame 3))
    (Mk_Diagrams : Mk K C f0) (G_Diagrams_init : FnOk P w K mg base CX0 1 f0 d0 ["self"] (spDInit C)) (b_Diagrams_init : Binds K d0 ["self"] [])
    (M_Diagrams_value : Meth K C "value" f1) (G_Diagrams_value : FnOk P w K mg base CX0 2 f1 d1 ["self", "a", "bits"] (spValue C)) (b_Diagrams_value : Binds K d1 ["self", "a", "bits"] []) : FnOk P w K mg base CX0 5 f fd ["script"] (spLaw K) := by
  obtain ⟨f_law_pool, d_law_pool, G_law_pool, g_law_pool, k_law_pool, b_law_pool⟩ := C1
  obtain ⟨f_law_circuit, d_law_circuit, G_law_circuit, g_law_circuit, k_law_circuit, b_law_circuit⟩ := C3
  obtain ⟨f_functions, d_functions, G_functions, g_functions, k_functions, b_functions⟩ := C4
  obtain ⟨f_law_bits, d_law_bits, G_law_bits, g_law_bits, k_law_bits, b_law_bits⟩ := C5
  obtain ⟨f_law_settled, d_law_settled, G_law_settled, g_law_settled, k_law_settled, b_law_settled⟩ := C6
  obtain ⟨f_settle, d_settle, G_settle, g_settle, k_settle, b_settle⟩ := C7
  obtain ⟨f_law_listed_values, d_law_listed_values, G_law_listed_values, g_law_listed_values, k_law_listed_values, b_law_listed_values⟩ := C8
  obtain ⟨f_law_same, d_law_same, G_law_same, g_law_same, k_law_same, b_law_same⟩ := C9
  have c_Diagrams := W.cl
  have g_Diagrams := W.gC
  refine F.ok sc_law (fun vs H Q E h => ?_) (fun cdv A outer s H vs Q E hr h => ?_)
  · obtain ⟨a, ns, rfl, _⟩ := h
    rfl
  · obtain ⟨sa, ns, rfl, hs, hn, q⟩ := h
    refine ⟨_, (pss_cons (ps_set (i := 1) sc_law.nd rfl (.inl rfl) (pe_call G_law_pool (hr.mono (by omega)) (by rfl) g_law_pool k_law_pool b_law_pool .nil pass0 (pa_cons (pv 0) pa_nil)))
    (pss_cons (ps_set (i := 2) sc_law.nd rfl (.inl rfl) (pe_call G_law_circuit (hr.mono (by omega)) (by rfl) g_law_circuit k_law_circuit b_law_circuit .nil pass0 (pa_cons (pv 1) (pa_cons pe_int pa_nil))))
    (pss_cons (ps_set (i := 3) sc_law.nd rfl (.inl rfl) (pe_op op_add (pe_callB call_len_seq (by rfl) T.len (by decide +kernel) (pa_cons (pe_ix ix_tup (pv 2) pe_int (fun _ _ => rfl)) pa_nil)) (pe_callB call_len_seq (by rfl) T.len (by decide +kernel) (pa_cons (pe_ix ix_tup (pv 2) pe_int (fun _ _ => rfl)) pa_nil))))
    (pss_cons (ps_set (i := 4) sc_law.nd rfl (.inl rfl) (pe_make0 Mk_Diagrams G_Diagrams_init (hr.mono (by omega)) (by rfl) g_Diagrams b_Diagrams_init .nil pass0))
    (pss_cons (ps_set (i := 5) sc_law.nd rfl (.inl rfl) (pe_call G_functions (hr.mono (by omega)) (by rfl) g_functions k_functions b_functions .nil pass0 (pa_cons (pv 2) (pa_cons (pv 4) pa_nil))))
    (pss_cons (ps_set (i := 6) sc_law.nd rfl (.inl rfl) (pe_call G_functions (hr.mono (by omega)) (by rfl) g_functions k_functions b_functions .nil pass0 (pa_cons (pv 2) (pa_cons (pv 4) pa_nil))))
    (pss_cons (ps_for PassesOwn.never rfl (pi_range1 rfl T.range (pa_cons (pe_ix ix_list (pe_lst (pa_cons pe_int (pa_cons pe_int (pa_cons pe_int (pa_cons pe_int (pa_cons pe_int (pa_cons pe_int (pa_cons pe_int pa_nil)))))))) (pv 3) (fun _ _ => rfl)) pa_nil)) (pg_name (i := 7) sc_law.nd rfl (.inl rfl))
      (pss_cons (ps_set (i := 8) sc_law.nd rfl (.inl rfl) (pe_call G_law_bits (hr.mono (by omega)) (by rfl) g_law_bits k_law_bits b_law_bits .nil pass0 (pa_cons (pv 7) (pa_cons (pv 3) pa_nil))))
      (pss_cons (ps_set (i := 9) sc_law.nd rfl (.inl rfl) (pe_call G_law_settled (hr.mono (by omega)) (by rfl) g_law_settled k_law_settled b_law_settled .nil pass0 (pa_cons (pv 2) (pa_cons (pv 8) pa_nil))))
      (pss_cons (ps_set (i := 10) sc_law.nd rfl (.inl rfl) (pe_call G_settle (hr.mono (by omega)) (by rfl) g_settle k_settle b_settle .nil pass0 (pa_cons (pv 2) (pa_cons (pv 8) pa_nil))))
      (pss_cut (ps_if (PW.pt (pw_or (pt_not (pt_val (pe_callB call_isi (by rfl) T.isinstance (by decide +kernel) (pa_cons (pv 10) (pa_cons (pe_bltn (v := .ty "dict") (by rfl) TZ.dict (by decide +kernel) rfl) pa_nil))))) (pw_or1 (pt_not (pt_val (pe_call G_law_same (hr.mono (by omega)) (by rfl) g_law_same k_law_same b_law_same .nil pass0 (pa_cons (pe_call G_law_listed_values (hr.mono (by omega)) (by rfl) g_law_listed_values k_law_listed_values b_law_listed_values .nil pass0 (pa_cons (pv 10) pa_nil)) (pa_cons (pe_call G_law_listed_values (hr.mono (by omega)) (by rfl) g_law_listed_values k_law_listed_values b_law_listed_values .nil pass0 (pa_cons (pv 9) pa_nil)) pa_nil))))))))
        (pss_one (ps_ret pe_bl))
        pss_nil)
      (pss_cut (ps_if (PW.pt (pw_or (pt_cmpR (op_neD hr.units) (pe_callB (call_sortedD rfl) (by rfl) TZ.sorted (by decide +kernel) (pa_cons (pv 5) pa_nil)) (pe_callB (call_sortedD rfl) (by rfl) TZ.sorted (by decide +kernel) (pa_cons (pv 9) pa_nil)) (nomark _)) (pw_or1 (pt_cmpR (op_neD hr.units) (pe_callB (call_sortedD rfl) (by rfl) TZ.sorted (by decide +kernel) (pa_cons (pv 6) pa_nil)) (pe_callB (call_sortedD rfl) (by rfl) TZ.sorted (by decide +kernel) (pa_cons (pv 9) pa_nil)) (nomark _)))))
        (pss_one (ps_ret pe_bl))
        pss_nil)
      (pss_one (ps_lockF PassesOwn.never rfl (pi_keys (pv 9)) (pg_name (i := 11) sc_law.nd rfl (.inl rfl))
        (pss_one (ps_if (PW.pt (pw_or (pt_not (pt_val (pe_call G_law_same (hr.mono (by omega)) (by rfl) g_law_same k_law_same b_law_same .nil pass0 (pa_cons (pe_meth (pv 4) c_Diagrams M_Diagrams_value G_Diagrams_value (hr.mono (by omega)) b_Diagrams_value .nil pass0 (pa_cons (pe_dget (hu_of hr) (pv 5) (pv 11) (fun _ _ => rfl)) (pa_cons (pv 8) pa_nil))) (pa_cons (pe_dget (hu_of hr) (pv 9) (pv 11) (fun _ _ => rfl)) pa_nil))))) (pw_or1 (pt_cmpR op_ne (pe_dget (hu_of hr) (pv 5) (pv 11) (fun _ _ => rfl)) (pe_dget (hu_of hr) (pv 6) (pv 11) (fun _ _ => rfl)) (nomark _)))))
          (pss_one (ps_ret pe_bl))
          pss_nil))))))))))
    (pss_one (ps_ret pe_bl))))))))), ?_⟩
    refine ⟨_, rfl, sa, ns, rfl, hs, by omega, fun p a H0 hp _ _ => ?_⟩
    refine ⟨_, rfl, p, a, 9, rfl, by decide, hp, fun c d Gs it gt rt ot ga ra oa H1 Y1 hc1 Wc => ?_⟩
    obtain ⟨hN, hval⟩ := nets_of Wc (by decide)
    have hs16 := hN.fews
    have hg16 := hN.few
    have hsl : (srcs d).length = d.ins.length + d.regs.length := by unfold srcs; rw [List.length_append, List.length_map]
    have hs6 : (srcs d).length ≤ 6 := by
      obtain ⟨n1, a1, a2, a3⟩ := Wc.ins
      obtain ⟨n2, b1, b2⟩ := Wc.regs
      have e1 := congrArg List.length a3
      have e2 := congrArg List.length b2
      rw [List.length_map, List.length_range] at e1
      rw [List.length_map, List.length_map, List.length_range] at e2
      omega
    have hnl : (gnames d).length = d.gates.length := List.length_map _
    have hnames : (srcs d ++ gnames d).length ≤ 32 := by rw [List.length_append, hnl]; omega
    have htx := hN.tx
    refine ⟨_, rfl, _, _, _, _, rfl, rfl, SqT.of hc1.top, atI_nat (j := 0) rfl, _, _, rfl, .inr (SqT.of hc1.ins), _, rfl, _, _, _, _, rfl, rfl, SqT.of hc1.top, atI_nat (j := 2) rfl, _, _, rfl, .inr (SqT.of hc1.rgs), _, _, rfl, rfl, ?_⟩
    have en : (((d.ins.map V.str).length : Nat) : Int) + (((ra.map V.ref).length : Nat) : Int) = (((srcs d).length : Nat) : Int) := by
      rw [List.length_map, List.length_map, hc1.regs.1, hsl]; omega
    dsimp only
    rw [en]
    -- the diagrams
    refine fun x dx nx nd ndx => ⟨x, dx, rfl, upd_same, fun nl pl ch H2 nnl npl nch B hD => ⟨rfl, ?_⟩⟩
    have E2 : Ex H1 H2 := ExB.made nx nd B
    have D2 := hD (List.range (srcs d).length)
    have hc2 := hc1.te (.of E2)
    have ne3 : ∀ {b : Addr}, H2 b = none → b ≠ x ∧ b ≠ nl ∧ b ≠ pl ∧ b ≠ ch := fun {b} nb => by
      obtain ⟨dx', h1⟩ := D2.ob
      obtain ⟨na, h2, _⟩ := D2.nodes
      obtain ⟨es, h4, _⟩ := D2.fpl
      obtain ⟨cs, h7, _⟩ := D2.fch
      exact ⟨(ne_of_none h1 nb).symm, (ne_of_none h2 nb).symm, (ne_of_none h4 nb).symm, (ne_of_none h7 nb).symm⟩
    -- found, again
    refine ⟨_, rfl, _, rfl, c, x, nl, pl, ch, d, it, gt, rt, ot, ga, ra, oa, N0, _, 0, rfl, hc2, hN, hval, hs6, D2, by decide, by decide, fun q1 es1 ρ1 N1 M1 H3 K3 nq1 D3 p3 hl3 hq1 hk1 hR1 => ?_⟩
    have q1k := ne3 nq1
    have hN0 : N0.length = 2 := rfl
    have hc3 : CircAt H3 c d it gt rt ot ga ra oa := hc2.te (D2.tup K3)
    refine ⟨_, rfl, _, rfl, c, x, nl, pl, ch, d, it, gt, rt, ot, ga, ra, oa, N1, M1, _, rfl, hc3, hN, hval, hs6, D3, by omega, by omega, fun q2 es2 ρ2 N2 M2 H4 K4 nq2 D4 p4 hl4 hq2 hk2 hR2 => ?_⟩
    have hq14 := K4 _ _ hq1 q1k.2.1 q1k.2.2.1 q1k.2.2.2
    have hR12 := hR1.pre D3.good p4
    have hc4 : CircAt H4 c d it gt rt ot ga ra oa := hc3.te (D3.tup K4)
    have same12 : ∀ y ∈ srcs d ++ gnames d, ρ1 y = ρ2 y := fun y hy => canon' D4.good (hR12 y hy).1 (hR2 y hy).1 fun f => by rw [(hR12 y hy).2, (hR2 y hy).2]
    -- all vectors
    refine ⟨(by show 7 ≤ sizeLine; decide), fun t5 n5 => ?_⟩
    have E5 : Ex H4 (upd H4 t5 (.lst [.int 1, .int 2, .int 4, .int 8, .int 16, .int 32, .int 64])) := Ex.new n5
    have h5 : upd H4 t5 (.lst [.int 1, .int 2, .int 4, .int 8, .int 16, .int 32, .int 64]) t5 = some (.lst [.int 1, .int 2, .int 4, .int 8, .int 16, .int 32, .int 64]) := upd_same
    generalize upd H4 t5 (.lst [.int 1, .int 2, .int 4, .int 8, .int 16, .int 32, .int 64]) = H5 at *
    have hp64 : 2 ^ (srcs d).length ≤ 64 := Nat.le_trans (Nat.pow_le_pow_right (by decide) hs6) (by decide)
    have pw := pow7 hs6
    generalize 2 ^ (srcs d).length = P2 at pw hp64
    refine ⟨_, rfl, _, _, _, _, rfl, rfl, SqL.of h5, at_of (j := (srcs d).length) rfl pw, _, rfl, by omega, by omega, for_range (n := ((P2 : Nat) : Int).toNat)
      (fun i σ H' => Ex H5 H' ∧ ∃ (y7 y8 y9 y10 y11 : Option V), σ = [some (.ref sa), some (.ref p), some (.ref c), some (.int ((srcs d).length : Nat)), some (.ref x), some (.ref q1), some (.ref q2), y7, y8, y9, y10, y11]) ⟨.refl _, _, _, _, _, _, rfl⟩ ?_ ?_⟩
    · rintro i σ H6 hi ⟨E6, y7, y8, y9, y10, y11, rfl⟩
      rw [Int.zero_add]
      refine ⟨_, rfl, _, rfl, i, (srcs d).length, rfl, by omega, fun vt H7 nvt E7 hvt => ?_⟩
      have hvl : (bitsOf i (srcs d).length).length = (srcs d).length := bitsOf_len _ _
      have hV := valF_ok (hval _ hvl)
      have E57 := E6.trans E7
      have hc7 := hc4.te (.of (E5.trans E57))
      refine ⟨_, rfl, _, rfl, c, vt, d, it, gt, rt, ot, ga, ra, oa, _, _, rfl, hc7, hN, hvt, hvl, hV, fun dd es3 H8 E8 hdd hk3 => ?_⟩
      have E58 := E57.trans E8
      refine ⟨_, rfl, _, rfl, c, vt, d, it, gt, rt, ot, ga, ra, oa, _, _, rfl, hc4.te (.of (E5.trans E58)), hN, E8 _ _ hvt, hvl, hV, fun da es4 H9 E9 hda hk4 => ?_⟩
      have E59 := E58.trans E9
      have hdd9 := E9 _ _ hdd
      generalize hvF : valF d (bitsOf i (srcs d).length) = val at *
      refine ⟨fun σ H' => Ex H9 H' ∧ σ = [some (.ref sa), some (.ref p), some (.ref c), some (.int ((srcs d).length : Nat)), some (.ref x), some (.ref q1), some (.ref q2), some (.int (i : Nat)), some (.ref vt), some (.ref dd), some (.ref da), y11], ?_, ?_⟩
      · refine ⟨_, rfl, _, _, _, _, _, rfl, .ty "dict", .base (.dK hda), kit_ty (a := "dict") (r := true) (by decide +kernel), _, rfl, iteF ?_⟩
        refine ⟨_, rfl, da, es4, _, _, rfl, hda, hk4, hN.nd, by omega, fun l1 as1 ys1 H10 E10 hl1 hA1 nd1 m1 s1 => ⟨_, rfl, dd, es3, _, _, rfl, E10 _ _ hdd9, hk3, hN.nd, by omega, fun l2 as2 ys2 H11 E11 hl2 hA2 nd2 m2 s2 => ?_⟩⟩
        have ey : ys1 = ys2 := sort_eq nd1 nd2 (fun z => (m1 z).trans (m2 z).symm) s1 s2
        subst ey
        have hyl : ys1.length ≤ 1000 := by
          have := (perm_mem nd1 hN.nd m1).length_eq
          omega
        exact ⟨_, _, .lst (ys1.map (nvD val)), rfl, rep_nv (E11 _ _ hl1) (hA1.imp fun _ _ z => E11 _ _ z), rep_nv hl2 hA2, okD_nv hyl, _, rfl, iteF ⟨E10.trans E11, rfl⟩⟩
      rintro σ H10 ⟨E10, rfl⟩
      have hdd10 := E10 _ _ hdd9
      have hq110 := (E5.trans (E59.trans E10)) _ _ hq14
      have hq210 := (E5.trans (E59.trans E10)) _ _ hq2
      refine ⟨fun σ H' => Ex H10 H' ∧ σ = [some (.ref sa), some (.ref p), some (.ref c), some (.int ((srcs d).length : Nat)), some (.ref x), some (.ref q1), some (.ref q2), some (.int (i : Nat)), some (.ref vt), some (.ref dd), some (.ref da), y11], ?_, ?_⟩
      · obtain ⟨ks1, a1, a2, a3⟩ := hk1.keys
        obtain ⟨ks2, b1, b2, b3⟩ := hk2.keys
        obtain ⟨ks3, c1, c2, c3⟩ := hk3.keys
        have l1 := (perm_mem a2 hN.nd a3).length_eq
        have l2 := (perm_mem b2 hN.nd b3).length_eq
        have l3 := (perm_mem c2 hN.nd c3).length_eq
        have cmp : ∀ {ks ys ys3 : List Str}, ks.Nodup → (∀ z, z ∈ ks ↔ z ∈ srcs d ++ gnames d) → ys.Perm ks → sortedS ys = true → ys3.Perm ks3 → sortedS ys3 = true → ys = ys3 ∧ ∀ z ∈ ys, PyData.strOk z = true := fun {ks ys ys3} n m pp ss pp3 ss3 =>
          ⟨sort_eq (pp.nodup_iff.mpr n) (pp3.nodup_iff.mpr c2) (fun z => (pp.mem_iff.trans (m z)).trans (pp3.mem_iff.trans (c3 z)).symm) ss ss3, fun z hz => htx z ((m z).mp (pp.mem_iff.mp hz))⟩
        have eqt : ∀ {ys : List Str}, (∀ z ∈ ys, PyData.strOk z = true) → (!PyData.eqv (.list (ys.map PyData.str)) (.list (ys.map PyData.str))) = false := fun {ys} ok => by
          rw [PySem.SeqAt.eqv_refl _ (canLay_strs ok)]; rfl
        refine ⟨_, rfl, q1, es1, ks1, rfl, .inl hq110, a1, by omega, fun y1 w1 r1 t1 n1 => ?_⟩
        have F1 : Ex H10 (upd H10 w1 (.lst (y1.map V.str))) := Ex.new n1
        have g1 : upd H10 w1 (.lst (y1.map V.str)) w1 = some (.lst (y1.map V.str)) := upd_same
        generalize upd H10 w1 (.lst (y1.map V.str)) = H11 at *
        refine ⟨_, rfl, dd, es3, ks3, rfl, .inl (F1 _ _ hdd10), c1, by omega, fun y2 w2 r2 t2 n2 => ?_⟩
        have F2 : Ex H11 (upd H11 w2 (.lst (y2.map V.str))) := Ex.new n2
        have g2 : upd H11 w2 (.lst (y2.map V.str)) w2 = some (.lst (y2.map V.str)) := upd_same
        generalize upd H11 w2 (.lst (y2.map V.str)) = H12 at *
        obtain ⟨e12, ok1⟩ := cmp a2 a3 r1 t1 r2 t2
        subst e12
        refine ⟨_, _, dp_strs (SqL.of (F2 _ _ g1)), dp_strs (SqL.of g2), shaped_strs ok1, shaped_strs ok1, _, rfl, iteN (eqt ok1) ?_⟩
        have F12 := F1.trans F2
        refine ⟨_, rfl, q2, es2, ks2, rfl, .inl (F12 _ _ hq210), b1, by omega, fun y3 w3 r3 t3 n3 => ?_⟩
        have F3 : Ex H12 (upd H12 w3 (.lst (y3.map V.str))) := Ex.new n3
        have g3 : upd H12 w3 (.lst (y3.map V.str)) w3 = some (.lst (y3.map V.str)) := upd_same
        generalize upd H12 w3 (.lst (y3.map V.str)) = H13 at *
        refine ⟨_, rfl, dd, es3, ks3, rfl, .inl (F3 _ _ (F12 _ _ hdd10)), c1, by omega, fun y4 w4 r4 t4 n4 => ?_⟩
        have F4 : Ex H13 (upd H13 w4 (.lst (y4.map V.str))) := Ex.new n4
        have g4 : upd H13 w4 (.lst (y4.map V.str)) w4 = some (.lst (y4.map V.str)) := upd_same
        generalize upd H13 w4 (.lst (y4.map V.str)) = H14 at *
        obtain ⟨e34, ok3⟩ := cmp b2 b3 r3 t3 r4 t4
        subst e34
        exact ⟨_, _, dp_strs (SqL.of (F4 _ _ g3)), dp_strs (SqL.of g4), shaped_strs ok3, shaped_strs ok3, _, rfl, iteN (eqt ok3) ⟨F12.trans (F3.trans F4), rfl⟩⟩
      rintro σ H11 ⟨E11, rfl⟩
      have E511 := E59.trans (E10.trans E11)
      have hdd11 := E11 _ _ hdd10
      have D11 := D4.ex (E5.trans E511)
      have hq111 := E11 _ _ hq110
      have hq211 := E11 _ _ hq210
      have hvt11 := (E8.trans (E9.trans (E10.trans E11))) _ _ hvt
      refine ⟨dd, .dK es3, hdd11, trivial, fun od => ?_⟩
      have hfz : upd H11 dd (.frz od (.dK es3)) dd = some (.frz od (.dK es3)) := upd_same
      have keepF : ∀ b o, b ≠ dd → H11 b = some o → upd H11 dd (.frz od (.dK es3)) b = some o := fun b o hb h => by rw [upd_ne hb]; exact h
      obtain ⟨dx11, h11⟩ := D11.ob
      obtain ⟨na11, hn11, hA11⟩ := D11.nodes
      obtain ⟨es11, hp11, hP11, hL11⟩ := D11.fpl
      obtain ⟨cs11, hch11, _⟩ := D11.fch
      have xdd : x ≠ dd := ne_of h11 hdd11 (fun z => nomatch z)
      have ndd1 : nl ≠ dd := ne_of hn11 hdd11 (fun z => nomatch z)
      have ndd2 : pl ≠ dd := ne_of hp11 hdd11 (fun z => nomatch z)
      have ndd3 : ch ≠ dd := ne_of hch11 hdd11 (fun z => nomatch z)
      have Df : Dg C (List.range (srcs d).length) _ (upd H11 dd (.frz od (.dK es3))) x nl pl ch N2 M2 := D11.keep (fun b o hb h => keepF b o (fun z => by subst z; rcases hb with e | e | e | e; exact xdd e.symm; exact ndd1 e.symm; exact ndd2 e.symm; exact ndd3 e.symm) h) (.put hdd11 fun _ z => nomatch z)
      obtain ⟨dxf, h1f⟩ := Df.ob
      obtain ⟨n0, hn0⟩ : ∃ n0, n0 ∈ srcs d ++ gnames d := by
        obtain ⟨n1, a1, a2, a3⟩ := Wc.ins
        refine ⟨nm "i" 0, List.mem_append_left _ ?_⟩
        unfold srcs
        rw [a3]
        exact List.mem_append_left _ (List.mem_map.mpr ⟨0, List.mem_range.mpr (by omega), rfl⟩)
      have ndq : ∀ {q0 : Addr} {es : List (Key × V)} {ρ : Str → Nat}, H11 q0 = some (.dK es) → HoldsV es (srcs d ++ gnames d) (fun y => .int (ρ y : Nat)) → q0 ≠ dd := fun {q0 es ρ} h hk z => by
        subst z
        rw [hdd11] at h
        cases h
        have e1 := hk.val n0
        rw [if_pos hn0, hk3.val n0, if_pos hn0] at e1
        cases e1
      have q1d : q1 ≠ dd := ndq hq111 hk1
      have q2d : q2 ≠ dd := ndq hq211 hk2
      have hq1f := keepF _ _ q1d hq111
      have hq2f := keepF _ _ q2d hq211
      have vtd : vt ≠ dd := ne_of hvt11 hdd11 (fun z => nomatch z)
      have hvtf := keepF _ _ vtd hvt11
      obtain ⟨ks, k1, k2, k3⟩ := hk3.keys
      refine ⟨_, rfl, dd, od, rfl, .inl ⟨es3, hfz, for_it walk_keys
        (fun j σ H' => H' = upd H11 dd (.frz od (.dK es3)) ∧ ∃ y11 : Option V, σ = [some (.ref sa), some (.ref p), some (.ref c), some (.int ((srcs d).length : Nat)), some (.ref x), some (.ref q1), some (.ref q2), some (.int (i : Nat)), some (.ref vt), some (.ref dd), some (.ref da), y11]) ⟨rfl, _, rfl⟩ (fun j σ H' _ g => by rw [g.1]; exact hfz) ?_ ?_⟩⟩
      · rintro j y σ H12 H13 hj ⟨rfl, y11, rfl⟩ ⟨rfl, k, v, hkv, rfl⟩
        obtain ⟨n, rfl, hn⟩ : ∃ n, k = .inr n ∧ n ∈ srcs d ++ gnames d := by
          have : (es3.map (·.1))[j]? = some k := by rw [List.getElem?_map, hkv]; rfl
          rw [k1, List.getElem?_map] at this
          cases e : ks[j]? with
          | none => rw [e] at this; cases this
          | some n => rw [e] at this; exact ⟨n, (Option.some.inj this).symm, (k3 n).mp (List.mem_of_getElem? e)⟩
        have hval' : ev N2 (ρ1 n) (bitF (bitsOf i (srcs d).length)) = val n := by
          rw [(hR12 n hn).2, ← hvF]
          have e : vecF d (bitF (bitsOf i (srcs d).length)) = bitsOf i (srcs d).length := by
            unfold vecF
            refine List.ext_getElem? fun m => ?_
            by_cases hm : m < (srcs d).length
            · rw [List.getElem?_map, List.getElem?_range hm]
              show some ((bitsOf i (srcs d).length).getD m false) = _
              rw [List.getD_eq_getElem?_getD, List.getElem?_eq_getElem (by omega)]; rfl
            · rw [List.getElem?_eq_none (by rw [List.length_map, List.length_range]; omega), List.getElem?_eq_none (by omega)]
          rw [e]
        have gdd : DGet (upd H11 dd (.frz od (.dK es3))) dd (kV (.inr n)) (some (.bl (val n))) := by
          refine .inl ⟨es3, .inr n, .inr ⟨od, hfz⟩, rfl, ?_⟩
          rw [hk3.val n, if_pos hn]
        have hus : ∀ u ∈ List.range (srcs d).length, u < (bitsOf i (srcs d).length).length := fun u hu => by rw [hvl]; exact List.mem_range.mp hu
        refine ⟨_, rfl, x, dxf, _, rfl, h1f, dfl_no _ _ _ (by decide +kernel) (by decide +kernel) (by decide +kernel), _, rfl, _, rfl, q1, _, rfl, hk1.at_ hq1f hn, _, rfl, x, nl, pl, ch, N2, M2, _, _, ρ1 n, vt, bitsOf i (srcs d).length, rfl, Df, (hR12 n hn).1, .inr hvtf, hus, ?_⟩
        rw [hval']
        refine ⟨_, rfl, _, rfl, dd, _, rfl, gdd, _, _, .bl _, rfl, .bl _, .bl _, trivial, _, rfl, iteF ⟨_, rfl, _, rfl, q1, _, rfl, hk1.at_ hq1f hn, _, rfl, _, rfl, q2, _, rfl, hk2.at_ hq2f hn, rfl, _, rfl, iteN ?_ ⟨rfl, _, rfl⟩⟩⟩
        rw [same12 n hn, decide_eq_true rfl]; rfl
      · rintro σ H12 ⟨rfl, y11, rfl⟩
        refine ⟨hfz, ?_, _, _, _, _, _, rfl⟩
        have e : upd (upd H11 dd (.frz od (.dK es3))) dd (.dK es3) = H11 := by
          rw [upd_upd]
          funext b
          by_cases z : b = dd
          · rw [z, upd_same, hdd11]
          · rw [upd_ne z]
        rw [e]
        exact E511
    · rintro σ H6 ⟨E6, y7, y8, y9, y10, y11, rfl⟩
      exact q H6
end
end G
namespace G
open PySem PySem.Spec PyProof.Rows L2
/-- the defs and the built-in names as the top has left them -/
structure All (K : PySem.W.Frag) (mg : Str → Option Value) : Prop where
  d_wall : Dfd K mg "_wall" s_wall ["k"]
  d_sources : Dfd K mg "sources" s_sources ["circuit"]
  d_gate_order : Dfd K mg "gate_order" s_gate_order ["circuit"]
  d_least_order : Dfd K mg "least_order" s_least_order ["needed"]
  d_gates_read : Dfd K mg "_gates_read" s_gates_read ["gates"]
  d_look_up : Dfd K mg "look_up" s_look_up ["table", "bits"]
  d_settle : Dfd K mg "settle" s_settle ["circuit", "vector"]
  d_functions : Dfd K mg "functions" s_functions ["circuit", "diagrams"]
  d_settled : Dfd K mg "_settled" s_settled ["circuit", "order", "vector"]
  d_law_pool : Dfd K mg "_law_pool" s_law_pool ["script"]
  d_law_spread : Dfd K mg "_law_spread" s_law_spread ["cell"]
  d_law_draw : Dfd K mg "_law_draw" s_law_draw ["pool", "many"]
  d_law_same : Dfd K mg "_law_same" s_law_same ["actual", "due"]
  d_law_bits : Dfd K mg "_law_bits" s_law_bits ["index", "many"]
  d_law_table : Dfd K mg "_law_table" s_law_table ["pool", "many"]
  d_law_register : Dfd K mg "_law_register" s_law_register ["pool", "name", "net"]
  d_law_shuffled : Dfd K mg "_law_shuffled" s_law_shuffled ["pool", "rows"]
  d_law_circuit : Dfd K mg "_law_circuit" s_law_circuit ["pool", "most"]
  d_law_order : Dfd K mg "_law_order" s_law_order ["circuit"]
  d_law_settled : Dfd K mg "_law_settled" s_law_settled ["circuit", "vector"]
  d_law_listed_values : Dfd K mg "_law_listed_values" s_law_listed_values ["known"]
  z_list : mg "list" = none
  z_len : mg "len" = none
  z_enumerate : mg "enumerate" = none
  z_sum : mg "sum" = none
  z_zip : mg "zip" = none
  z_tuple : mg "tuple" = none
  z_min : mg "min" = none
  z_range : mg "range" = none
  z_int : mg "int" = none
  z_isinstance : mg "isinstance" = none
  z_bool : mg "bool" = none
  z_str : mg "str" = none
  z_sorted : mg "sorted" = none
  z_dict : mg "dict" = none
  z_ValueError : mg "ValueError" = none
  c_FALSE : ∃ t, mg "FALSE" = some (.int 0 t)
  c_TRUE : ∃ t, mg "TRUE" = some (.int 1 t)
  y_heappop : mg "heappop" = some (.builtin "_heapq.heappop")
  y_heappush : mg "heappush" = some (.builtin "_heapq.heappush")
  k_Diagrams : ∃ C : Addr, Cl_Diagrams K mg C
  e_BadArgument : ∃ C : Addr, ExcH K mg "BadArgument" C
end G
namespace G
open PySem PySem.Spec PyProof.Rows L2
theorem glue {P : Program} {w : World} {K : PySem.W.Frag} {mg : Str → Option Value} {base : Heap} (A : All K mg) {f : Addr} {fd : FuncData} (F : Fun K "law" "law" s_law f fd) : FnOk P w K mg base CX0 5 f fd ["script"] (spLaw K) := by
  have TL : TxtL mg := ⟨A.z_int, A.z_len, A.z_list, A.z_range⟩
  have TS : TxtS mg := ⟨A.z_isinstance, A.z_tuple, A.z_list, A.z_len, A.z_range, A.z_bool, A.z_int, A.z_str⟩
  have TM : TxtM mg := ⟨A.z_len, A.z_list, A.z_tuple, A.z_enumerate, A.z_sum, A.z_zip⟩
  have TD : TxtG mg := ⟨A.c_FALSE, A.c_TRUE, A.z_min, A.z_tuple, A.z_len⟩
  have TZ : TxtZ mg := ⟨A.z_sorted, A.z_dict⟩
  obtain ⟨B, UB⟩ := A.e_BadArgument
  obtain ⟨C, W⟩ := A.k_Diagrams
  obtain ⟨fi, di, Mi, Fi, bi⟩ := W.m_init
  obtain ⟨f0, d0, M0, F0, b0⟩ := W.m_variable
  obtain ⟨f4, d4, M4, F4, b4⟩ := W.m_choose
  obtain ⟨f9, d9, M9, F9, b9⟩ := W.m_applied
  obtain ⟨f5, d5, M5, F5, b5⟩ := W.m_value
  obtain ⟨f6, d6, M6, F6, b6⟩ := W.m_node
  obtain ⟨f7, d7, M7, F7, b7⟩ := W.m_half
  obtain ⟨f8, d8, M8, F8, b8⟩ := W.m_known_choice
  have hd := drawX (P := P) (w := w) (base := base) (ok_law_draw A.d_law_draw TL (ok_law_spread A.d_law_spread TL))
  have hb := ok_law_bits (P := P) (w := w) (base := base) A.d_law_bits TS
  have g7 := ok_Diagrams_half (P := P) (w := w) (base := base) F7 W TD
  have g8 := ok_Diagrams_known_choice (P := P) (w := w) (base := base) F8 W TD
  have g6 := ok_Diagrams_node (P := P) (w := w) (base := base) F6 W TD
  have g4 := ok_Diagrams_choose F4 W TD M7 g7 b7 M8 g8 b8 M6 g6 b6
  have g0 := ok_Diagrams_variable F0 W TD UB.u M6 g6 b6
  have g5 := ok_Diagrams_value F5 W TD M7 g7 b7
  have g9 := ok_Diagrams_applied F9 W TD ⟨A.z_len, A.z_range⟩ M4 g4 b4
  have ho := ok_gate_order (P := P) (w := w) (base := base) A.d_gate_order (ok_least_order A.d_least_order ⟨A.z_len, A.z_enumerate, A.y_heappop, A.y_heappush⟩) (ok_gates_read A.d_gates_read TM)
  have hs := ok_sources (P := P) (w := w) (base := base) A.d_sources TM
  exact fn_law F TS TZ W (ok_law_pool A.d_law_pool TL) (ok_law_circuit A.d_law_circuit TS hd (ok_law_table A.d_law_table TS hd hb) (ok_law_register A.d_law_register hd) (ok_law_shuffled A.d_law_shuffled TS hd))
    (ok_functions A.d_functions TM W ho hs M0 g0 b0 M9 g9 b9) hb (ok_law_settled A.d_law_settled TS (ok_law_order A.d_law_order TS)) (ok_settle A.d_settle ho (ok_settled A.d_settled TM hs (ok_look_up A.d_look_up TM)))
    (ok_law_listed_values A.d_law_listed_values TZ) (ok_law_same A.d_law_same TS 3) Mi (ok_Diagrams_init Fi W TD) bi M5 g5 b5
end G
namespace G
open PySem PySem.Spec PyProof.Rows L2
theorem all_mk {l : PySem.W.OpenLaw} {w : World} {K : PySem.W.Frag} {h : Heap} {mg : Str → Option Value} {fa f0 f1 f2 f3 f4 f5 f6 f7 f8 f9 f10 f11 f12 f13 f14 f15 f16 f17 f18 f19 f20 f21 : Addr} (X : K.In h) (G : h.Ns mainGlobals mg) (hfa : mg "law" = some (.ref fa))
    {od0 an0 od1 an1 od2 an2 od3 an3 od4 an4 od5 an5 od6 an6 od7 an7 od8 an8 od9 an9 od10 an10 od11 an11 od12 an12 od13 an13 od14 an14 od15 an15 od16 an16 od17 an17 od18 an18 od19 an19 od20 an20 od21 an21 : Option Addr} {sl0 sl1 sl2 sl3 sl4 sl5 sl6 sl7 sl8 sl9 sl10 sl11 sl12 sl13 sl14 sl15 sl16 sl17 sl18 sl19 sl20 sl21 : Array (Option Value)} {oc0 kv0 dc0 pm0 cd0 ct0 oc1 kv1 dc1 pm1 cd1 ct1 oc2 kv2 dc2 pm2 cd2 ct2 oc3 kv3 dc3 pm3 cd3 ct3 oc4 kv4 dc4 pm4 cd4 ct4 oc5 kv5 dc5 pm5 cd5 ct5 oc6 kv6 dc6 pm6 cd6 ct6 oc7 kv7 dc7 pm7 cd7 ct7 oc8 kv8 dc8 pm8 cd8 ct8 oc9 kv9 dc9 pm9 cd9 ct9 oc10 kv10 dc10 pm10 cd10 ct10 oc11 kv11 dc11 pm11 cd11 ct11 oc12 kv12 dc12 pm12 cd12 ct12 oc13 kv13 dc13 pm13 cd13 ct13 oc14 kv14 dc14 pm14 cd14 ct14 oc15 kv15 dc15 pm15 cd15 ct15 oc16 kv16 dc16 pm16 cd16 ct16 oc17 kv17 dc17 pm17 cd17 ct17 oc18 kv18 dc18 pm18 cd18 ct18 oc19 kv19 dc19 pm19 cd19 ct19 oc20 kv20 dc20 pm20 cd20 ct20 oc21 kv21 dc21 pm21 cd21 ct21 : Value}
    (a0 : PySem.W.nsIn K mainGlobals "_wall" = some (some (.ref f0))) (l0 : K.lookup f0 = some ⟨oc0, od0, .func (PySem.W.fnOf "_wall" "_wall" (defArgs s_wall) (defBody s_wall) (defScope s_wall) .none kv0 dc0 pm0 an0 cd0 ct0), sl0⟩) (c0 : PySem.W.codeIn K cd0 "_wall" = true) (k0 : PySem.W.keepIn K (.ref f0) = true)
    (a1 : PySem.W.nsIn K mainGlobals "sources" = some (some (.ref f1))) (l1 : K.lookup f1 = some ⟨oc1, od1, .func (PySem.W.fnOf "sources" "sources" (defArgs s_sources) (defBody s_sources) (defScope s_sources) .none kv1 dc1 pm1 an1 cd1 ct1), sl1⟩) (c1 : PySem.W.codeIn K cd1 "sources" = true) (k1 : PySem.W.keepIn K (.ref f1) = true)
    (a2 : PySem.W.nsIn K mainGlobals "gate_order" = some (some (.ref f2))) (l2 : K.lookup f2 = some ⟨oc2, od2, .func (PySem.W.fnOf "gate_order" "gate_order" (defArgs s_gate_order) (defBody s_gate_order) (defScope s_gate_order) .none kv2 dc2 pm2 an2 cd2 ct2), sl2⟩) (c2 : PySem.W.codeIn K cd2 "gate_order" = true) (k2 : PySem.W.keepIn K (.ref f2) = true)
    (a3 : PySem.W.nsIn K mainGlobals "least_order" = some (some (.ref f3))) (l3 : K.lookup f3 = some ⟨oc3, od3, .func (PySem.W.fnOf "least_order" "least_order" (defArgs s_least_order) (defBody s_least_order) (defScope s_least_order) .none kv3 dc3 pm3 an3 cd3 ct3), sl3⟩) (c3 : PySem.W.codeIn K cd3 "least_order" = true) (k3 : PySem.W.keepIn K (.ref f3) = true)
    (a4 : PySem.W.nsIn K mainGlobals "_gates_read" = some (some (.ref f4))) (l4 : K.lookup f4 = some ⟨oc4, od4, .func (PySem.W.fnOf "_gates_read" "_gates_read" (defArgs s_gates_read) (defBody s_gates_read) (defScope s_gates_read) .none kv4 dc4 pm4 an4 cd4 ct4), sl4⟩) (c4 : PySem.W.codeIn K cd4 "_gates_read" = true) (k4 : PySem.W.keepIn K (.ref f4) = true)
    (a5 : PySem.W.nsIn K mainGlobals "look_up" = some (some (.ref f5))) (l5 : K.lookup f5 = some ⟨oc5, od5, .func (PySem.W.fnOf "look_up" "look_up" (defArgs s_look_up) (defBody s_look_up) (defScope s_look_up) .none kv5 dc5 pm5 an5 cd5 ct5), sl5⟩) (c5 : PySem.W.codeIn K cd5 "look_up" = true) (k5 : PySem.W.keepIn K (.ref f5) = true)
    (a6 : PySem.W.nsIn K mainGlobals "settle" = some (some (.ref f6))) (l6 : K.lookup f6 = some ⟨oc6, od6, .func (PySem.W.fnOf "settle" "settle" (defArgs s_settle) (defBody s_settle) (defScope s_settle) .none kv6 dc6 pm6 an6 cd6 ct6), sl6⟩) (c6 : PySem.W.codeIn K cd6 "settle" = true) (k6 : PySem.W.keepIn K (.ref f6) = true)
    (a7 : PySem.W.nsIn K mainGlobals "functions" = some (some (.ref f7))) (l7 : K.lookup f7 = some ⟨oc7, od7, .func (PySem.W.fnOf "functions" "functions" (defArgs s_functions) (defBody s_functions) (defScope s_functions) .none kv7 dc7 pm7 an7 cd7 ct7), sl7⟩) (c7 : PySem.W.codeIn K cd7 "functions" = true) (k7 : PySem.W.keepIn K (.ref f7) = true)
    (a8 : PySem.W.nsIn K mainGlobals "_settled" = some (some (.ref f8))) (l8 : K.lookup f8 = some ⟨oc8, od8, .func (PySem.W.fnOf "_settled" "_settled" (defArgs s_settled) (defBody s_settled) (defScope s_settled) .none kv8 dc8 pm8 an8 cd8 ct8), sl8⟩) (c8 : PySem.W.codeIn K cd8 "_settled" = true) (k8 : PySem.W.keepIn K (.ref f8) = true)
    (a9 : PySem.W.nsIn K mainGlobals "_law_pool" = some (some (.ref f9))) (l9 : K.lookup f9 = some ⟨oc9, od9, .func (PySem.W.fnOf "_law_pool" "_law_pool" (defArgs s_law_pool) (defBody s_law_pool) (defScope s_law_pool) .none kv9 dc9 pm9 an9 cd9 ct9), sl9⟩) (c9 : PySem.W.codeIn K cd9 "_law_pool" = true) (k9 : PySem.W.keepIn K (.ref f9) = true)
    (a10 : PySem.W.nsIn K mainGlobals "_law_spread" = some (some (.ref f10))) (l10 : K.lookup f10 = some ⟨oc10, od10, .func (PySem.W.fnOf "_law_spread" "_law_spread" (defArgs s_law_spread) (defBody s_law_spread) (defScope s_law_spread) .none kv10 dc10 pm10 an10 cd10 ct10), sl10⟩) (c10 : PySem.W.codeIn K cd10 "_law_spread" = true) (k10 : PySem.W.keepIn K (.ref f10) = true)
    (a11 : PySem.W.nsIn K mainGlobals "_law_draw" = some (some (.ref f11))) (l11 : K.lookup f11 = some ⟨oc11, od11, .func (PySem.W.fnOf "_law_draw" "_law_draw" (defArgs s_law_draw) (defBody s_law_draw) (defScope s_law_draw) .none kv11 dc11 pm11 an11 cd11 ct11), sl11⟩) (c11 : PySem.W.codeIn K cd11 "_law_draw" = true) (k11 : PySem.W.keepIn K (.ref f11) = true)
    (a12 : PySem.W.nsIn K mainGlobals "_law_same" = some (some (.ref f12))) (l12 : K.lookup f12 = some ⟨oc12, od12, .func (PySem.W.fnOf "_law_same" "_law_same" (defArgs s_law_same) (defBody s_law_same) (defScope s_law_same) .none kv12 dc12 pm12 an12 cd12 ct12), sl12⟩) (c12 : PySem.W.codeIn K cd12 "_law_same" = true) (k12 : PySem.W.keepIn K (.ref f12) = true)
    (a13 : PySem.W.nsIn K mainGlobals "_law_bits" = some (some (.ref f13))) (l13 : K.lookup f13 = some ⟨oc13, od13, .func (PySem.W.fnOf "_law_bits" "_law_bits" (defArgs s_law_bits) (defBody s_law_bits) (defScope s_law_bits) .none kv13 dc13 pm13 an13 cd13 ct13), sl13⟩) (c13 : PySem.W.codeIn K cd13 "_law_bits" = true) (k13 : PySem.W.keepIn K (.ref f13) = true)
    (a14 : PySem.W.nsIn K mainGlobals "_law_table" = some (some (.ref f14))) (l14 : K.lookup f14 = some ⟨oc14, od14, .func (PySem.W.fnOf "_law_table" "_law_table" (defArgs s_law_table) (defBody s_law_table) (defScope s_law_table) .none kv14 dc14 pm14 an14 cd14 ct14), sl14⟩) (c14 : PySem.W.codeIn K cd14 "_law_table" = true) (k14 : PySem.W.keepIn K (.ref f14) = true)
    (a15 : PySem.W.nsIn K mainGlobals "_law_register" = some (some (.ref f15))) (l15 : K.lookup f15 = some ⟨oc15, od15, .func (PySem.W.fnOf "_law_register" "_law_register" (defArgs s_law_register) (defBody s_law_register) (defScope s_law_register) .none kv15 dc15 pm15 an15 cd15 ct15), sl15⟩) (c15 : PySem.W.codeIn K cd15 "_law_register" = true) (k15 : PySem.W.keepIn K (.ref f15) = true)
    (a16 : PySem.W.nsIn K mainGlobals "_law_shuffled" = some (some (.ref f16))) (l16 : K.lookup f16 = some ⟨oc16, od16, .func (PySem.W.fnOf "_law_shuffled" "_law_shuffled" (defArgs s_law_shuffled) (defBody s_law_shuffled) (defScope s_law_shuffled) .none kv16 dc16 pm16 an16 cd16 ct16), sl16⟩) (c16 : PySem.W.codeIn K cd16 "_law_shuffled" = true) (k16 : PySem.W.keepIn K (.ref f16) = true)
    (a17 : PySem.W.nsIn K mainGlobals "_law_circuit" = some (some (.ref f17))) (l17 : K.lookup f17 = some ⟨oc17, od17, .func (PySem.W.fnOf "_law_circuit" "_law_circuit" (defArgs s_law_circuit) (defBody s_law_circuit) (defScope s_law_circuit) .none kv17 dc17 pm17 an17 cd17 ct17), sl17⟩) (c17 : PySem.W.codeIn K cd17 "_law_circuit" = true) (k17 : PySem.W.keepIn K (.ref f17) = true)
    (a18 : PySem.W.nsIn K mainGlobals "_law_order" = some (some (.ref f18))) (l18 : K.lookup f18 = some ⟨oc18, od18, .func (PySem.W.fnOf "_law_order" "_law_order" (defArgs s_law_order) (defBody s_law_order) (defScope s_law_order) .none kv18 dc18 pm18 an18 cd18 ct18), sl18⟩) (c18 : PySem.W.codeIn K cd18 "_law_order" = true) (k18 : PySem.W.keepIn K (.ref f18) = true)
    (a19 : PySem.W.nsIn K mainGlobals "_law_settled" = some (some (.ref f19))) (l19 : K.lookup f19 = some ⟨oc19, od19, .func (PySem.W.fnOf "_law_settled" "_law_settled" (defArgs s_law_settled) (defBody s_law_settled) (defScope s_law_settled) .none kv19 dc19 pm19 an19 cd19 ct19), sl19⟩) (c19 : PySem.W.codeIn K cd19 "_law_settled" = true) (k19 : PySem.W.keepIn K (.ref f19) = true)
    (a20 : PySem.W.nsIn K mainGlobals "_law_listed_values" = some (some (.ref f20))) (l20 : K.lookup f20 = some ⟨oc20, od20, .func (PySem.W.fnOf "_law_listed_values" "_law_listed_values" (defArgs s_law_listed_values) (defBody s_law_listed_values) (defScope s_law_listed_values) .none kv20 dc20 pm20 an20 cd20 ct20), sl20⟩) (c20 : PySem.W.codeIn K cd20 "_law_listed_values" = true) (k20 : PySem.W.keepIn K (.ref f20) = true)
    (a21 : PySem.W.nsIn K mainGlobals "law" = some (some (.ref f21))) (l21 : K.lookup f21 = some ⟨oc21, od21, .func (PySem.W.fnOf "law" "law" (defArgs s_law) (defBody s_law) (defScope s_law) .none kv21 dc21 pm21 an21 cd21 ct21), sl21⟩) (c21 : PySem.W.codeIn K cd21 "law" = true) (k21 : PySem.W.keepIn K (.ref f21) = true)
    {ct0 : Tok} (g0 : PySem.W.nsIn K mainGlobals "FALSE" = some (some (.int 0 ct0)))
    {ct1 : Tok} (g1 : PySem.W.nsIn K mainGlobals "TRUE" = some (some (.int 1 ct1)))
    (m0 : PySem.W.nsIn K mainGlobals "heappop" = some (some (.builtin "_heapq.heappop")))
    (m1 : PySem.W.nsIn K mainGlobals "heappush" = some (some (.builtin "_heapq.heappush")))
    {xC0 : Addr} (u0_0 : PySem.W.nsIn K mainGlobals "BadArgument" = some (some (.ref xC0))) (u0_1 : PySem.W.excIn K xC0 [.type "ValueError", .type "Exception", .type "BaseException", .type "object"] "ValueError.__new__" = true) (u0_2 : PySem.W.keepIn K (.ref xC0) = true) (u0_3 : PySem.W.subIn K (.ref xC0) (.type "BaseException") = some true) (u0_4 : PySem.W.typeIn K (.ref xC0) = some (.type "type")) (u0_5 : PySem.W.hasDictIn K xC0 = true) (u0_6 : PySem.W.subIn K (.ref xC0) (.ref xC0) = some true)
    {yC0 : Addr} {f0m0 : Addr} {od0m0 an0m0 : Option Addr} {sl0m0 : Array (Option Value)} {oc0m0 kv0m0 dc0m0 pm0m0 cd0m0 ct0m0 : Value} {f0m1 : Addr} {od0m1 an0m1 : Option Addr} {sl0m1 : Array (Option Value)} {oc0m1 kv0m1 dc0m1 pm0m1 cd0m1 ct0m1 : Value} {f0m2 : Addr} {od0m2 an0m2 : Option Addr} {sl0m2 : Array (Option Value)} {oc0m2 kv0m2 dc0m2 pm0m2 cd0m2 ct0m2 : Value} {f0m3 : Addr} {od0m3 an0m3 : Option Addr} {sl0m3 : Array (Option Value)} {oc0m3 kv0m3 dc0m3 pm0m3 cd0m3 ct0m3 : Value} {f0m4 : Addr} {od0m4 an0m4 : Option Addr} {sl0m4 : Array (Option Value)} {oc0m4 kv0m4 dc0m4 pm0m4 cd0m4 ct0m4 : Value} {f0m5 : Addr} {od0m5 an0m5 : Option Addr} {sl0m5 : Array (Option Value)} {oc0m5 kv0m5 dc0m5 pm0m5 cd0m5 ct0m5 : Value} {f0m6 : Addr} {od0m6 an0m6 : Option Addr} {sl0m6 : Array (Option Value)} {oc0m6 kv0m6 dc0m6 pm0m6 cd0m6 ct0m6 : Value} {f0m7 : Addr} {od0m7 an0m7 : Option Addr} {sl0m7 : Array (Option Value)} {oc0m7 kv0m7 dc0m7 pm0m7 cd0m7 ct0m7 : Value}
    (y0_0 : PySem.W.nsIn K mainGlobals "Diagrams" = some (some (.ref yC0))) (y0_4 : PySem.W.findIn K (.ref yC0) "__setattr__" = some (some (.builtin "object.__setattr__"))) (y0_10 : PySem.W.findIn K (.ref yC0) "__init__" = some (some (.ref f0m0))) (y0_15 : PySem.W.findIn K (.ref yC0) "variable" = some (some (.ref f0m1))) (y0_20 : PySem.W.findIn K (.ref yC0) "choose" = some (some (.ref f0m2))) (y0_25 : PySem.W.findIn K (.ref yC0) "applied" = some (some (.ref f0m3))) (y0_30 : PySem.W.findIn K (.ref yC0) "value" = some (some (.ref f0m4))) (y0_35 : PySem.W.findIn K (.ref yC0) "_node" = some (some (.ref f0m5))) (y0_40 : PySem.W.findIn K (.ref yC0) "_half" = some (some (.ref f0m6))) (y0_45 : PySem.W.findIn K (.ref yC0) "_known_choice" = some (some (.ref f0m7))) (y0_47 : PySem.W.findIn K (.ref yC0) "_nodes" = some none) (y0_48 : PySem.W.findIn K (.ref yC0) "_places" = some none) (y0_49 : PySem.W.findIn K (.ref yC0) "_chosen" = some none) (y0_1 : PySem.W.plainGet K yC0 Str.empty = true) (y0_2 : PySem.W.hasDictIn K yC0 = true) (y0_3 : PySem.W.plainOver K yC0 = true) (y0_5 : PySem.W.makesIn K yC0 = true) (y0_6 : PySem.W.keepIn K (.ref yC0) = true) (y0_7 : K.lookup f0m0 = some ⟨oc0m0, od0m0, .func (PySem.W.fnOf "__init__" "Diagrams.__init__" (defArgs s_Diagrams_init) (defBody s_Diagrams_init) (defScope s_Diagrams_init) .none kv0m0 dc0m0 pm0m0 an0m0 cd0m0 ct0m0), sl0m0⟩) (y0_8 : PySem.W.codeIn K cd0m0 "Diagrams.__init__" = true) (y0_9 : PySem.W.keepIn K (.ref f0m0) = true) (y0_11 : PySem.W.isFn K (.ref f0m0) = true) (y0_12 : K.lookup f0m1 = some ⟨oc0m1, od0m1, .func (PySem.W.fnOf "variable" "Diagrams.variable" (defArgs s_Diagrams_variable) (defBody s_Diagrams_variable) (defScope s_Diagrams_variable) .none kv0m1 dc0m1 pm0m1 an0m1 cd0m1 ct0m1), sl0m1⟩) (y0_13 : PySem.W.codeIn K cd0m1 "Diagrams.variable" = true) (y0_14 : PySem.W.keepIn K (.ref f0m1) = true) (y0_16 : PySem.W.isFn K (.ref f0m1) = true) (y0_17 : K.lookup f0m2 = some ⟨oc0m2, od0m2, .func (PySem.W.fnOf "choose" "Diagrams.choose" (defArgs s_Diagrams_choose) (defBody s_Diagrams_choose) (defScope s_Diagrams_choose) .none kv0m2 dc0m2 pm0m2 an0m2 cd0m2 ct0m2), sl0m2⟩) (y0_18 : PySem.W.codeIn K cd0m2 "Diagrams.choose" = true) (y0_19 : PySem.W.keepIn K (.ref f0m2) = true) (y0_21 : PySem.W.isFn K (.ref f0m2) = true) (y0_22 : K.lookup f0m3 = some ⟨oc0m3, od0m3, .func (PySem.W.fnOf "applied" "Diagrams.applied" (defArgs s_Diagrams_applied) (defBody s_Diagrams_applied) (defScope s_Diagrams_applied) .none kv0m3 dc0m3 pm0m3 an0m3 cd0m3 ct0m3), sl0m3⟩) (y0_23 : PySem.W.codeIn K cd0m3 "Diagrams.applied" = true) (y0_24 : PySem.W.keepIn K (.ref f0m3) = true) (y0_26 : PySem.W.isFn K (.ref f0m3) = true) (y0_27 : K.lookup f0m4 = some ⟨oc0m4, od0m4, .func (PySem.W.fnOf "value" "Diagrams.value" (defArgs s_Diagrams_value) (defBody s_Diagrams_value) (defScope s_Diagrams_value) .none kv0m4 dc0m4 pm0m4 an0m4 cd0m4 ct0m4), sl0m4⟩) (y0_28 : PySem.W.codeIn K cd0m4 "Diagrams.value" = true) (y0_29 : PySem.W.keepIn K (.ref f0m4) = true) (y0_31 : PySem.W.isFn K (.ref f0m4) = true) (y0_32 : K.lookup f0m5 = some ⟨oc0m5, od0m5, .func (PySem.W.fnOf "_node" "Diagrams._node" (defArgs s_Diagrams_node) (defBody s_Diagrams_node) (defScope s_Diagrams_node) .none kv0m5 dc0m5 pm0m5 an0m5 cd0m5 ct0m5), sl0m5⟩) (y0_33 : PySem.W.codeIn K cd0m5 "Diagrams._node" = true) (y0_34 : PySem.W.keepIn K (.ref f0m5) = true) (y0_36 : PySem.W.isFn K (.ref f0m5) = true) (y0_37 : K.lookup f0m6 = some ⟨oc0m6, od0m6, .func (PySem.W.fnOf "_half" "Diagrams._half" (defArgs s_Diagrams_half) (defBody s_Diagrams_half) (defScope s_Diagrams_half) .none kv0m6 dc0m6 pm0m6 an0m6 cd0m6 ct0m6), sl0m6⟩) (y0_38 : PySem.W.codeIn K cd0m6 "Diagrams._half" = true) (y0_39 : PySem.W.keepIn K (.ref f0m6) = true) (y0_41 : PySem.W.isFn K (.ref f0m6) = true) (y0_42 : K.lookup f0m7 = some ⟨oc0m7, od0m7, .func (PySem.W.fnOf "_known_choice" "Diagrams._known_choice" (defArgs s_Diagrams_known_choice) (defBody s_Diagrams_known_choice) (defScope s_Diagrams_known_choice) .none kv0m7 dc0m7 pm0m7 an0m7 cd0m7 ct0m7), sl0m7⟩) (y0_43 : PySem.W.codeIn K cd0m7 "Diagrams._known_choice" = true) (y0_44 : PySem.W.keepIn K (.ref f0m7) = true) (y0_46 : PySem.W.isFn K (.ref f0m7) = true)
    (z0 : PySem.W.nsIn K mainGlobals "list" = some none) (z1 : PySem.W.nsIn K mainGlobals "len" = some none) (z2 : PySem.W.nsIn K mainGlobals "enumerate" = some none) (z3 : PySem.W.nsIn K mainGlobals "sum" = some none) (z4 : PySem.W.nsIn K mainGlobals "zip" = some none) (z5 : PySem.W.nsIn K mainGlobals "tuple" = some none) (z6 : PySem.W.nsIn K mainGlobals "min" = some none) (z7 : PySem.W.nsIn K mainGlobals "range" = some none) (z8 : PySem.W.nsIn K mainGlobals "int" = some none) (z9 : PySem.W.nsIn K mainGlobals "isinstance" = some none) (z10 : PySem.W.nsIn K mainGlobals "bool" = some none) (z11 : PySem.W.nsIn K mainGlobals "str" = some none) (z12 : PySem.W.nsIn K mainGlobals "sorted" = some none) (z13 : PySem.W.nsIn K mainGlobals "dict" = some none) (z14 : PySem.W.nsIn K mainGlobals "ValueError" = some none) :
    ∃ fd : FuncData, (∀ (s : Shared) (v : Value), BindsTo s fd ⟨[v], []⟩ [("script", v)]) ∧ ∀ base : Heap, K.In base → base.Ns mainGlobals mg → FnOk l.prog w K mg base CX0 5 fa fd ["script"] (spLaw K) := by
  have e := hfa.symm.trans (PySem.W.mg_of X G a21)
  cases e
  have F0 := fun_mk (st := s_wall) l0 c0 k0
  have F1 := fun_mk (st := s_sources) l1 c1 k1
  have F2 := fun_mk (st := s_gate_order) l2 c2 k2
  have F3 := fun_mk (st := s_least_order) l3 c3 k3
  have F4 := fun_mk (st := s_gates_read) l4 c4 k4
  have F5 := fun_mk (st := s_look_up) l5 c5 k5
  have F6 := fun_mk (st := s_settle) l6 c6 k6
  have F7 := fun_mk (st := s_functions) l7 c7 k7
  have F8 := fun_mk (st := s_settled) l8 c8 k8
  have F9 := fun_mk (st := s_law_pool) l9 c9 k9
  have F10 := fun_mk (st := s_law_spread) l10 c10 k10
  have F11 := fun_mk (st := s_law_draw) l11 c11 k11
  have F12 := fun_mk (st := s_law_same) l12 c12 k12
  have F13 := fun_mk (st := s_law_bits) l13 c13 k13
  have F14 := fun_mk (st := s_law_table) l14 c14 k14
  have F15 := fun_mk (st := s_law_register) l15 c15 k15
  have F16 := fun_mk (st := s_law_shuffled) l16 c16 k16
  have F17 := fun_mk (st := s_law_circuit) l17 c17 k17
  have F18 := fun_mk (st := s_law_order) l18 c18 k18
  have F19 := fun_mk (st := s_law_settled) l19 c19 k19
  have F20 := fun_mk (st := s_law_listed_values) l20 c20 k20
  have F21 := fun_mk (st := s_law) l21 c21 k21
  have A : All K mg := ⟨⟨f0, _, F0, PySem.W.mg_of X G a0, F0.binds (ps := ["k"]) fun _ _ _ _ _ _ us hl => match us, hl with | [_], _ => rfl⟩,
    ⟨f1, _, F1, PySem.W.mg_of X G a1, F1.binds (ps := ["circuit"]) fun _ _ _ _ _ _ us hl => match us, hl with | [_], _ => rfl⟩,
    ⟨f2, _, F2, PySem.W.mg_of X G a2, F2.binds (ps := ["circuit"]) fun _ _ _ _ _ _ us hl => match us, hl with | [_], _ => rfl⟩,
    ⟨f3, _, F3, PySem.W.mg_of X G a3, F3.binds (ps := ["needed"]) fun _ _ _ _ _ _ us hl => match us, hl with | [_], _ => rfl⟩,
    ⟨f4, _, F4, PySem.W.mg_of X G a4, F4.binds (ps := ["gates"]) fun _ _ _ _ _ _ us hl => match us, hl with | [_], _ => rfl⟩,
    ⟨f5, _, F5, PySem.W.mg_of X G a5, F5.binds (ps := ["table", "bits"]) fun _ _ _ _ _ _ us hl => match us, hl with | [_, _], _ => rfl⟩,
    ⟨f6, _, F6, PySem.W.mg_of X G a6, F6.binds (ps := ["circuit", "vector"]) fun _ _ _ _ _ _ us hl => match us, hl with | [_, _], _ => rfl⟩,
    ⟨f7, _, F7, PySem.W.mg_of X G a7, F7.binds (ps := ["circuit", "diagrams"]) fun _ _ _ _ _ _ us hl => match us, hl with | [_, _], _ => rfl⟩,
    ⟨f8, _, F8, PySem.W.mg_of X G a8, F8.binds (ps := ["circuit", "order", "vector"]) fun _ _ _ _ _ _ us hl => match us, hl with | [_, _, _], _ => rfl⟩,
    ⟨f9, _, F9, PySem.W.mg_of X G a9, F9.binds (ps := ["script"]) fun _ _ _ _ _ _ us hl => match us, hl with | [_], _ => rfl⟩,
    ⟨f10, _, F10, PySem.W.mg_of X G a10, F10.binds (ps := ["cell"]) fun _ _ _ _ _ _ us hl => match us, hl with | [_], _ => rfl⟩,
    ⟨f11, _, F11, PySem.W.mg_of X G a11, F11.binds (ps := ["pool", "many"]) fun _ _ _ _ _ _ us hl => match us, hl with | [_, _], _ => rfl⟩,
    ⟨f12, _, F12, PySem.W.mg_of X G a12, F12.binds (ps := ["actual", "due"]) fun _ _ _ _ _ _ us hl => match us, hl with | [_, _], _ => rfl⟩,
    ⟨f13, _, F13, PySem.W.mg_of X G a13, F13.binds (ps := ["index", "many"]) fun _ _ _ _ _ _ us hl => match us, hl with | [_, _], _ => rfl⟩,
    ⟨f14, _, F14, PySem.W.mg_of X G a14, F14.binds (ps := ["pool", "many"]) fun _ _ _ _ _ _ us hl => match us, hl with | [_, _], _ => rfl⟩,
    ⟨f15, _, F15, PySem.W.mg_of X G a15, F15.binds (ps := ["pool", "name", "net"]) fun _ _ _ _ _ _ us hl => match us, hl with | [_, _, _], _ => rfl⟩,
    ⟨f16, _, F16, PySem.W.mg_of X G a16, F16.binds (ps := ["pool", "rows"]) fun _ _ _ _ _ _ us hl => match us, hl with | [_, _], _ => rfl⟩,
    ⟨f17, _, F17, PySem.W.mg_of X G a17, F17.binds (ps := ["pool", "most"]) fun _ _ _ _ _ _ us hl => match us, hl with | [_, _], _ => rfl⟩,
    ⟨f18, _, F18, PySem.W.mg_of X G a18, F18.binds (ps := ["circuit"]) fun _ _ _ _ _ _ us hl => match us, hl with | [_], _ => rfl⟩,
    ⟨f19, _, F19, PySem.W.mg_of X G a19, F19.binds (ps := ["circuit", "vector"]) fun _ _ _ _ _ _ us hl => match us, hl with | [_, _], _ => rfl⟩,
    ⟨f20, _, F20, PySem.W.mg_of X G a20, F20.binds (ps := ["known"]) fun _ _ _ _ _ _ us hl => match us, hl with | [_], _ => rfl⟩,
    PySem.W.mg_none_of X G z0,
    PySem.W.mg_none_of X G z1,
    PySem.W.mg_none_of X G z2,
    PySem.W.mg_none_of X G z3,
    PySem.W.mg_none_of X G z4,
    PySem.W.mg_none_of X G z5,
    PySem.W.mg_none_of X G z6,
    PySem.W.mg_none_of X G z7,
    PySem.W.mg_none_of X G z8,
    PySem.W.mg_none_of X G z9,
    PySem.W.mg_none_of X G z10,
    PySem.W.mg_none_of X G z11,
    PySem.W.mg_none_of X G z12,
    PySem.W.mg_none_of X G z13,
    PySem.W.mg_none_of X G z14,
    ⟨_, PySem.W.mg_of X G g0⟩,
    ⟨_, PySem.W.mg_of X G g1⟩,
    PySem.W.mg_of X G m0,
    PySem.W.mg_of X G m1,
    ⟨yC0, ⟨PySem.W.mg_of X G y0_0, ⟨y0_1, y0_2, y0_3, y0_4⟩, ⟨f0m0, _, ⟨y0_5, y0_10, y0_11, y0_6⟩, (fun_mk (st := s_Diagrams_init) y0_7 y0_8 y0_9), (fun_mk (st := s_Diagrams_init) y0_7 y0_8 y0_9).binds (ps := ["self"]) fun _ _ _ _ _ _ us hl => match us, hl with | [_], _ => rfl⟩, ⟨f0m1, _, ⟨y0_15, y0_16, y0_14⟩, (fun_mk (st := s_Diagrams_variable) y0_12 y0_13 y0_14), (fun_mk (st := s_Diagrams_variable) y0_12 y0_13 y0_14).binds (ps := ["self", "k"]) fun _ _ _ _ _ _ us hl => match us, hl with | [_, _], _ => rfl⟩, ⟨f0m2, _, ⟨y0_20, y0_21, y0_19⟩, (fun_mk (st := s_Diagrams_choose) y0_17 y0_18 y0_19), (fun_mk (st := s_Diagrams_choose) y0_17 y0_18 y0_19).binds (ps := ["self", "c", "a", "b"]) fun _ _ _ _ _ _ us hl => match us, hl with | [_, _, _, _], _ => rfl⟩, ⟨f0m3, _, ⟨y0_25, y0_26, y0_24⟩, (fun_mk (st := s_Diagrams_applied) y0_22 y0_23 y0_24), (fun_mk (st := s_Diagrams_applied) y0_22 y0_23 y0_24).binds (ps := ["self", "table", "references"]) fun _ _ _ _ _ _ us hl => match us, hl with | [_, _, _], _ => rfl⟩, ⟨f0m4, _, ⟨y0_30, y0_31, y0_29⟩, (fun_mk (st := s_Diagrams_value) y0_27 y0_28 y0_29), (fun_mk (st := s_Diagrams_value) y0_27 y0_28 y0_29).binds (ps := ["self", "a", "bits"]) fun _ _ _ _ _ _ us hl => match us, hl with | [_, _, _], _ => rfl⟩, ⟨f0m5, _, ⟨y0_35, y0_36, y0_34⟩, (fun_mk (st := s_Diagrams_node) y0_32 y0_33 y0_34), (fun_mk (st := s_Diagrams_node) y0_32 y0_33 y0_34).binds (ps := ["self", "k", "low", "high"]) fun _ _ _ _ _ _ us hl => match us, hl with | [_, _, _, _], _ => rfl⟩, ⟨f0m6, _, ⟨y0_40, y0_41, y0_39⟩, (fun_mk (st := s_Diagrams_half) y0_37 y0_38 y0_39), (fun_mk (st := s_Diagrams_half) y0_37 y0_38 y0_39).binds (ps := ["self", "a", "k", "value"]) fun _ _ _ _ _ _ us hl => match us, hl with | [_, _, _, _], _ => rfl⟩, ⟨f0m7, _, ⟨y0_45, y0_46, y0_44⟩, (fun_mk (st := s_Diagrams_known_choice) y0_42 y0_43 y0_44), (fun_mk (st := s_Diagrams_known_choice) y0_42 y0_43 y0_44).binds (ps := ["self", "task"]) fun _ _ _ _ _ _ us hl => match us, hl with | [_, _], _ => rfl⟩, y0_47, y0_48, y0_49⟩⟩,
    ⟨xC0, ⟨⟨PySem.W.mg_of X G u0_0, u0_1, u0_2, u0_3, u0_4⟩, u0_5, u0_6⟩⟩⟩
  exact ⟨_, fun s v => .of_eq rfl, fun base _ _ => glue A F21⟩
end G
open PySem PySem.W PyProof.Rows
set_option maxRecDepth 100000 in
set_option maxHeartbeats 0 in
theorem PySem.Challenge.cw_signoff_k20_settled_values_holds : PySem.Challenge.rw_signoff_k20_settled_values.Holds := by
  w_on; o_law; k_head; (case hw => w_witness2)
  k_fill
  refine L2.walk_of (l := PySem.Challenge.rw_signoff_k20_settled_values) (n := 63) (k := 5) (x := "script") (CX := fun _ => L2.CX0) (sp := fun w => G.spLaw _) rfl (by decide) rfl ⟨rfl, by decide, by decide⟩ (fun w h Y => PySem.W.kIn_of Y) ?F (fun _ _ a ns hl _ hS => ⟨a, ns, rfl, hS, hl, fun _ => rfl⟩) (fun _ _ _ _ _ h => h)
  case F =>
    intro w mg fa h KX GN hmg
    refine' G.all_mk KX GN hmg ?a0 ?l0 ?c0 ?k0 ?a1 ?l1 ?c1 ?k1 ?a2 ?l2 ?c2 ?k2 ?a3 ?l3 ?c3 ?k3 ?a4 ?l4 ?c4 ?k4 ?a5 ?l5 ?c5 ?k5 ?a6 ?l6 ?c6 ?k6 ?a7 ?l7 ?c7 ?k7 ?a8 ?l8 ?c8 ?k8 ?a9 ?l9 ?c9 ?k9 ?a10 ?l10 ?c10 ?k10 ?a11 ?l11 ?c11 ?k11 ?a12 ?l12 ?c12 ?k12 ?a13 ?l13 ?c13 ?k13 ?a14 ?l14 ?c14 ?k14 ?a15 ?l15 ?c15 ?k15 ?a16 ?l16 ?c16 ?k16 ?a17 ?l17 ?c17 ?k17 ?a18 ?l18 ?c18 ?k18 ?a19 ?l19 ?c19 ?k19 ?a20 ?l20 ?c20 ?k20 ?a21 ?l21 ?c21 ?k21 ?cg0 ?cg1 ?m0 ?m1 ?xu0_0 ?xu0_1 ?xu0_2 ?xu0_3 ?xu0_4 ?xu0_5 ?xu0_6 ?vy0_0 ?vy0_4 ?vy0_10 ?vy0_15 ?vy0_20 ?vy0_25 ?vy0_30 ?vy0_35 ?vy0_40 ?vy0_45 ?vy0_47 ?vy0_48 ?vy0_49 ?vy0_1 ?vy0_2 ?vy0_3 ?vy0_5 ?vy0_6 ?vy0_7 ?vy0_8 ?vy0_9 ?vy0_11 ?vy0_12 ?vy0_13 ?vy0_14 ?vy0_16 ?vy0_17 ?vy0_18 ?vy0_19 ?vy0_21 ?vy0_22 ?vy0_23 ?vy0_24 ?vy0_26 ?vy0_27 ?vy0_28 ?vy0_29 ?vy0_31 ?vy0_32 ?vy0_33 ?vy0_34 ?vy0_36 ?vy0_37 ?vy0_38 ?vy0_39 ?vy0_41 ?vy0_42 ?vy0_43 ?vy0_44 ?vy0_46 ?z0 ?z1 ?z2 ?z3 ?z4 ?z5 ?z6 ?z7 ?z8 ?z9 ?z10 ?z11 ?z12 ?z13 ?z14
    (case a0 => k_is)
    (case l0 => k_is)
    (case c0 => k_is)
    (case k0 => k_is)
    (case a1 => k_is)
    (case l1 => k_is)
    (case c1 => k_is)
    (case k1 => k_is)
    (case a2 => k_is)
    (case l2 => k_is)
    (case c2 => k_is)
    (case k2 => k_is)
    (case a3 => k_is)
    (case l3 => k_is)
    (case c3 => k_is)
    (case k3 => k_is)
    (case a4 => k_is)
    (case l4 => k_is)
    (case c4 => k_is)
    (case k4 => k_is)
    (case a5 => k_is)
    (case l5 => k_is)
    (case c5 => k_is)
    (case k5 => k_is)
    (case a6 => k_is)
    (case l6 => k_is)
    (case c6 => k_is)
    (case k6 => k_is)
    (case a7 => k_is)
    (case l7 => k_is)
    (case c7 => k_is)
    (case k7 => k_is)
    (case a8 => k_is)
    (case l8 => k_is)
    (case c8 => k_is)
    (case k8 => k_is)
    (case a9 => k_is)
    (case l9 => k_is)
    (case c9 => k_is)
    (case k9 => k_is)
    (case a10 => k_is)
    (case l10 => k_is)
    (case c10 => k_is)
    (case k10 => k_is)
    (case a11 => k_is)
    (case l11 => k_is)
    (case c11 => k_is)
    (case k11 => k_is)
    (case a12 => k_is)
    (case l12 => k_is)
    (case c12 => k_is)
    (case k12 => k_is)
    (case a13 => k_is)
    (case l13 => k_is)
    (case c13 => k_is)
    (case k13 => k_is)
    (case a14 => k_is)
    (case l14 => k_is)
    (case c14 => k_is)
    (case k14 => k_is)
    (case a15 => k_is)
    (case l15 => k_is)
    (case c15 => k_is)
    (case k15 => k_is)
    (case a16 => k_is)
    (case l16 => k_is)
    (case c16 => k_is)
    (case k16 => k_is)
    (case a17 => k_is)
    (case l17 => k_is)
    (case c17 => k_is)
    (case k17 => k_is)
    (case a18 => k_is)
    (case l18 => k_is)
    (case c18 => k_is)
    (case k18 => k_is)
    (case a19 => k_is)
    (case l19 => k_is)
    (case c19 => k_is)
    (case k19 => k_is)
    (case a20 => k_is)
    (case l20 => k_is)
    (case c20 => k_is)
    (case k20 => k_is)
    (case a21 => k_is)
    (case l21 => k_is)
    (case c21 => k_is)
    (case k21 => k_is)
    (case cg0 => k_is)
    (case cg1 => k_is)
    (case m0 => k_is)
    (case m1 => k_is)
    (case xu0_0 => first | k_exc | k_is | rfl)
    (case xu0_1 => first | k_exc | k_is | rfl)
    (case xu0_2 => first | k_exc | k_is | rfl)
    (case xu0_3 => first | k_exc | k_is | rfl)
    (case xu0_4 => first | k_exc | k_is | rfl)
    (case xu0_5 => first | k_exc | k_is | rfl)
    (case xu0_6 => first | k_exc | k_is | rfl)
    (case vy0_0 => k_is)
    (case vy0_4 => k_is)
    (case vy0_10 => k_is)
    (case vy0_15 => k_is)
    (case vy0_20 => k_is)
    (case vy0_25 => k_is)
    (case vy0_30 => k_is)
    (case vy0_35 => k_is)
    (case vy0_40 => k_is)
    (case vy0_45 => k_is)
    (case vy0_47 => k_is)
    (case vy0_48 => k_is)
    (case vy0_49 => k_is)
    (case vy0_1 => k_is)
    (case vy0_2 => k_is)
    (case vy0_3 => k_is)
    (case vy0_5 => k_is)
    (case vy0_6 => k_is)
    (case vy0_7 => k_is)
    (case vy0_8 => k_is)
    (case vy0_9 => k_is)
    (case vy0_11 => k_is)
    (case vy0_12 => k_is)
    (case vy0_13 => k_is)
    (case vy0_14 => k_is)
    (case vy0_16 => k_is)
    (case vy0_17 => k_is)
    (case vy0_18 => k_is)
    (case vy0_19 => k_is)
    (case vy0_21 => k_is)
    (case vy0_22 => k_is)
    (case vy0_23 => k_is)
    (case vy0_24 => k_is)
    (case vy0_26 => k_is)
    (case vy0_27 => k_is)
    (case vy0_28 => k_is)
    (case vy0_29 => k_is)
    (case vy0_31 => k_is)
    (case vy0_32 => k_is)
    (case vy0_33 => k_is)
    (case vy0_34 => k_is)
    (case vy0_36 => k_is)
    (case vy0_37 => k_is)
    (case vy0_38 => k_is)
    (case vy0_39 => k_is)
    (case vy0_41 => k_is)
    (case vy0_42 => k_is)
    (case vy0_43 => k_is)
    (case vy0_44 => k_is)
    (case vy0_46 => k_is)
    (case z0 => k_is)
    (case z1 => k_is)
    (case z2 => k_is)
    (case z3 => k_is)
    (case z4 => k_is)
    (case z5 => k_is)
    (case z6 => k_is)
    (case z7 => k_is)
    (case z8 => k_is)
    (case z9 => k_is)
    (case z10 => k_is)
    (case z11 => k_is)
    (case z12 => k_is)
    (case z13 => k_is)
    (case z14 => k_is)
#print axioms PySem.Challenge.cw_signoff_k20_settled_values_holds
