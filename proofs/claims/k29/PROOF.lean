import PyProof.Rows.All
import Wide.All
import OpenK.AllK
import Wide.FinOn
import HandS.ForMost
import HandS.Evl
import HandS.Wide
import HandS.WideBits
import HandS.Flow
import HandS.IsInst
import HandS.TupAny
import HandS.Walk
import HandS.Zip
import HandS.Steps
import KE.GoesMore
import KE.GoesEnum
import KE.KEqSeq
import HandS.ForExc
import HandS.ExcIs
import HandS.Property
import HandS.Style
import HandS.Small
import HandS.FStr
import HandS.StrMore
import HandS.SetKeys
import HandS.Strs
import HandS.DictComp
import PyProof.StrLawsFirst
import HandS.CallSlots
import HandS.Defaults
import HandS.Star
import HandS.NoneIn
import PySem.Challenge.RW_signoff_k29_whole_delays_of_wires
set_option Elab.async false
set_option linter.all false
set_option maxRecDepth 100000
set_option maxHeartbeats 4000000
set_option Elab.async false
set_option linter.all false
set_option maxRecDepth 100000
set_option maxHeartbeats 4000000
namespace G
open PySem PySem.Spec PyProof.Rows L2 Evl
/-! ## defs by name -/
def Dfd (K : PySem.W.Frag) (mg : Str → Option Value) (x : Str) (st : Stmt) (ps : List Str) : Prop := ∃ (f : Addr) (fd : FuncData), Fun K x x st f fd ∧ mg x = some (.ref f) ∧ Binds K fd ps []
def Has (P : Program) (w : World) (K : PySem.W.Frag) (mg : Str → Option Value) (base : Heap) (k : Nat) (x : Str) (ps : List Str) (sp : Sp) : Prop :=
  ∃ (f : Addr) (fd : FuncData), FnOk P w K mg base CX0 k f fd ps sp ∧ mg x = some (.ref f) ∧ PySem.W.keepIn K (.ref f) = true ∧ Binds K fd ps []
section
variable {P : Program} {w : World} {K : PySem.W.Frag} {mg : Str → Option Value} {base : Heap}
theorem Dfd.has {x : Str} {st : Stmt} {ps : List Str} {k : Nat} {sp : Sp} (d : Dfd K mg x st ps) (h : ∀ f fd, Fun K x x st f fd → FnOk P w K mg base CX0 k f fd ps sp) : Has P w K mg base k x ps sp := by
  obtain ⟨f, fd, F, g, b⟩ := d
  exact ⟨f, fd, h f fd F, g, F.kp, b⟩
theorem Has.mono {x : Str} {ps : List Str} {j k : Nat} {sp : Sp} (h : Has P w K mg base j x ps sp) (l : j ≤ k) : Has P w K mg base k x ps sp := by
  obtain ⟨f, fd, F, g⟩ := h
  exact ⟨f, fd, F.mono l, g⟩
theorem Has.imp {x : Str} {ps : List Str} {k : Nat} {sp sp' : Sp} (h : Has P w K mg base k x ps sp) (i : ∀ vs H Q E, sp' vs H Q E → sp vs H Q E) : Has P w K mg base k x ps sp' := by
  obtain ⟨f, fd, F, g⟩ := h
  exact ⟨f, fd, F.imp i, g⟩
end
/-! ## heaps -/
theorem sq_ex {K : PySem.W.Frag} {H H' : Hp} {a : Addr} {xs : List V} (e : Ex H H') (h : SqL K H a xs) : SqL K H' a xs := ex_l e h
/-- the heap without what stands at p -/
def hid (p : Addr) (H : Hp) : Hp := fun b => if b = p then none else H b
theorem hid_self {p : Addr} {H : Hp} : hid p H p = none := by unfold hid; rw [if_pos rfl]
theorem hid_ne {p b : Addr} {H : Hp} (h : b ≠ p) : hid p H b = H b := by unfold hid; rw [if_neg h]
theorem hid_get {p b : Addr} {H : Hp} {o : HO} (h : hid p H b = some o) : H b = some o := by
  by_cases e : b = p
  · subst e; rw [hid_self] at h; cases h
  · rw [hid_ne e] at h; exact h
theorem hid_neq {p b : Addr} {H : Hp} {o : HO} (h : hid p H b = some o) : b ≠ p := by
  intro e; subst e; rw [hid_self] at h; cases h
theorem hid_ex {p : Addr} {H : Hp} : Ex (hid p H) H := fun _ _ h => hid_get h
theorem hid_upd {p : Addr} {H : Hp} {o : HO} : hid p (upd H p o) = hid p H := by
  funext b
  by_cases e : b = p
  · subst e; rw [hid_self, hid_self]
  · rw [hid_ne e, hid_ne e, upd_ne e]
theorem hid_upd_ne {p q : Addr} {H : Hp} {o : HO} (h : q ≠ p) : hid p (upd H q o) = upd (hid p H) q o := by
  funext b
  by_cases e2 : b = q
  · subst e2; rw [hid_ne h, upd_same, upd_same]
  · rw [upd_ne e2]
    by_cases e : b = p
    · subst e; rw [hid_self, hid_self]
    · rw [hid_ne e, hid_ne e, upd_ne e2]
theorem hid_none {p b : Addr} {H : Hp} (h : H b = none) : hid p H b = none := by
  unfold hid; split
  · rfl
  · exact h
/-! ## the pool of draws: the list at p, the script's copy at a -/
def PoolOk (p a : Addr) (H : Hp) : Prop := ∃ (ns : List Int) (i : Nat) (c k s : Int), H p = some (.lst [.ref a, .int i, .int c, .int k, .int s]) ∧ hid p H a = some (.lst (ns.map V.int)) ∧ ns.length ≤ 1000
/-- from H to H' all but the pool is kept, and the pool is a pool -/
structure Px (p a : Addr) (H H' : Hp) : Prop where
  was : PoolOk p a H
  pool : PoolOk p a H'
  ex : Ex (hid p H) (hid p H')
section
variable {p a : Addr} {H H1 H2 H' : Hp}
theorem Px.refl (h : PoolOk p a H) : Px p a H H := ⟨h, h, Ex.refl _⟩
theorem Px.trans (x : Px p a H H1) (y : Px p a H1 H2) : Px p a H H2 := ⟨x.was, y.pool, x.ex.trans y.ex⟩
theorem PoolOk.ne {b : Addr} (h : PoolOk p a H) (n : H b = none) : b ≠ p := by
  obtain ⟨_, _, _, _, _, e, _⟩ := h
  exact (ne_of_none e n).symm
theorem PoolOk.ne2 {b : Addr} (h : PoolOk p a H) (n : H b = none) : a ≠ b := by
  obtain ⟨_, _, _, _, _, _, e, _⟩ := h
  exact ne_of_none (hid_get e) n
theorem PoolOk.kept (h : PoolOk p a H) (e : Ex H H') : PoolOk p a H' := by
  obtain ⟨ns, i, c, k, s, h1, h2, h3⟩ := h
  exact ⟨ns, i, c, k, s, e _ _ h1, by rw [hid_ne (hid_neq h2)]; exact e _ _ (hid_get h2), h3⟩
theorem Px.ofEx (h : PoolOk p a H) (e : Ex H H') : Px p a H H' := ⟨h, h.kept e, fun b o hb => by rw [hid_ne (hid_neq hb)]; exact e _ _ (hid_get hb)⟩
theorem Px.more (x : Px p a H H1) (e : Ex H1 H2) : Px p a H H2 := x.trans (Px.ofEx x.pool e)
theorem Px.draw {o : HO} (w : PoolOk p a H) (h : PoolOk p a (upd H p o)) : Px p a H (upd H p o) := ⟨w, h, by rw [hid_upd]; exact Ex.refl _⟩
theorem Px.new (x : Px p a H H1) {l : Addr} {o : HO} (n : H1 l = none) : Px p a H (upd H1 l o) := x.more (Ex.new n)
/-- what H has is kept -/
theorem Px.get (x : Px p a H H1) {b : Addr} {o : HO} (h : hid p H b = some o) : hid p H1 b = some o := x.ex _ _ h
theorem Px.at_ (x : Px p a H H1) {b : Addr} {o : HO} (h : hid p H b = some o) : H1 b = some o := hid_get (x.ex _ _ h)
theorem Px.free (x : Px p a H H1) {b : Addr} (n : H1 b = none) : H b = none := by
  cases e : H b with
  | none => rfl
  | some o =>
    have hb : b ≠ p := x.pool.ne n
    have := x.ex b o (by rw [hid_ne hb]; exact e)
    rw [hid_get this] at n; cases n
/-- an object that H does not have may change -/
theorem Px.mut (x : Px p a H H1) {l : Addr} {o : HO} (n : H l = none) : Px p a H (upd H1 l o) := by
  have hl : l ≠ p := x.was.ne n
  have ha : a ≠ l := x.was.ne2 n
  refine ⟨x.was, ?_, ?_⟩
  · obtain ⟨ns, i, c, k, s, h1, h2, h3⟩ := x.pool
    exact ⟨ns, i, c, k, s, by rw [upd_ne hl.symm]; exact h1, by rw [hid_upd_ne hl, upd_ne ha]; exact h2, h3⟩
  · rw [hid_upd_ne hl]; exact Ex.mut x.ex (hid_none n)
/-- a fresh object stands apart from the pool -/
theorem Px.seen (x : Px p a H H1) {l : Addr} {o : HO} (n : H l = none) (e : H1 l = some o) : hid p H1 l = some o := by
  rw [hid_ne (x.was.ne n)]; exact e
end
end G
namespace G
open PySem PySem.Spec PyProof.Rows L2 Evl
/-! ## comprehensions whose elements are plain values -/
theorem given_all {n : Nat} {v : Nat → V} : given n (fun _ => true) v = (List.range n).map v := by
  unfold given
  rw [List.filter_eq_self.mpr (fun _ _ => rfl)]
section
variable {lo : Int} {n j : Nat} {tt : TT} {te : TE} {vs : List Nat} {σ : L2.St} {H1 : Hp} {D : Addr} {Qd : Hp → Prop} {K : PySem.W.Frag} {a : Addr} {xs : List V}
theorem lc_turn {f : Nat → Bool} {v : Nat → V} {i : Nat} {H : Hp} {σ2 : L2.St} (e : H = upd H1 D (.lst (given i f v))) (hi : i < 100000) (ht : Ans tt σ2 H (f i)) (he : f i = true → Val te σ2 H (v i)) :
    tt σ2 H fun b H3 => if b = true then te σ2 H3 fun y H4 => ∃ acc, H4 D = some (.lst acc) ∧ acc.length < sizeLine ∧ (upd H4 D (.lst (acc ++ [y]))) = upd H1 D (.lst (given (i + 1) f v)) else H3 = upd H1 D (.lst (given (i + 1) f v)) := by
  refine ht _ ?_
  subst e
  cases hf : f i with
  | true =>
    refine iteT (he hf _ ⟨_, upd_same, sz_lt (by have := given_len i f v; omega), ?_⟩)
    rw [given_yes hf, upd_upd]
  | false =>
    refine iteF ?_
    rw [given_no hf]
theorem lcR (f : Nat → Bool) (v : Nat → V) (hn : n ≤ 100000) (hw : ∀ x, wipe ((wipe σ vs).set j (some x)) vs = wipe σ vs)
    (ht : ∀ (i : Nat) (H : Hp), i < n → H = upd H1 D (.lst (given i f v)) → Ans tt ((wipe σ vs).set j (some (.int (lo + i)))) H (f i))
    (he : ∀ (i : Nat) (H : Hp), i < n → H = upd H1 D (.lst (given i f v)) → f i = true → Val te ((wipe σ vs).set j (some (.int (lo + i)))) H (v i)) (q : Qd (upd H1 D (.lst (given n f v)))) :
    ∃ W : Nat → Nat → Hp → Prop, (∃ m, W 0 m (upd H1 D (.lst []))) ∧ ∀ i m H, W i m H →
      ((Itr lo n).stop i H ∧ Qd H) ∨ ((Itr lo n).go i H ∧ ∃ Nx : Hp → Prop, (∀ H', Nx H' → ∃ m', m' < m ∧ W (i + 1) m' H') ∧ ∀ x H', (Itr lo n).yld i H x H' → gName j x (wipe σ vs) H' fun σ2 H2 => wipe σ2 vs = wipe σ vs ∧ tt σ2 H2 fun b H3 =>
        if b = true then te σ2 H3 fun y H4 => ∃ acc, H4 D = some (.lst acc) ∧ acc.length < sizeLine ∧ Nx (upd H4 D (.lst (acc ++ [y]))) else Nx H3) :=
  lc_range (fun i H => H = upd H1 D (.lst (given i f v))) rfl (fun i H hi e => ⟨hw _, lc_turn e (by omega) (ht i H hi e) (he i H hi e)⟩) (fun H e => by rw [e]; exact q)
theorem lcRv (v : Nat → V) (hn : n ≤ 100000) (hw : ∀ x, wipe ((wipe σ vs).set j (some x)) vs = wipe σ vs)
    (he : ∀ (i : Nat) (H : Hp), i < n → H = upd H1 D (.lst (given i (fun _ => true) v)) → Val te ((wipe σ vs).set j (some (.int (lo + i)))) H (v i)) (q : Qd (upd H1 D (.lst ((List.range n).map v)))) :
    ∃ W : Nat → Nat → Hp → Prop, (∃ m, W 0 m (upd H1 D (.lst []))) ∧ ∀ i m H, W i m H →
      ((Itr lo n).stop i H ∧ Qd H) ∨ ((Itr lo n).go i H ∧ ∃ Nx : Hp → Prop, (∀ H', Nx H' → ∃ m', m' < m ∧ W (i + 1) m' H') ∧ ∀ x H', (Itr lo n).yld i H x H' → gName j x (wipe σ vs) H' fun σ2 H2 => wipe σ2 vs = wipe σ vs ∧ tYes σ2 H2 fun b H3 =>
        if b = true then te σ2 H3 fun y H4 => ∃ acc, H4 D = some (.lst acc) ∧ acc.length < sizeLine ∧ Nx (upd H4 D (.lst (acc ++ [y]))) else Nx H3) :=
  lcR (fun _ => true) v hn hw (fun _ _ _ _ => fun _ q => q) (fun i H hi e _ => he i H hi e) (by rw [given_all]; exact q)
theorem lcL (f : Nat → Bool) (v : Nat → V) (hx : SqL K H1 a xs) (hD : H1 D = none) (hn : xs.length ≤ 100000) (hw : ∀ x, wipe ((wipe σ vs).set j (some x)) vs = wipe σ vs)
    (ht : ∀ (i : Nat) (x : V) (H : Hp), xs[i]? = some x → H = upd H1 D (.lst (given i f v)) → Ans tt ((wipe σ vs).set j (some x)) H (f i))
    (he : ∀ (i : Nat) (x : V) (H : Hp), xs[i]? = some x → H = upd H1 D (.lst (given i f v)) → f i = true → Val te ((wipe σ vs).set j (some x)) H (v i)) (q : Qd (upd H1 D (.lst (given xs.length f v)))) :
    ∃ W : Nat → Nat → Hp → Prop, (∃ m, W 0 m (upd H1 D (.lst []))) ∧ ∀ i m H, W i m H →
      ((Itl K a).stop i H ∧ Qd H) ∨ ((Itl K a).go i H ∧ ∃ Nx : Hp → Prop, (∀ H', Nx H' → ∃ m', m' < m ∧ W (i + 1) m' H') ∧ ∀ x H', (Itl K a).yld i H x H' → gName j x (wipe σ vs) H' fun σ2 H2 => wipe σ2 vs = wipe σ vs ∧ tt σ2 H2 fun b H3 =>
        if b = true then te σ2 H3 fun y H4 => ∃ acc, H4 D = some (.lst acc) ∧ acc.length < sizeLine ∧ Nx (upd H4 D (.lst (acc ++ [y]))) else Nx H3) :=
  lc_list (fun i H => H = upd H1 D (.lst (given i f v))) rfl (fun i H hi e => by rw [e]; exact ex_l (Ex.new hD) hx) (fun i x H hi e => ⟨hw _, lc_turn e (by have := (List.getElem?_eq_some_iff.mp hi).1; omega) (ht i x H hi e) (he i x H hi e)⟩) (fun H e => by rw [e]; exact q)
theorem lcT (f : Nat → Bool) (v : Nat → V) (hx : SqT K H1 a xs) (hD : H1 D = none) (hn : xs.length ≤ 100000) (hw : ∀ x, wipe ((wipe σ vs).set j (some x)) vs = wipe σ vs)
    (ht : ∀ (i : Nat) (x : V) (H : Hp), xs[i]? = some x → H = upd H1 D (.lst (given i f v)) → Ans tt ((wipe σ vs).set j (some x)) H (f i))
    (he : ∀ (i : Nat) (x : V) (H : Hp), xs[i]? = some x → H = upd H1 D (.lst (given i f v)) → f i = true → Val te ((wipe σ vs).set j (some x)) H (v i)) (q : Qd (upd H1 D (.lst (given xs.length f v)))) :
    ∃ W : Nat → Nat → Hp → Prop, (∃ m, W 0 m (upd H1 D (.lst []))) ∧ ∀ i m H, W i m H →
      ((Itt K a).stop i H ∧ Qd H) ∨ ((Itt K a).go i H ∧ ∃ Nx : Hp → Prop, (∀ H', Nx H' → ∃ m', m' < m ∧ W (i + 1) m' H') ∧ ∀ x H', (Itt K a).yld i H x H' → gName j x (wipe σ vs) H' fun σ2 H2 => wipe σ2 vs = wipe σ vs ∧ tt σ2 H2 fun b H3 =>
        if b = true then te σ2 H3 fun y H4 => ∃ acc, H4 D = some (.lst acc) ∧ acc.length < sizeLine ∧ Nx (upd H4 D (.lst (acc ++ [y]))) else Nx H3) :=
  lc_tup (fun i H => H = upd H1 D (.lst (given i f v))) rfl (fun i H hi e => by rw [e]; exact ex_t (Ex.new hD) hx) (fun i x H hi e => ⟨hw _, lc_turn e (by have := (List.getElem?_eq_some_iff.mp hi).1; omega) (ht i x H hi e) (he i x H hi e)⟩) (fun H e => by rw [e]; exact q)
theorem lcLm (g : V → V) (hx : SqL K H1 a xs) (hD : H1 D = none) (hn : xs.length ≤ 100000) (hw : ∀ x, wipe ((wipe σ vs).set j (some x)) vs = wipe σ vs)
    (he : ∀ (i : Nat) (x : V) (H : Hp), xs[i]? = some x → H = upd H1 D (.lst ((xs.take i).map g)) → Val te ((wipe σ vs).set j (some x)) H (g x)) (q : Qd (upd H1 D (.lst (xs.map g)))) :
    ∃ W : Nat → Nat → Hp → Prop, (∃ m, W 0 m (upd H1 D (.lst []))) ∧ ∀ i m H, W i m H →
      ((Itl K a).stop i H ∧ Qd H) ∨ ((Itl K a).go i H ∧ ∃ Nx : Hp → Prop, (∀ H', Nx H' → ∃ m', m' < m ∧ W (i + 1) m' H') ∧ ∀ x H', (Itl K a).yld i H x H' → gName j x (wipe σ vs) H' fun σ2 H2 => wipe σ2 vs = wipe σ vs ∧ tYes σ2 H2 fun b H3 =>
        if b = true then te σ2 H3 fun y H4 => ∃ acc, H4 D = some (.lst acc) ∧ acc.length < sizeLine ∧ Nx (upd H4 D (.lst (acc ++ [y]))) else Nx H3) :=
  lc_list (fun i H => H = upd H1 D (.lst ((xs.take i).map g))) (by rw [List.take_zero]; rfl) (fun i H hi e => by rw [e]; exact ex_l (Ex.new hD) hx)
    (fun i x H hi e => ⟨hw _, by
      refine iteT (B := H = upd H1 D (.lst ((xs.take (i + 1)).map g))) ?_
      refine he i x H hi e _ ?_
      subst e
      refine ⟨_, upd_same, sz_lt ?_, ?_⟩
      · rw [List.length_map, List.length_take]; have := (List.getElem?_eq_some_iff.mp hi).1; omega
      · rw [upd_upd, List.take_add_one, hi, List.map_append]; rfl⟩) (fun H e => by rw [e, List.take_length]; exact q)
theorem lcTm (g : V → V) (hx : SqT K H1 a xs) (hD : H1 D = none) (hn : xs.length ≤ 100000) (hw : ∀ x, wipe ((wipe σ vs).set j (some x)) vs = wipe σ vs)
    (he : ∀ (i : Nat) (x : V) (H : Hp), xs[i]? = some x → H = upd H1 D (.lst ((xs.take i).map g)) → Val te ((wipe σ vs).set j (some x)) H (g x)) (q : Qd (upd H1 D (.lst (xs.map g)))) :
    ∃ W : Nat → Nat → Hp → Prop, (∃ m, W 0 m (upd H1 D (.lst []))) ∧ ∀ i m H, W i m H →
      ((Itt K a).stop i H ∧ Qd H) ∨ ((Itt K a).go i H ∧ ∃ Nx : Hp → Prop, (∀ H', Nx H' → ∃ m', m' < m ∧ W (i + 1) m' H') ∧ ∀ x H', (Itt K a).yld i H x H' → gName j x (wipe σ vs) H' fun σ2 H2 => wipe σ2 vs = wipe σ vs ∧ tYes σ2 H2 fun b H3 =>
        if b = true then te σ2 H3 fun y H4 => ∃ acc, H4 D = some (.lst acc) ∧ acc.length < sizeLine ∧ Nx (upd H4 D (.lst (acc ++ [y]))) else Nx H3) :=
  lc_tup (fun i H => H = upd H1 D (.lst ((xs.take i).map g))) (by rw [List.take_zero]; rfl) (fun i H hi e => by rw [e]; exact ex_t (Ex.new hD) hx)
    (fun i x H hi e => ⟨hw _, by
      refine iteT (B := H = upd H1 D (.lst ((xs.take (i + 1)).map g))) ?_
      refine he i x H hi e _ ?_
      subst e
      refine ⟨_, upd_same, sz_lt ?_, ?_⟩
      · rw [List.length_map, List.length_take]; have := (List.getElem?_eq_some_iff.mp hi).1; omega
      · rw [upd_upd, List.take_add_one, hi, List.map_append]; rfl⟩) (fun H e => by rw [e, List.take_length]; exact q)
end
end G
namespace G
open PySem PySem.Spec PyProof.Rows L2 Evl
/-! ## rules within a comprehension's block: the written part by its letter -/
section
variable {X : Cx} {K : PySem.W.Frag}
theorem kIxT (h : X.K = K) : IxR X (rIxT K) := by subst h; exact ix_tup
theorem kIxL (h : X.K = K) : IxR X (rIxL K) := by subst h; exact ix_list
theorem kIx (h : X.K = K) : IxR X (rIx K) := by subst h; exact ix_seq
theorem kIn (h : X.K = K) : OpR X (compareOp .In) (rIn K false) := by subst h; exact op_in_seq
theorem kNotIn (h : X.K = K) : OpR X (compareOp .NotIn) (rIn K true) := by subst h; exact op_notIn_seq
theorem kLen (h : X.K = K) : CallR X (.builtin "len") (rLenS K) := by subst h; exact call_len_seq
theorem gStr {x s : Str} {t : Tok} {pos : Pos} (hg : Gl X x) (h : X.mg x = some (.str s t)) (hd : (x == ("__debug__" : Str)) = false := by decide) : PE X (.Name x pos) (tC (.str s)) := pe_glob (v := .str s) hg h ⟨t, rfl⟩ hd
theorem gInt {x : Str} {i : Int} {t : Tok} {pos : Pos} (hg : Gl X x) (h : X.mg x = some (.int i t)) (hd : (x == ("__debug__" : Str)) = false := by decide) : PE X (.Name x pos) (tC (.int i)) := pe_glob (v := .int i) hg h ⟨t, rfl⟩ hd
theorem gRef {x : Str} {a : Addr} {pos : Pos} (hg : Gl X x) (h : X.mg x = some (.ref a)) (hd : (x == ("__debug__" : Str)) = false := by decide) : PE X (.Name x pos) (tC (.ref a)) := pe_glob (v := .ref a) hg h rfl hd
theorem kSlL (h : X.K = K) : SlR X (rSlL K) := by subst h; exact sl_list
theorem kCatA (h : X.K = K) : OpR X (binaryOp .Add) (rCatA K) := by subst h; exact op_catA
theorem kAny (h : X.K = K) (hc : X.calm = true) : CallR X (.builtin "any") (rAny K) := by subst h; exact cr_any hc
theorem kAll (h : X.K = K) (hc : X.calm = true) : CallR X (.builtin "all") (rAll K) := by subst h; exact cr_all hc
theorem kLtT (h : X.K = K) (hu : X.A.units < cLine) : OpR X (compareOp .Lt) (rLtT K) := by subst h; exact op_ltT hu
theorem kPiT {e tg : Expr} {te : TE} (h : X.K = K) (he : PE X e te) : PI X tg e (iTup K te) := by subst h; exact pi_tup he
theorem kPiL {e tg : Expr} {te : TE} (h : X.K = K) (he : PE X e te) : PI X tg e (iList K te) := by subst h; exact pi_list he
theorem kSlA (h : X.K = K) : SlR X (rSlA K) := by subst h; exact sl_tupA
end
end G
namespace G
open PySem PySem.Spec PyProof.Rows L2 Evl
theorem dpAll_map {α : Type} {K : PySem.W.Frag} {H : Hp} {f : α → V} {g : α → PyData} (h : ∀ x, Dp K H (f x) (g x)) : ∀ l : List α, DpAll K H (l.map f) (l.map g)
  | [] => .nil
  | x :: r => .cons (h x) (dpAll_map h r)
theorem dp_ints {K : PySem.W.Frag} {H : Hp} {a : Addr} {ns : List Int} (h : SqL K H a (ns.map V.int)) : Dp K H (.ref a) (.list (ns.map PyData.int)) := .lst h (dpAll_map (fun i => .int i) ns)
theorem dp_nil {K : PySem.W.Frag} {H : Hp} {a : Addr} (h : SqL K H a []) : Dp K H (.ref a) (.list []) := .lst h .nil
theorem eqv_nil (l : List PyData) : PyData.eqv (.list l) (.list []) = l.isEmpty := by cases l <;> rfl
theorem shaped_nil : SeqAt.shaped (.list []) = true := by decide +kernel
end G
/-! enumerate over a tuple -/
namespace PySem
section
variable {prog : Program} {w : World} {A : Around} {E : Value → Shared → Prop} {s : Shared}
theorem G_tupOf {h : Heap} {a : Addr} {xs : Array Value} (p : PyProof.Rows.IsTup h a xs) : h.IsTuple a xs := p
set_option maxHeartbeats 2000000 in
theorem G_enumNew {v : Value} {o : Obj} {Hh : Heap → Prop} (B : Begins v o Hh) :
    Meets (Builtin.«enumerate.__new__» ⟨[.type "enumerate", v], []⟩) (fun _ R s => Hh s.heap ∧
      R (.ok (.ret (.ref (s.heap.push o).objs.size))) { s with heap := (s.heap.push o).push { cls := .type "enumerate", data := .fields #[.none, .bool false, .ref s.heap.objs.size, rawInt 0, .none, .none] } }) :=
  .of_wp fun pr wo ar rr sh hh => by
    obtain ⟨hp, gg, dd, tk, os⟩ := sh; obtain ⟨h1, h2⟩ := hh
    have sub0 := sub_enumerate
    have qq : ∀ {A' : Around} {E : Value → Shared → Prop} {Q : Value → Shared → Prop}, Q (.ref hp.objs.size) ⟨hp.push o, gg, dd, tk, os⟩ → wpAny (model pr wo) A' (pyIter v) Q E ⟨hp, gg, dd, tk, os⟩ :=
      fun z => B.iter pr wo _ _ ⟨hp, gg, dd, tk, os⟩ _ h1 z
    wp_walk using qq
    refine wpAny_stack_any fun _ => wpAny_pure ?_
    split
    · rename_i cc _ _ _ _ _
      cases (cc == Value.type "enumerate") <;> (wp_walk using qq; exact ⟨_, rfl, h2⟩)
    · wp_walk using qq
      exact ⟨_, rfl, h2⟩
theorem G_enumCall {v : Value} {o : Obj} {Hh : Heap → Prop} {Q : Value → Shared → Prop} (B : Begins v o Hh) (h1 : Hh s.heap)
    (k : ∀ h', IsEnum h' (s.heap.objs.size + 1) s.heap.objs.size 0 .none → h'.get? s.heap.objs.size = some o → (∀ b u, s.heap.get? b = some u → h'.get? b = some u) → Q (.ref (s.heap.objs.size + 1)) { s with heap := h' }) :
    wpAny (model prog w) A (call (.type "enumerate") [v]) Q E s := by
  refine callType_new F.called_enumerate (by decide) (F.typeCall_enumerate_1 _) (F.newCall_enumerate_1 _) (fun y => F.args_object_init_2 y _) F.entry_enumerate_new (G_enumNew B) ⟨h1, ?_⟩
  have hz : (s.heap.push o).objs.size = s.heap.objs.size + 1 := Heap.size_push ..
  show _ ∧ _
  rw [hz]
  have he : IsEnum ((s.heap.push o).push { cls := .type "enumerate", data := .fields #[.none, .bool false, .ref s.heap.objs.size, rawInt 0, .none, .none] }) (s.heap.objs.size + 1) s.heap.objs.size 0 .none := by
    have hs := Heap.get?_push_size (s.heap.push o) (o := { cls := .type "enumerate", data := .fields #[.none, .bool false, .ref s.heap.objs.size, rawInt 0, .none, .none] }) rfl
    rw [hz] at hs; exact hs
  exact ⟨⟨_, he, rfl⟩, k _ he (Heap.get?_push_of_some _ (Heap.get?_push_size _ B.free)) fun b u x => Heap.get?_push_of_some _ (Heap.get?_push_of_some _ x)⟩
end
end PySem
namespace G
open PySem PySem.Spec PyProof.Rows L2 Evl
/-- the tuple at a at each turn, each item in a new pair -/
def IteT (K : PySem.W.Frag) (a : Addr) : It :=
  ⟨fun i H => ∃ (xs : List V) (x : V), SqT K H a xs ∧ xs[i]? = some x,
   fun i H v H' => ∃ T x, v = .ref T ∧ H T = none ∧ H' = upd H T (.tup [.int (i : Nat), x]) ∧ ∀ xs, SqT K H a xs → xs[i]? = some x,
   fun i H => ∃ xs : List V, SqT K H a xs ∧ xs.length = i⟩
theorem turn_enumT {P : Program} {w : World} {K : PySem.W.Frag} {elts : List Expr} {kk : Nat} {tpos : Pos} (a e it : Addr) :
    Turn P w K (.Tuple elts kk tpos) (IteT K a) [e, it] e (fun i h => (∃ old, IsEnum h e it ((i : Nat) : Int) old) ∧ h.IsTupleIter it a i ∧ e ≠ it ∧ a ≠ it ∧ a ≠ e) where
  mem := by simp
  obj := fun i h st b hb => by
    obtain ⟨⟨old, he⟩, ⟨o, ho, hc, hd⟩, _⟩ := st
    have hb' : b = e ∨ b = it := by simpa using hb
    rcases hb' with z | z
    · rw [z]; exact ⟨_, he, fun v q => nomatch q⟩
    · rw [z]; exact ⟨o, ho, fun v q => by rw [hd] at q; cases q⟩
  keep := fun i h h' st k => by
    obtain ⟨⟨old, he⟩, hi, hne⟩ := st
    exact ⟨⟨old, k e (by simp) _ he⟩, hi.at fun o q => k it (by simp) o q, hne⟩
  item := by
    intro X hP hw hK hc i pins s σ H E I hf st hg
    subst hP hw hK
    obtain ⟨⟨old, he⟩, hit, hne, hai, hae⟩ := st
    obtain ⟨xs, x, hq, hx⟩ := hg
    obtain ⟨its, rv, p, hz⟩ := I.tuple hq
    obtain ⟨u, hu, ru⟩ := rv.get hx
    have hel : e < s.heap.objs.size := Heap.lt_size he
    have hil : it < s.heap.objs.size := by obtain ⟨_, q, _⟩ := hit; exact Heap.lt_size q
    have hh : X.A.handled = none := I.ok.hd hc
    refine wpAny_pyNext_enum_itemD (Draws.tuple (A := X.A.in1) hh it a hai its.toArray) he ⟨hit, p⟩ ?_ hne ?_ fun y h' tk hy ho hst hT hsz hk => ?_
    · have := (List.getElem?_eq_some_iff.mp hu).1
      simpa using this
    · intro hm
      have hm' : e = it ∨ e = a := by simpa using hm
      rcases hm' with z | z
      · exact hne z
      · exact hae z.symm
    · have ey : y = u := by
        have hy' : its[i]? = some y := by simpa using hy
        exact Option.some.inj (hy'.symm.trans hu)
      subst ey
      refine ⟨_, rfl, wpAny_letOwnedTupleGo_enum (s := { s with heap := h', toks := tk + 1 }) ho fun h'' he' sb => ?_⟩
      have hT2 : h''.get? s.heap.objs.size = some { cls := .type "tuple", data := .seq #[.int i tk, y] } := (sb.2 _ (Nat.ne_of_gt hel)).trans hT
      have new : ObjOk X.prog X.w (upd H s.heap.objs.size (.tup [.int (i : Nat), x])) h'' s.heap.objs.size (.tup [.int (i : Nat), x]) :=
        ⟨by show 2 ≤ sizeLine; decide, [.int i tk, y], .cons ⟨_, rfl⟩ (.cons ru .nil), ⟨_, hT2, rfl, _, rfl⟩⟩
      have I1 : Inv X pins σ (upd H s.heap.objs.size (.tup [.int (i : Nat), x])) { s with heap := h'', toks := tk + 1 } :=
        I.turnedNew (ch := [e, it]) (fun b ob hb q => (sb.2 b (fun z => hb (by simp [z]))).trans (hk b ob (fun z => hb (by simp [z])) (fun z => hb (by simp [z])) q)) hf (Nat.le_refl _) new
      refine ⟨.ref s.heap.objs.size, _, I1, rfl, ⟨_, x, rfl, I.hok.fresh (Nat.le_refl _), rfl, fun ys hy => by rw [I.tuple_inj hy hq]; exact hx⟩, ⟨⟨y, ?_⟩, hst.1.at fun o q => (sb.2 it (Ne.symm hne)).trans q, hne, hai, hae⟩, fun b hb => ?_⟩
      · have e1 : ((i + 1 : Nat) : Int) = (i : Int) + 1 := by omega
        rw [e1]; exact he'
      · have hb' : b < s.heap.objs.size := by
          have hb2 : b = e ∨ b = it := by simpa using hb
          rcases hb2 with z | z
          · rw [z]; exact hel
          · rw [z]; exact hil
        rw [upd_ne (Nat.ne_of_lt hb')]
        exact (hf b hb).1
  done := by
    intro X hP hw hK hc i pins s σ H E I hf st hg
    subst hP hw hK
    obtain ⟨⟨old, he⟩, hit, hne, hai, hae⟩ := st
    obtain ⟨xs, hq, hx⟩ := hg
    obtain ⟨its, rv, p, hz⟩ := I.tuple hq
    obtain ⟨f0, f1, f2, f3, f4, f5⟩ := hf it (by simp)
    have hl := rv.length
    have hh : X.A.handled = none := I.ok.hd hc
    have ei : its.toArray.size = i := by rw [List.size_toArray, ← hl]; exact hx
    have st2 : s.heap.IsTupleIter it a its.toArray.size ∧ s.heap.IsTuple a its.toArray := by rw [ei]; exact ⟨hit, p⟩
    exact wpAny_pyNext_enum_endD (Draws.tuple (A := X.A.in1) hh it a hai its.toArray) he st2 fun h' eb => ⟨rfl, I.turned (t' := s.toks) (fun b o hb q => eb b o hb q) f0 f1 f3 f4 f5⟩
  self := fun A i s Q E st h => by
    obtain ⟨⟨_, he⟩, _⟩ := st
    exact wpAny_pyIter_enum he h
def iEnumT (K : PySem.W.Frag) (ta : TA) : TI := fun σ H R => ta σ H fun vs H1 => ∃ a xs, vs = [.ref a] ∧ SqT K H1 a xs ∧ R (IteT K a) H1
theorem pi_enumT {X : Cx} {e : Expr} {ta : TA} {p pos tpos : Pos} {elts : List Expr} {kk : Nat} (hg : Gl X "enumerate") (hm : X.mg "enumerate" = none) (ha : PA X [e] ta) (hs : starEach [e] X.env = [(false, eval e X.env)] := by rfl) :
    PI X (.Tuple elts kk tpos) (.Call (.Name "enumerate" p) [e] [] pos) (iEnumT X.K ta) := by
  refine ⟨fun pins s σ H R I h => Call_ (ld_blt I hg hm boot_enumerate (PyProof.Rows.callWith_type1 (thn (ha.run pos pins s σ H _ I h) fun us s1 ⟨vs, H1, I1, r1, q1⟩ => ?_) hs rfl))⟩
  obtain ⟨a, xs, rfl, hq, q⟩ := q1
  cases r1 with
  | cons r rr =>
    cases rr
    cases r
    obtain ⟨its, rv, p', hz⟩ := I1.tuple hq
    have hal : a < s1.heap.objs.size := by obtain ⟨o, ho, _⟩ := p'; exact Heap.lt_size ho
    refine G_enumCall (begins_tuple a its.toArray) p' fun h' he hit hk => wpAny_pyIter_enum he ?_
    have I2 : Inv X pins σ H1 { s1 with heap := h' } := I1.kept (t' := s1.toks) hk
    refine ⟨s1.heap.objs.size + 1, [s1.heap.objs.size + 1, s1.heap.objs.size], _, _, H1, rfl, I2, turn_enumT a (s1.heap.objs.size + 1) s1.heap.objs.size,
      ⟨⟨.none, he⟩, ⟨_, hit, rfl, rfl⟩, Nat.succ_ne_self _, Nat.ne_of_lt hal, Nat.ne_of_lt (Nat.lt_succ_of_lt hal)⟩, fun b hb => ?_, q⟩
    have hb' : b = s1.heap.objs.size + 1 ∨ b = s1.heap.objs.size := by simpa using hb
    have hle : s1.heap.objs.size ≤ b := by
      rcases hb' with z | z
      · rw [z]; exact Nat.le_add_right _ _
      · rw [z]; exact Nat.le_refl _
    exact I1.fpOk hle (I1.hok.fresh hle)
theorem walk_enumT {K : PySem.W.Frag} {a : Addr} {xs : List V} : Walk (IteT K a) xs.length (fun H => SqT K H a xs) (YPair (fun i => some (.int (i : Nat))) (fun i => xs[i]?)) := by
  refine ⟨fun i _ hi q => ⟨xs, xs[i], q, by simp [hi]⟩, fun _ q => ⟨xs, q, rfl⟩, fun i H v H' _ q y => ?_⟩
  obtain ⟨T, x, h1, h2, h3, h4⟩ := y
  exact ⟨T, .int (i : Nat), x, h1, h2, h3, rfl, h4 xs q⟩
theorem kPiEnumT {X : Cx} {K : PySem.W.Frag} {e : Expr} {ta : TA} {p pos tpos : Pos} {elts : List Expr} {kk : Nat} (h : X.K = K) (hg : Gl X "enumerate") (hm : X.mg "enumerate" = none) (ha : PA X [e] ta) (hs : starEach [e] X.env = [(false, eval e X.env)] := by rfl) :
    PI X (.Tuple elts kk tpos) (.Call (.Name "enumerate" p) [e] [] pos) (iEnumT K ta) := by subst h; exact pi_enumT hg hm ha hs
end G
/-! t[a::2], t a tuple -/
namespace HT
open PySem PySem.Spec PyProof.Rows L2
section
variable {prog : Program} {w : World} {A : Around} {E : Value → Shared → Prop} {s : Shared}
theorem g_applied {sl : Addr} {vl vu vs : Value} {lo hi : Option Int} {st : Int} {n : Nat} {Q : Int × Int × Nat → Shared → Prop} (hs : s.heap.IsSliceOf sl vl vu vs) (pl : IsPart vl lo) (pu : IsPart vu hi) (ps : IsPart vs (some st)) (h0 : st ≠ 0)
    (h : Q ((Builtin.Slice.sliceAdjust lo hi st (n : Int)).1, st, Builtin.Slice.slicePlaces (Builtin.Slice.sliceAdjust lo hi st (n : Int)).1 (Builtin.Slice.sliceAdjust lo hi st (n : Int)).2 st) s) :
    wpAny (model prog w) A (Builtin.Slice.sliceApplied (.ref sl) (pure (n : Int))) Q E s := by
  obtain ⟨ob, hob, _, hd⟩ := id hs
  unfold Builtin.Slice.sliceApplied Builtin.Slice.sliceFields
  refine wpAny_bind (wpAny_bind (wpAny_field hob hd (x := vl) rfl (wpAny_bind (wpAny_field hob hd (x := vu) rfl (wpAny_bind (wpAny_field hob hd (x := vs) rfl (wpAny_pure ?_)))))))
  refine wpAny_bind (slicePart_ ps ?_)
  show wpAny _ _ (if (st == 0) = true then _ else _) _ _ s
  rw [if_neg (by intro q; exact h0 (eq_of_beq q))]
  exact wpAny_bind (slicePart_ pl (wpAny_bind (slicePart_ pu (wpAny_bind (wpAny_pure (wpAny_pure h))))))
def stepped (xs : List Value) (lo st : Int) (n : Nat) : List Value := (List.range n).filterMap fun (k : Nat) => xs.toArray[(lo + (k : Int) * st).toNat]?
theorem g_getStep {t sl : Addr} {its : List Value} {vl vu vs : Value} {lo hi : Option Int} {st : Int} {Q : Value → Shared → Prop} (ht : IsTup s.heap t its.toArray) (hs : s.heap.IsSliceOf sl vl vu vs) (pl : IsPart vl lo) (pu : IsPart vu hi) (ps : IsPart vs (some st)) (h0 : st ≠ 0) (h1 : st ≠ 1)
    (hz : (stepped its (Builtin.Slice.sliceAdjust lo hi st (its.toArray.size : Int)).1 st (Builtin.Slice.slicePlaces (Builtin.Slice.sliceAdjust lo hi st (its.toArray.size : Int)).1 (Builtin.Slice.sliceAdjust lo hi st (its.toArray.size : Int)).2 st)).length ≤ sizeLine)
    (h : Q (.ref s.heap.objs.size) { s with heap := s.heap.push { cls := .type "tuple", data := .seq (stepped its (Builtin.Slice.sliceAdjust lo hi st (its.toArray.size : Int)).1 st (Builtin.Slice.slicePlaces (Builtin.Slice.sliceAdjust lo hi st (its.toArray.size : Int)).1 (Builtin.Slice.sliceAdjust lo hi st (its.toArray.size : Int)).2 st)).toArray } }) :
    wpAny (model prog w) A (getItem (.ref t) (.ref sl)) Q E s := by
  have ok : sizeOk (.seq (stepped its (Builtin.Slice.sliceAdjust lo hi st (its.toArray.size : Int)).1 st (Builtin.Slice.slicePlaces (Builtin.Slice.sliceAdjust lo hi st (its.toArray.size : Int)).1 (Builtin.Slice.sliceAdjust lo hi st (its.toArray.size : Int)).2 st)).toArray) := by
    show (stepped its _ st _).toArray.size ≤ sizeLine
    rw [List.size_toArray]; exact hz
  obtain ⟨ob, hob, hc, hd⟩ := id hs
  have hTs : s.TypeIs (.ref sl) "slice" := ⟨ob, hob, hc⟩
  unfold getItem
  try with_reducible refine wpAny_holding ?_
  first | refine wpAny_bind (wpAny_pure ?_) | skip
  refine wpAny_bind (wpAny_sequenceKey ht.typeIs (by decide) ?_)
  refine wpAny_bind (wpAny_callSpecial?_slot (name := Str.ofString "__getitem__") ht.typeIs slot_tuple_getitem (wpAny_call_entry slot_tuple_getitem ht.typeIs entry_tuple_getitem ?_ (args_tuple_getitem _ _)))
  show wpAny _ _ (Builtin.Tuple.tupleItemsOf (.ref t) >>= _) _ _ s
  refine wpAny_bind (tupleItemsOf_ ht (wpAny_bind (wpAny_typeOf hTs ?_)))
  rw [if_pos (by decide)]
  refine wpAny_bind (g_applied hs pl pu ps h0 ?_)
  generalize (Builtin.Slice.sliceAdjust lo hi st (its.toArray.size : Int)).1 = l0 at *
  generalize Builtin.Slice.slicePlaces l0 (Builtin.Slice.sliceAdjust lo hi st (its.toArray.size : Int)).2 st = n0 at *
  have hno : ¬ ((l0 == 0 && st == 1 && n0 == its.toArray.size) = true) := by
    intro q
    rw [Bool.and_eq_true, Bool.and_eq_true] at q
    exact h1 (eq_of_beq q.1.2)
  show wpAny _ _ (if (l0 == 0 && st == 1 && n0 == its.toArray.size) = true then _ else _) _ _ s
  rw [if_neg hno]
  first
    | exact wpAny_bind (m := Builtin.Tuple.tupleExact _) (wpAny_newObj_type (wpAny_pure ⟨_, rfl, wpAny_pure h⟩) ok)
    | exact wpAny_bind (m := Builtin.Tuple.tupleExact _) (wpAny_newObj_type (wpAny_bind (wpAny_pure (wpAny_pure ⟨_, rfl, wpAny_pure h⟩))) ok)
    | exact wpAny_bind (wpAny_bind (m := Builtin.Tuple.tupleExact _) (wpAny_newObj_type (wpAny_pure (wpAny_pure ⟨_, rfl, wpAny_pure h⟩)) ok))
    | exact wpAny_bind (wpAny_bind (m := Builtin.Tuple.tupleExact _) (wpAny_newObj_type (wpAny_pure ⟨_, rfl, wpAny_pure h⟩) ok))
end
end HT
namespace G
open PySem PySem.Spec PyProof.Rows L2 Evl
/-- every second item from a on -/
def halfL {α : Type} (a : Nat) (xs : List α) : List α := (List.range ((xs.length - a + 1) / 2)).filterMap fun k => xs[a + 2 * k]?
theorem halfL_len {α : Type} (a : Nat) (xs : List α) : (halfL a xs).length ≤ xs.length + 1 := by
  unfold halfL
  refine Nat.le_trans (List.length_filterMap_le _ _) ?_
  rw [List.length_range]; omega
theorem vals_filterMap {f : Nat → Option V} {g : Nat → Option Value} : ∀ {l : List Nat}, (∀ k, k ∈ l → RelO (f k) (g k)) → Vals (l.filterMap f) (l.filterMap g)
  | [], _ => .nil
  | k :: r, h => by
    have hk := h k (List.mem_cons_self ..)
    have ih := vals_filterMap (l := r) fun j hj => h j (List.mem_cons_of_mem _ hj)
    rw [List.filterMap_cons, List.filterMap_cons]
    cases e : f k with
    | none =>
      cases e2 : g k with
      | none => exact ih
      | some u => rw [e, e2] at hk; exact hk.elim
    | some v =>
      cases e2 : g k with
      | none => rw [e, e2] at hk; exact hk.elim
      | some u => rw [e, e2] at hk; exact .cons hk ih
def tHalf (K : PySem.W.Frag) (a : Nat) (te : TE) : TE := fun σ H Q => te σ H fun x H1 => ∃ t xs, x = .ref t ∧ SqT K H1 t xs ∧ xs.length ≤ 100000 ∧ ∀ p, H1 p = none → Q (.ref p) (upd H1 p (.tup (halfL a xs)))
theorem half_places {a n : Nat} (h : a ≤ 1) : (Builtin.Slice.sliceAdjust (some (a : Int)) none 2 (n : Int)).1 = ((min a n : Nat) : Int) ∧
    Builtin.Slice.slicePlaces (Builtin.Slice.sliceAdjust (some (a : Int)) none 2 (n : Int)).1 (Builtin.Slice.sliceAdjust (some (a : Int)) none 2 (n : Int)).2 2 = (n - a + 1) / 2 := by
  have h2 : ¬ ((2 : Int) < 0) := by omega
  have h3 : (2 : Int) > 0 := by omega
  have ha : ¬ ((a : Int) < 0) := by omega
  have e : Builtin.Slice.sliceAdjust (some (a : Int)) none 2 (n : Int) = (((min a n : Nat) : Int), (n : Int)) := by
    unfold Builtin.Slice.sliceAdjust
    simp only [h2, if_false, ha]
    refine Prod.ext ?_ rfl
    show min (a : Int) (n : Int) = ((min a n : Nat) : Int)
    omega
  rw [e]
  refine ⟨rfl, ?_⟩
  show Builtin.Slice.slicePlaces ((min a n : Nat) : Int) (n : Int) 2 = (n - a + 1) / 2
  unfold Builtin.Slice.slicePlaces
  simp only [h3, if_true]
  split <;> omega
section
variable {X : Cx}
theorem pe_half {e : Expr} {te : TE} {a : Nat} {k1 k2 : Nat} {p1 p2 p3 pos : Pos} (ha : a ≤ 1) (he : PE X e te) : PE X (.Subscript e (.Slice (some (.Constant (.int (a : Int)) k1 p1)) none (some (.Constant (.int 2) k2 p2)) p3) pos) (tHalf X.K a te) := by
  refine ⟨fun pins s σ H Q I h => Subscript_ (thn (he.run pins s σ H _ I h) fun v s1 ⟨x, H1, I1, r1, q1⟩ => ?_)⟩
  obtain ⟨t, xs, rfl, hx, hlen, q⟩ := q1
  cases r1
  have hlo : PO X (some (.Constant (.int (a : Int)) k1 p1)) (tPart (tC (.int (a : Int)))) := po_some pe_int
  have hst : PO X (some (.Constant (.int 2) k2 p2)) (tPart (tC (.int 2))) := po_some pe_int
  refine wpAny_Slice (thn (hlo.run pins s1 σ H1 (fun o H2 => o = some (a : Int) ∧ H2 = H1) I1 ⟨_, rfl, rfl, rfl⟩) fun vl s2 ⟨l, H2, I2, pl, el, e2⟩ => ?_)
  subst el e2
  refine thn (po_none.run pins s2 σ H2 (fun o H3 => o = none ∧ H3 = H2) I2 ⟨rfl, rfl⟩) fun vu s3 ⟨u, H3, I3, pu, eu, e3⟩ => ?_
  subst eu e3
  refine thn (hst.run pins s3 σ H3 (fun o H4 => o = some 2 ∧ H4 = H3) I3 ⟨_, rfl, rfl, rfl⟩) fun vs s4 ⟨o, H4, I4, ps, eo, e4⟩ => ?_
  subst eo e4
  have I5 : Inv X pins σ H4 { s4 with heap := s4.heap.push { cls := .type "slice", data := .fields #[vl, vu, vs] } } := I4.kept (t' := s4.toks) fun b ob q => Heap.get?_push_of_some _ q
  obtain ⟨its, r, ht, hz⟩ := I5.tuple hx
  have hl : its.toArray.size = xs.length := by rw [List.size_toArray]; exact r.length.symm
  obtain ⟨hp1, hp2⟩ := half_places (n := xs.length) ha
  have hrel : Vals (halfL a xs) (HT.stepped its ((min a xs.length : Nat) : Int) 2 ((xs.length - a + 1) / 2)) := by
    unfold halfL HT.stepped
    refine vals_filterMap fun k hk => ?_
    have hk' := List.mem_range.mp hk
    have hi : a + 2 * k < xs.length := by omega
    have en : (((min a xs.length : Nat) : Int) + (k : Int) * 2).toNat = a + 2 * k := by omega
    rw [en, List.getElem?_eq_getElem hi]
    obtain ⟨u, hu, ru⟩ := r.get (List.getElem?_eq_getElem hi)
    rw [List.getElem?_toArray, hu]
    exact ru
  have hsz : (halfL a xs).length ≤ sizeLine := sz_of (by
    unfold halfL
    refine Nat.le_trans (List.length_filterMap_le _ _) ?_
    rw [List.length_range]
    omega)
  show wpAny (model X.prog X.w) X.A (subscriptTail e (.Slice (some (.Constant (.int (a : Int)) k1 p1)) none (some (.Constant (.int 2) k2 p2)) p3) (.ref t) (.ref s4.heap.objs.size)) (EP X pins σ Q) X.xe { s4 with heap := s4.heap.push { cls := .type "slice", data := .fields #[vl, vu, vs] } }
  refine tail_any (ops := [.ref t, .ref s4.heap.objs.size]) ht.typeIs PyProof.Rows.slot_tuple_getitem.lookup ?_ (by with_unfolding_all rfl)
  refine HT.g_getStep ht (Heap.IsSliceOf.new _ vl vu vs) pl pu ps (by decide) (by decide) ?_ ?_
  · rw [hl, hp2, hp1, ← hrel.length]; exact hsz
  · rw [hl, hp2, hp1]
    refine ⟨.ref _, _, I5.laid (t' := s4.toks) (o := .tup (halfL a xs)) (fun b ob q => Heap.get?_push_of_some _ q) (Nat.le_refl _) ?_, rfl, q _ (I5.hok.fresh (Nat.le_refl _))⟩
    exact ⟨hsz, _, hrel, ⟨_, Heap.get?_push_size _ rfl, rfl, _, rfl⟩⟩
end
end G
namespace G
open PySem PySem.Spec PyProof.Rows L2 Evl
theorem tYes_in {σ : L2.St} {H : Hp} {A B : Hp → Prop} (h : A H) : tYes σ H (fun b H3 => if b = true then A H3 else B H3) := by
  show if true = true then A H else B H
  exact iteT h
def tabV (bs : List Bool) : HO := .tup (bs.map V.bl)
theorem inV_ints {k : Int} {l : List Int} : inV (.int k) (l.map V.int) = l.contains k := by
  unfold inV
  rw [List.any_map, List.contains_eq_any_beq]
  congr 1
  funext y
  show (y == k) = (k == y)
  rw [Bool.eq_iff_iff]; simp; exact eq_comm
theorem inV_bls {k : Bool} {l : List Bool} : inV (.bl k) (l.map V.bl) = l.contains k := by
  unfold inV
  rw [List.any_map, List.contains_eq_any_beq]
  congr 1
  funext y
  show (y == k) = (k == y)
  cases y <;> cases k <;> rfl
theorem flat_map {α : Type} {f : α → V} (h : ∀ x, flatV (f x) = true) (l : List α) : (l.map f).all flatV = true := by
  rw [List.all_map]
  exact List.all_eq_true.mpr fun x _ => h x
theorem tif_by {tt : TE} {σ : L2.St} {H : Hp} {Q : VK} (R : V → Hp → Prop) (h : ∀ Q' : VK, (∀ v H', R v H' → Q' v H') → tt σ H Q') (rest : ∀ v H', R v H' → Q v H') : tt σ H Q := h Q rest
theorem bl_eq (a b : Bool) : decide (V.bl a = V.bl b) = decide (a = b) := by cases a <;> cases b <;> rfl
end G
namespace G
open PySem PySem.Spec PyProof.Rows L2
def topS (i : Nat) : Stmt := PySem.Challenge.pw_signoff_k29_whole_delays_of_wires.main.body.getD i (.Pass ⟨0, 0, 0, 0⟩)
abbrev s_wall : Stmt := topS 0
abbrev s_WireTree_init : Stmt := inClass (topS 8) 0
abbrev s_WireTree_len : Stmt := inClass (topS 8) 1
abbrev s_WireTree_parent : Stmt := inClass (topS 8) 2
abbrev s_WireTree_path : Stmt := inClass (topS 8) 3
abbrev s_WireTree_below : Stmt := inClass (topS 8) 4
abbrev s_WireTree_delay : Stmt := inClass (topS 8) 5
abbrev s_WireTree_delay_range : Stmt := inClass (topS 8) 6
abbrev s_WireTree_check_node : Stmt := inClass (topS 8) 7
abbrev s_law_pool : Stmt := topS 10
abbrev s_law_spread : Stmt := topS 11
abbrev s_law_draw : Stmt := topS 12
abbrev s_law_same : Stmt := topS 13
abbrev s_law_segments : Stmt := topS 14
abbrev s_law_path : Stmt := topS 15
abbrev s_law_delay : Stmt := topS 16
abbrev s_law_refused : Stmt := topS 17
abbrev s_law_within : Stmt := topS 18
abbrev s_law : Stmt := topS 19
end G
namespace G
open PySem PySem.Spec PyProof.Rows L2 Evl
structure TxtL (mg : Str → Option Value) : Prop where
  int : mg "int" = none
  len : mg "len" = none
  list : mg "list" = none
  range : mg "range" = none
section
variable {P : Program} {w : World} {K : PySem.W.Frag} {mg : Str → Option Value} {base : Heap}
def spSpread : Sp := fun vs H Q _ => ∃ (c : Int), vs = [.int c] ∧ ∀ v : Int, Q (.int v) H
theorem sc_law_spread : FnScope ["cell", "mixed", "total", "k"] ["cell"] (defScope s_law_spread) := ⟨rfl, rfl, rfl, by decide +kernel, rfl, by decide +kernel, by decide +kernel⟩
theorem ok_law_spread (D : Dfd K mg "_law_spread" s_law_spread ["cell"]) (T : TxtL mg) : Has P w K mg base 1 "_law_spread" ["cell"] spSpread := by
  refine D.has fun f fd F => F.ok sc_law_spread (fun vs H Q E h => ?_) (fun cdv A outer s H vs Q E hr h => ?_)
  · obtain ⟨c, rfl, _⟩ := h
    rfl
  · obtain ⟨c, rfl, q⟩ := h
    refine ⟨_, (pss_cons (ps_set (i := 1) sc_law_spread.nd rfl (.inl rfl) (pe_op op_mod (pe_callTy call_int1 (by rfl) T.int (by decide +kernel) (pa_cons (pv 0) pa_nil)) pe_int))
      (pss_cons (ps_set (i := 2) sc_law_spread.nd rfl (.inl rfl) pe_int)
      (pss_cons (ps_for PassesOwn.never rfl (pi_range1 rfl T.range (pa_cons pe_int pa_nil)) (pg_name (i := 3) sc_law_spread.nd rfl (.inl rfl))
        (pss_cons (ps_set (i := 1) sc_law_spread.nd rfl (.inl rfl) (pe_op op_mod (pe_callTy call_int1 (by rfl) T.int (by decide +kernel) (pa_cons (pe_op op_add (pe_op op_add (pe_op op_mul (pv 1) pe_int) pe_int) (pv 3)) pa_nil)) pe_int))
        (pss_one (ps_set (i := 2) sc_law_spread.nd rfl (.inl rfl) (pe_op op_add (pe_op op_mul (pv 2) pe_int) (pv 1))))))
      (pss_one (ps_ret (pv 2)))))), ?_⟩
    refine ⟨_, rfl, .inl ⟨_, rfl, _, _, rfl, rfl, (by show (0 : Int) < 2147483647; decide), 4, rfl, by decide, by decide, for_range (n := 4) (fun _ σ H' => H' = H ∧ ∃ (x y : Int) (z : Option V), σ = [some (.int c), some (.int x), some (.int y), z]) ⟨rfl, _, _, _, rfl⟩ ?_ ?_⟩⟩
    · rintro i σ H' hi ⟨rfl, x, y, z, rfl⟩
      refine ⟨_, rfl, _, _, rfl, rfl, .inr ⟨by decide, by decide⟩, _, _, rfl, rfl, _, rfl, _, _, rfl, rfl, .inl ⟨_, rfl, _, _, rfl, rfl, (by show (0 : Int) < 2147483647; decide), _, rfl, _, _, rfl, rfl, .inr ⟨by decide, by decide⟩, _, rfl, _, _, rfl, rfl, rfl, _, _, _, rfl⟩⟩
    · rintro σ H' ⟨rfl, x, y, z, rfl⟩
      exact ⟨_, rfl, q y⟩
/-- a draw below n -/
def spDraw : Sp := fun vs H Q _ => ∃ (p a : Addr) (n : Int), vs = [.ref p, .int n] ∧ 0 < n ∧ n.natAbs.log2 < 9000 ∧ PoolOk p a H ∧ ∀ (v : Int) (o : HO), 0 ≤ v → v < n → PoolOk p a (upd H p o) → Q (.int v) (upd H p o)
theorem sc_law_draw : FnScope ["pool", "many", "cell", "mixed", "value"] ["pool", "many"] (defScope s_law_draw) := ⟨rfl, rfl, rfl, by decide +kernel, rfl, by decide +kernel, by decide +kernel⟩
theorem ok_law_draw (D : Dfd K mg "_law_draw" s_law_draw ["pool", "many"]) (T : TxtL mg) (C : Has P w K mg base 1 "_law_spread" ["cell"] spSpread) : Has P w K mg base 2 "_law_draw" ["pool", "many"] spDraw := by
  obtain ⟨f_law_spread, d_law_spread, G_law_spread, g_law_spread, k_law_spread, b_law_spread⟩ := C
  refine D.has fun f fd F => F.ok sc_law_draw (fun vs H Q E h => ?_) (fun cdv A outer s H vs Q E hr h => ?_)
  · obtain ⟨p, a, n, rfl, _⟩ := h
    rfl
  · obtain ⟨p, a, n, rfl, n0, n9, hp, q⟩ := h
    refine ⟨_, (pss_cut (ps_if (PW.pt (pw_and (pt_cmpR op_le (pe_ix ix_list (pv 0) pe_int (fun _ _ => rfl)) pe_int (nomark _)) (pw_and1 (pt_cmpR op_lt (pe_ix ix_list (pv 0) pe_int (fun _ _ => rfl)) (pe_callB call_len_seq (by rfl) T.len (by decide +kernel) (pa_cons (pe_ix ix_list (pv 0) pe_int (fun _ _ => rfl)) pa_nil)) (nomark _)))))
      (pss_cons (ps_set (i := 2) sc_law_draw.nd rfl (.inl rfl) (pe_ix ix_list (pe_ix ix_list (pv 0) pe_int (fun _ _ => rfl)) (pe_ix ix_list (pv 0) pe_int (fun _ _ => rfl)) (fun _ _ => rfl)))
      (pss_cons (ps_asg (pe_op op_add (pe_ix ix_list (pv 0) pe_int (fun _ _ => rfl)) pe_int) (pg_sub (pv 0) pe_int set_list))
      (pss_cons (ps_asg (pv 2) (pg_sub (pv 0) pe_int set_list))
      (pss_one (ps_if (pt_cmpR op_lt (pv 2) pe_int (nomark _))
        (pss_one (ps_asg (pe_call G_law_spread hr (by rfl) g_law_spread k_law_spread b_law_spread .nil pass0 (pa_cons (pv 2) pa_nil)) (pg_sub (pv 0) pe_int set_list)))
        pss_nil)))))
      pss_nil)
    (pss_cons (ps_asg (pe_op op_add (pe_ix ix_list (pv 0) pe_int (fun _ _ => rfl)) pe_int) (pg_sub (pv 0) pe_int set_list))
    (pss_cons (ps_if (pt_cmpR op_le (pe_ix ix_list (pv 0) pe_int (fun _ _ => rfl)) pe_int (nomark _))
      (pss_cons (ps_set (i := 3) sc_law_draw.nd rfl (.inl rfl) (pe_op op_mod (pe_callTy call_int1 (by rfl) T.int (by decide +kernel) (pa_cons (pe_op op_add (pe_op op_add (pe_op op_mul (pe_ix ix_list (pv 0) pe_int (fun _ _ => rfl)) pe_int) (pe_op op_mul (pe_ix ix_list (pv 0) pe_int (fun _ _ => rfl)) pe_int)) pe_int) pa_nil)) pe_int))
      (pss_cons (ps_set (i := 3) sc_law_draw.nd rfl (.inl rfl) (pe_op op_mod (pe_callTy call_int1 (by rfl) T.int (by decide +kernel) (pa_cons (pe_op op_add (pe_op op_mul (pv 3) pe_int) (pe_ix ix_list (pv 0) pe_int (fun _ _ => rfl))) pa_nil)) pe_int))
      (pss_one (ps_ret (pe_op op_mod (pe_op op_fdiv (pv 3) pe_int) (pv 1))))))
      pss_nil)
    (pss_cons (ps_set (i := 4) sc_law_draw.nd rfl (.inl rfl) (pe_op op_mod (pe_callTy call_int1 (by rfl) T.int (by decide +kernel) (pa_cons (pe_ix ix_list (pv 0) pe_int (fun _ _ => rfl)) pa_nil)) (pv 1)))
    (pss_cons (ps_asg (pe_op op_fdivW (pe_ix ix_list (pv 0) pe_int (fun _ _ => rfl)) (pv 1)) (pg_sub (pv 0) pe_int set_list))
    (pss_one (ps_ret (pv 4)))))))), ?_⟩
    obtain ⟨ns, i, c, k, s5, hl, ha, hn⟩ := hp
    have hap : a ≠ p := hid_neq ha
    have haH := hid_get ha
    -- the pool as it stands after writes
    have pk : ∀ (i' : Nat) (c' k' s' : Int), PoolOk p a (upd H p (.lst [.ref a, .int i', .int c', .int k', .int s'])) := fun i' c' k' s' =>
      ⟨ns, i', c', k', s', upd_same, by rw [hid_upd]; exact ha, hn⟩
    refine ⟨fun σ H' => ∃ (i' : Nat) (c' k' s' : Int) (o1 : Option V), σ = [some (.ref p), some (.int n), o1, none, none] ∧ H' p = some (.lst [.ref a, .int i', .int c', .int k', .int s']) ∧ (∀ o, upd H' p o = upd H p o), ?_, ?_⟩
    · refine ⟨_, rfl, _, _, _, _, rfl, rfl, SqL.of hl, atI_nat (j := 2) rfl, _, _, rfl, rfl, _, rfl, ite2 (fun e1 => ?_) (fun e1 => ?_)⟩
      · refine ⟨_, rfl, _, _, _, _, rfl, rfl, SqL.of hl, atI_nat (j := 1) rfl, _, rfl, _, _, _, _, rfl, rfl, SqL.of hl, atI_nat (j := 0) rfl, _, _, rfl, .inl (SqL.of haH), _, _, rfl, rfl, _, rfl, ite2 (fun e2 => ?_) (fun e2 => ?_)⟩
        · have hi : i < (ns.map V.int).length := by have := of_decide_eq_true e2; omega
          have hi' : i < ns.length := by rw [List.length_map] at hi; exact hi
          have gi : (ns.map V.int)[i]? = some (.int ns[i]) := by rw [List.getElem?_map, List.getElem?_eq_getElem hi']; rfl
          refine ⟨_, rfl, _, _, _, _, rfl, rfl, SqL.of hl, atI_nat (j := 0) rfl, _, rfl, _, _, _, _, rfl, rfl, SqL.of hl, atI_nat (j := 1) rfl, _, _, _, _, rfl, rfl, SqL.of haH, atI_nat gi, ?_⟩
          refine ⟨_, rfl, _, _, _, _, rfl, rfl, SqL.of hl, atI_nat (j := 1) rfl, _, _, rfl, rfl, _, rfl, _, _, _, 1, rfl, rfl, hl, rfl, ?_⟩
          refine ⟨_, rfl, _, rfl, _, _, _, 2, rfl, rfl, upd_same, rfl, ?_⟩
          refine ⟨_, rfl, _, _, rfl, rfl, _, rfl, ite2 (fun e3 => ?_) (fun e3 => ?_)⟩
          · refine ⟨_, rfl, _, rfl, fun v => ⟨_, rfl, _, _, _, 2, rfl, rfl, upd_same, rfl, ?_⟩⟩
            exact ⟨i + 1, v, k, s5, _, rfl, upd_same, fun o => by rw [upd_upd, upd_upd, upd_upd]⟩
          · exact ⟨i + 1, ns[i], k, s5, _, rfl, upd_same, fun o => by rw [upd_upd, upd_upd]⟩
        · exact ⟨i, c, k, s5, _, rfl, hl, fun _ => rfl⟩
      · exact iteF ⟨i, c, k, s5, _, rfl, hl, fun _ => rfl⟩
    · rintro σ H' ⟨i, c, k, s5, o1, rfl, hl', hu⟩
      refine ⟨_, rfl, _, _, _, _, rfl, rfl, SqL.of hl', atI_nat (j := 3) rfl, _, _, rfl, rfl, _, rfl, _, _, _, 3, rfl, rfl, hl', rfl, ?_⟩
      refine ⟨_, rfl, _, _, _, _, rfl, rfl, SqL.of upd_same, atI_nat (j := 2) rfl, _, _, rfl, rfl, _, rfl, ite2 (fun e1 => ?_) (fun e1 => ?_)⟩
      · refine ⟨_, rfl, _, _, _, _, rfl, rfl, SqL.of upd_same, atI_nat (j := 4) rfl, _, _, rfl, rfl, .inr ⟨by decide, by decide⟩, _, rfl, _, _, _, _, rfl, rfl, SqL.of upd_same, atI_nat (j := 3) rfl, _, _, rfl, rfl, .inr ⟨by decide, by decide⟩, _, _, rfl, rfl, _, _, rfl, rfl, .inl ⟨_, rfl, _, _, rfl, rfl, (by show (0 : Int) < 2147483647; decide), ?_⟩⟩
        refine ⟨_, rfl, _, _, rfl, rfl, .inr ⟨by decide, by decide⟩, _, rfl, _, _, _, _, rfl, rfl, SqL.of upd_same, atI_nat (j := 3) rfl, _, _, rfl, rfl, .inl ⟨_, rfl, _, _, rfl, rfl, (by show (0 : Int) < 2147483629; decide), ?_⟩⟩
        refine ⟨_, rfl, _, _, rfl, rfl, ⟨by decide, by decide⟩, _, rfl, _, _, rfl, rfl, n0, ?_⟩
        show Q _ _
        rw [hu]
        exact q _ _ (Int.emod_nonneg _ (by omega)) (Int.emod_lt_of_pos _ n0) (pk i c (k + 1) s5)
      · refine ⟨_, rfl, _, _, _, _, rfl, rfl, SqL.of upd_same, atI_nat (j := 2) rfl, .inl ⟨_, rfl, _, rfl, _, _, rfl, rfl, n0, ?_⟩⟩
        refine ⟨_, rfl, _, _, _, _, rfl, rfl, SqL.of upd_same, atI_nat (j := 2) rfl, _, rfl, _, _, rfl, rfl, ⟨n0, n9⟩, _, rfl, _, _, _, 2, rfl, rfl, upd_same, rfl, _, rfl, ?_⟩
        show Q _ _
        rw [upd_upd, hu]
        exact q _ _ (Int.emod_nonneg _ (by omega)) (Int.emod_lt_of_pos _ n0) (pk i (c / n) (k + 1) s5)
/-- the same, the heap behind it a letter -/
def spDrawX : Sp := fun vs H Q _ => ∃ (p a : Addr) (n : Int), vs = [.ref p, .int n] ∧ 0 < n ∧ n ≤ 2 ^ 70 ∧ PoolOk p a H ∧ ∀ (v : Nat) (H' : Hp), (v : Int) < n → Px p a H H' → (∀ b, b ≠ p → H' b = H b) → Q (.int v) H'
theorem log2_small {n : Int} (h0 : 0 < n) (h : n ≤ 2 ^ 70) : n.natAbs.log2 < 9000 := by
  have h1 : n.natAbs < 2 ^ 71 := by omega
  have := PySem.Flt.log2_lt_of (by decide : 0 < 71) h1
  omega
theorem drawX (C : Has P w K mg base 2 "_law_draw" ["pool", "many"] spDraw) : Has P w K mg base 2 "_law_draw" ["pool", "many"] spDrawX :=
  C.imp fun vs H Q E h => by
    obtain ⟨p, a, n, rfl, h0, h1, hp, q⟩ := h
    refine ⟨p, a, n, rfl, h0, log2_small h0 h1, hp, fun v o v0 v1 hq => ?_⟩
    have e : v = ((v.toNat : Nat) : Int) := by omega
    rw [e]
    exact q v.toNat _ (by omega) (Px.draw hp hq) fun b hb => upd_ne hb
end
end G
namespace G
open PySem PySem.Spec PyProof.Rows L2 Evl
section
variable {P : Program} {w : World} {K : PySem.W.Frag} {mg : Str → Option Value} {base : Heap}
theorem cutV_mem {xs : List V} {lo hi : Option Int} {i : Nat} {x : V} (h : (cutV xs lo hi)[i]? = some x) : x ∈ xs := by
  unfold cutV at h
  exact List.mem_of_mem_drop (List.mem_of_mem_take (List.mem_of_getElem? h))
theorem int_of {ns : List Int} {x : V} (h : x ∈ ns.map V.int) : ∃ z, x = .int z := by
  obtain ⟨z, _, e⟩ := List.mem_map.mp h
  exact ⟨z, e.symm⟩
def spPool (K : PySem.W.Frag) : Sp := fun vs H Q _ => ∃ (s : Addr) (ns : List Int), vs = [.ref s] ∧ SqL K H s (ns.map V.int) ∧ ns.length ≤ 1000 ∧ ∀ (p a : Addr) (H' : Hp), PoolOk p a H' → Ex H H' → H p = none → Q (.ref p) H'
theorem sc_law_pool : FnScope ["script", "salt", "cell"] ["script"] (defScope s_law_pool) := ⟨rfl, rfl, rfl, by decide +kernel, rfl, by decide +kernel, by decide +kernel⟩
theorem ok_law_pool (D : Dfd K mg "_law_pool" s_law_pool ["script"]) (T : TxtL mg) : Has P w K mg base 1 "_law_pool" ["script"] (spPool K) := by
  refine D.has fun f fd F => F.ok sc_law_pool (fun vs H Q E h => ?_) (fun cdv A outer s H vs Q E hr h => ?_)
  · obtain ⟨c, _, rfl, _⟩ := h
    rfl
  · obtain ⟨sa, ns, rfl, hs, hn, q⟩ := h
    refine ⟨_, (pss_cons (ps_set (i := 1) sc_law_pool.nd rfl (.inl rfl) pe_int)
      (pss_cons (ps_for PassesOwn.never rfl (pi_list (pe_slice sl_list (pv 0) po_none (po_some pe_int))) (pg_name (i := 2) sc_law_pool.nd rfl (.inl rfl))
        (pss_one (ps_set (i := 1) sc_law_pool.nd rfl (.inl rfl) (pe_op op_mod (pe_callTy call_int1 (by rfl) T.int (by decide +kernel) (pa_cons (pe_op op_add (pe_op op_mul (pv 1) pe_int) (pv 2)) pa_nil)) pe_int))))
      (pss_one (ps_ret (pe_lst (pa_cons (pe_callTy call_list_of (by rfl) T.list (by decide +kernel) (pa_cons (pv 0) pa_nil)) (pa_cons pe_int (pa_cons pe_int (pa_cons pe_int (pa_cons (pv 1) pa_nil)))))))))), ?_⟩
    refine ⟨_, rfl, _, rfl, sa, _, rfl, hs, fun c nc => ⟨c, rfl, ⟨_, SqL.of upd_same⟩, for_list (K := K) (a := c) (xs := cutV (ns.map V.int) none (some 63)) (fun _ σ H' => H' = upd H c (.lst (cutV (ns.map V.int) none (some 63))) ∧ ∃ (x : Int) (z : Option V), σ = [some (.ref sa), some (.int x), z]) ⟨rfl, _, _, rfl⟩ ?_ ?_ ?_⟩⟩
    · rintro i σ H' _ ⟨rfl, _⟩
      exact SqL.of upd_same
    · rintro i x σ H' hi ⟨rfl, y, z, rfl⟩
      obtain ⟨m, rfl⟩ := int_of (cutV_mem hi)
      exact ⟨_, rfl, _, _, rfl, rfl, .inr ⟨by decide, by decide⟩, _, rfl, _, _, rfl, rfl, .inl ⟨_, rfl, _, _, rfl, rfl, (by show (0 : Int) < 1000003; decide), rfl, _, _, rfl⟩⟩
    · rintro σ H' ⟨rfl, y, z, rfl⟩
      have e1 : Ex H (upd H c (.lst (cutV (ns.map V.int) none (some 63)))) := Ex.new nc
      refine ⟨_, rfl, _, _, rfl, .inl (ex_l e1 hs), fun l nl => ⟨_, rfl, (by show 5 ≤ sizeLine; decide), fun p np => ?_⟩⟩
      have e2 := e1.trans (Ex.new (o := .lst (ns.map V.int)) nl)
      have npl : l ≠ p := ne_of_none upd_same np
      exact q p l _ ⟨ns, 0, 0, 0, y, upd_same, by rw [hid_ne npl, upd_ne npl]; exact upd_same, hn⟩ (e2.trans (Ex.new np)) (fresh_back e2 np)
end
end G
namespace G
open PySem PySem.Spec PyProof.Rows L2 Evl
/-! ## data -/
inductive D where
  | non | bl (b : Bool) | int (i : Int) | str (s : Str) | tup (l : List D) | lst (l : List D)
def okD : Nat → D → Prop
  | 0, .tup _ => False
  | 0, .lst _ => False
  | n + 1, .tup l => l.length < 2 ^ 61 ∧ ∀ d ∈ l, okD n d
  | n + 1, .lst l => l.length < 2 ^ 61 ∧ ∀ d ∈ l, okD n d
  | _, _ => True
inductive Rep (H : Hp) : V → D → Prop where
  | non : Rep H .non .non
  | bl (b : Bool) : Rep H (.bl b) (.bl b)
  | int (i : Int) : Rep H (.int i) (.int i)
  | str (s : Str) : Rep H (.str s) (.str s)
  | tup {a : Addr} {xs : List V} {ds : List D} (h : H a = some (.tup xs)) (hl : xs.length = ds.length) (hr : ∀ (i : Nat) (x : V) (d : D), xs[i]? = some x → ds[i]? = some d → Rep H x d) : Rep H (.ref a) (.tup ds)
  | lst {a : Addr} {xs : List V} {ds : List D} (h : H a = some (.lst xs)) (hl : xs.length = ds.length) (hr : ∀ (i : Nat) (x : V) (d : D), xs[i]? = some x → ds[i]? = some d → Rep H x d) : Rep H (.ref a) (.lst ds)
theorem Rep.ex {H H' : Hp} (e : Ex H H') {x : V} {d : D} (r : Rep H x d) : Rep H' x d := by
  induction r with
  | non => exact .non
  | bl b => exact .bl b
  | int i => exact .int i
  | str s => exact .str s
  | tup h hl _ ih => exact .tup (e _ _ h) hl ih
  | lst h hl _ ih => exact .lst (e _ _ h) hl ih
theorem okD.mono : ∀ {n m : Nat} {d : D}, n ≤ m → okD n d → okD m d
  | 0, 0, d, _, h => h
  | 0, m + 1, .non, _, _ => trivial
  | 0, m + 1, .bl _, _, _ => trivial
  | 0, m + 1, .int _, _, _ => trivial
  | 0, m + 1, .str _, _, _ => trivial
  | 0, m + 1, .tup _, _, h => h.elim
  | 0, m + 1, .lst _, _, h => h.elim
  | n + 1, m + 1, .non, _, _ => trivial
  | n + 1, m + 1, .bl _, _, _ => trivial
  | n + 1, m + 1, .int _, _, _ => trivial
  | n + 1, m + 1, .str _, _, _ => trivial
  | n + 1, m + 1, .tup l, le, h => ⟨h.1, fun d hd => okD.mono (Nat.le_of_succ_le_succ le) (h.2 d hd)⟩
  | n + 1, m + 1, .lst l, le, h => ⟨h.1, fun d hd => okD.mono (Nat.le_of_succ_le_succ le) (h.2 d hd)⟩
structure TxtS (mg : Str → Option Value) : Prop where
  isinstance : mg "isinstance" = none
  tuple : mg "tuple" = none
  list : mg "list" = none
  len : mg "len" = none
  range : mg "range" = none
  bool : mg "bool" = none
  int : mg "int" = none
  str : mg "str" = none
section
variable {P : Program} {w : World} {K : PySem.W.Frag} {mg : Str → Option Value} {base : Heap}
/-- equal data: the answer is True -/
def spSame : Nat → Sp
  | 0 => fun _ _ _ _ => False
  | n + 1 => fun vs H Q _ => ∃ (x y : V) (d : D), vs = [x, y] ∧ Rep H x d ∧ Rep H y d ∧ okD n d ∧ Q (.bl true) H
theorem sc_law_same : FnScope ["actual", "due", "k"] ["actual", "due"] (defScope s_law_same) := ⟨rfl, rfl, rfl, by decide +kernel, rfl, by decide +kernel, by decide +kernel⟩
theorem fn_law_same {f : Addr} {fd : FuncData} (F : Fun K "_law_same" "_law_same" s_law_same f fd) (g_law_same : mg "_law_same" = some (.ref f)) (b_law_same : Binds K fd ["actual", "due"] []) (T : TxtS mg) : ∀ n, FnOk P w K mg base CX0 n f fd ["actual", "due"] (spSame n)
  | 0 => ⟨fun _ _ _ _ h => h.elim, fun _ _ _ _ _ _ _ _ _ _ _ _ _ h => h.elim⟩
  | n + 1 => by
    have G_law_same := fn_law_same F g_law_same b_law_same T n
    have k_law_same := F.kp
    refine F.ok sc_law_same (fun vs H Q E h => ?_) (fun cdv A outer s H vs Q E hr h => ?_)
    · obtain ⟨x, y, d, rfl, _⟩ := h
      rfl
    · obtain ⟨x, y, d, rfl, rx, ry, hd, q⟩ := h
      refine ⟨_, (pss_cons (ps_if (PW.pt (pw_or (pt_val (pe_callB call_isi (by rfl) T.isinstance (by decide +kernel) (pa_cons (pv 1) (pa_cons (pe_bltn (v := .ty "tuple") (by rfl) T.tuple (by decide +kernel) rfl) pa_nil)))) (pw_or1 (pt_val (pe_callB call_isi (by rfl) T.isinstance (by decide +kernel) (pa_cons (pv 1) (pa_cons (pe_bltn (v := .ty "list") (by rfl) T.list (by decide +kernel) rfl) pa_nil)))))))
      (pss_cons (ps_if (PW.pt (pw_or (pt_cmpR op_ne (pe_callB call_isi (by rfl) T.isinstance (by decide +kernel) (pa_cons (pv 1) (pa_cons (pe_bltn (v := .ty "tuple") (by rfl) T.tuple (by decide +kernel) rfl) pa_nil))) (pe_callB call_isi (by rfl) T.isinstance (by decide +kernel) (pa_cons (pv 0) (pa_cons (pe_bltn (v := .ty "tuple") (by rfl) T.tuple (by decide +kernel) rfl) pa_nil))) (nomark _)) (pw_or1 (pt_cmpR op_ne (pe_callB call_isi (by rfl) T.isinstance (by decide +kernel) (pa_cons (pv 1) (pa_cons (pe_bltn (v := .ty "list") (by rfl) T.list (by decide +kernel) rfl) pa_nil))) (pe_callB call_isi (by rfl) T.isinstance (by decide +kernel) (pa_cons (pv 0) (pa_cons (pe_bltn (v := .ty "list") (by rfl) T.list (by decide +kernel) rfl) pa_nil))) (nomark _)))))
        (pss_one (ps_ret pe_bl))
        pss_nil)
      (pss_cons (ps_if (pt_cmpR op_ne (pe_callB call_len_seq (by rfl) T.len (by decide +kernel) (pa_cons (pv 0) pa_nil)) (pe_callB call_len_seq (by rfl) T.len (by decide +kernel) (pa_cons (pv 1) pa_nil)) (nomark _))
        (pss_one (ps_ret pe_bl))
        pss_nil)
      (pss_cons (ps_for PassesOwn.never rfl (pi_range1 rfl T.range (pa_cons (pe_callB call_len_seq (by rfl) T.len (by decide +kernel) (pa_cons (pv 1) pa_nil)) pa_nil)) (pg_name (i := 2) sc_law_same.nd rfl (.inl rfl))
        (pss_one (ps_if (pt_not (pt_val (pe_call G_law_same hr (by rfl) g_law_same k_law_same b_law_same .nil pass0 (pa_cons (pe_ix ix_seq (pv 0) (pv 2) (fun _ _ => rfl)) (pa_cons (pe_ix ix_seq (pv 1) (pv 2) (fun _ _ => rfl)) pa_nil)))))
          (pss_one (ps_ret pe_bl))
          pss_nil)))
      (pss_one (ps_ret pe_bl)))))
      pss_nil)
    (pss_cons (ps_if (pt_cmpR op_isN (pv 1) pe_non (nomark _))
      (pss_one (ps_ret (pe_cmpR op_isN (pv 0) pe_non (nomark _))))
      pss_nil)
    (pss_cons (ps_if (pt_val (pe_callB call_isi (by rfl) T.isinstance (by decide +kernel) (pa_cons (pv 1) (pa_cons (pe_bltn (v := .ty "bool") (by rfl) T.bool (by decide +kernel) rfl) pa_nil))))
      (pss_one (ps_ret (pe_and (pe_callB call_isi (by rfl) T.isinstance (by decide +kernel) (pa_cons (pv 0) (pa_cons (pe_bltn (v := .ty "bool") (by rfl) T.bool (by decide +kernel) rfl) pa_nil))) (pe_one (pe_cmpR op_eq (pv 0) (pv 1) (nomark _))))))
      pss_nil)
    (pss_cons (ps_if (pt_val (pe_callB call_isi (by rfl) T.isinstance (by decide +kernel) (pa_cons (pv 1) (pa_cons (pe_bltn (v := .ty "int") (by rfl) T.int (by decide +kernel) rfl) pa_nil))))
      (pss_one (ps_ret (pe_and (pe_callB call_isi (by rfl) T.isinstance (by decide +kernel) (pa_cons (pv 0) (pa_cons (pe_bltn (v := .ty "int") (by rfl) T.int (by decide +kernel) rfl) pa_nil))) (pe_and (pe_not (pe_callB call_isi (by rfl) T.isinstance (by decide +kernel) (pa_cons (pv 0) (pa_cons (pe_bltn (v := .ty "bool") (by rfl) T.bool (by decide +kernel) rfl) pa_nil)))) (pe_one (pe_cmpR op_eq (pv 0) (pv 1) (nomark _)))))))
      pss_nil)
    (pss_one (ps_ret (pe_and (pe_callB call_isi (by rfl) T.isinstance (by decide +kernel) (pa_cons (pv 0) (pa_cons (pe_bltn (v := .ty "str") (by rfl) T.str (by decide +kernel) rfl) pa_nil))) (pe_one (pe_cmpR op_eq (pv 0) (pv 1) (nomark _)))))))))), ?_⟩
      cases rx with
      | non =>
        cases ry
        refine ⟨_, rfl, _, _, _, _, _, rfl, .ty "tuple", .base .non, kit_ty (a := "NoneType") (r := false) (by decide +kernel), _, rfl, iteF ⟨_, rfl, _, _, _, _, _, rfl, .ty "list", .base .non, kit_ty (a := "NoneType") (r := false) (by decide +kernel), _, rfl, iteF ⟨_, rfl, rfl, _, rfl, iteT ⟨_, rfl, rfl, ?_⟩⟩⟩⟩
        exact q
      | bl b =>
        cases ry
        refine ⟨_, rfl, _, _, _, _, _, rfl, .ty "tuple", .base (.bl _), kit_ty (a := "bool") (r := false) (by decide +kernel), _, rfl, iteF ⟨_, rfl, _, _, _, _, _, rfl, .ty "list", .base (.bl _), kit_ty (a := "bool") (r := false) (by decide +kernel), _, rfl, iteF ⟨_, rfl, rfl, _, rfl, iteF ⟨_, rfl, _, _, _, _, _, rfl, .ty "bool", .base (.bl _), kit_ty (a := "bool") (r := true) (by decide +kernel), _, rfl, iteT ⟨_, rfl, _, _, _, _, _, rfl, .ty "bool", .base (.bl _), kit_ty (a := "bool") (r := true) (by decide +kernel), _, rfl, iteT ⟨_, rfl, _, rfl, rfl, ?_⟩⟩⟩⟩⟩⟩
        rw [decide_eq_true rfl]
        exact q
      | int b =>
        cases ry
        refine ⟨_, rfl, _, _, _, _, _, rfl, .ty "tuple", .base (.int _), kit_ty (a := "int") (r := false) (by decide +kernel), _, rfl, iteF ⟨_, rfl, _, _, _, _, _, rfl, .ty "list", .base (.int _), kit_ty (a := "int") (r := false) (by decide +kernel), _, rfl, iteF ⟨_, rfl, rfl, _, rfl, iteF ⟨_, rfl, _, _, _, _, _, rfl, .ty "bool", .base (.int _), kit_ty (a := "int") (r := false) (by decide +kernel), _, rfl, iteF ⟨_, rfl, _, _, _, _, _, rfl, .ty "int", .base (.int _), kit_ty (a := "int") (r := true) (by decide +kernel), _, rfl, iteT ⟨_, rfl, _, _, _, _, _, rfl, .ty "int", .base (.int _), kit_ty (a := "int") (r := true) (by decide +kernel), _, rfl, iteT ⟨_, rfl, _, _, _, _, _, rfl, .ty "bool", .base (.int _), kit_ty (a := "int") (r := false) (by decide +kernel), _, rfl, _, rfl, iteT ⟨_, rfl, _, rfl, rfl, ?_⟩⟩⟩⟩⟩⟩⟩⟩
        rw [decide_eq_true rfl]
        exact q
      | str b =>
        cases ry
        refine ⟨_, rfl, _, _, _, _, _, rfl, .ty "tuple", .base (.str _), kit_ty (a := "str") (r := false) (by decide +kernel), _, rfl, iteF ⟨_, rfl, _, _, _, _, _, rfl, .ty "list", .base (.str _), kit_ty (a := "str") (r := false) (by decide +kernel), _, rfl, iteF ⟨_, rfl, rfl, _, rfl, iteF ⟨_, rfl, _, _, _, _, _, rfl, .ty "bool", .base (.str _), kit_ty (a := "str") (r := false) (by decide +kernel), _, rfl, iteF ⟨_, rfl, _, _, _, _, _, rfl, .ty "int", .base (.str _), kit_ty (a := "str") (r := false) (by decide +kernel), _, rfl, iteF ⟨_, rfl, _, _, _, _, _, rfl, .ty "str", .base (.str _), kit_ty (a := "str") (r := true) (by decide +kernel), _, rfl, iteT ⟨_, rfl, _, rfl, rfl, ?_⟩⟩⟩⟩⟩⟩⟩
        rw [decide_eq_true rfl]
        exact q
      | @tup a xs ds hx lx rx =>
        cases ry with
        | @tup b ys _ hy ly ry =>
          cases n with
          | zero => exact hd.elim
          | succ m =>
            obtain ⟨hlen, hall⟩ := hd
            refine ⟨_, rfl, _, _, _, _, _, rfl, .ty "tuple", .base (.tup hy), kit_ty (a := "tuple") (r := true) (by decide +kernel), _, rfl, iteT (iteT ⟨_, rfl, _, _, _, _, _, rfl, .ty "tuple", .base (.tup hy), kit_ty (a := "tuple") (r := true) (by decide +kernel), _, rfl, _, _, _, _, _, rfl, .ty "tuple", .base (.tup hx), kit_ty (a := "tuple") (r := true) (by decide +kernel), rfl, _, rfl, iteF ⟨_, rfl, _, _, _, _, _, rfl, .ty "list", .base (.tup hy), kit_ty (a := "tuple") (r := false) (by decide +kernel), _, rfl, _, _, _, _, _, rfl, .ty "list", .base (.tup hx), kit_ty (a := "tuple") (r := false) (by decide +kernel), rfl, _, rfl, iteF ⟨_, rfl, _, _, rfl, .inr (SqT.of hx), _, rfl, _, _, rfl, .inr (SqT.of hy), rfl, _, rfl, ?_⟩⟩⟩)⟩
            have el : decide (V.int (xs.length : Int) = V.int (ys.length : Int)) = true := decide_eq_true (by rw [lx, ly])
            rw [el]
            refine ⟨_, rfl, _, _, rfl, .inr (SqT.of hy), _, rfl, by omega, by omega, for_range (n := (ys.length : Int).toNat) (fun _ σ H' => H' = H ∧ ∃ z : Option V, σ = [some (.ref a), some (.ref b), z]) ⟨rfl, _, rfl⟩ ?_ ?_⟩
            · rintro i σ H' hi ⟨rfl, z, rfl⟩
              have hi' : i < ds.length := by omega
              have e0 : (0 : Int) + (i : Int) = (i : Int) := Int.zero_add _
              have g1 : xs[i]? = some xs[i] := List.getElem?_eq_getElem (by omega)
              have g2 : ys[i]? = some ys[i] := List.getElem?_eq_getElem (by omega)
              have g3 : ds[i]? = some ds[i] := List.getElem?_eq_getElem hi'
              rw [e0]
              refine ⟨_, rfl, _, rfl, .inr (.inl ⟨_, _, _, _, rfl, rfl, SqT.of hx, atI_nat g1, _, rfl, _, rfl, .inr (.inl ⟨_, _, _, _, rfl, rfl, SqT.of hy, atI_nat g2, ?_⟩)⟩)⟩
              exact ⟨_, _, ds[i], rfl, rx i _ _ g1 g3, ry i _ _ g2 g3, hall _ (List.getElem_mem hi'), _, rfl, rfl, _, rfl⟩
            · rintro σ H' ⟨rfl, z, rfl⟩
              exact q
      | @lst a xs ds hx lx rx =>
        cases ry with
        | @lst b ys _ hy ly ry =>
          cases n with
          | zero => exact hd.elim
          | succ m =>
            obtain ⟨hlen, hall⟩ := hd
            refine ⟨_, rfl, _, _, _, _, _, rfl, .ty "tuple", .base (.lst hy), kit_ty (a := "list") (r := false) (by decide +kernel), _, rfl, iteF ⟨_, rfl, _, _, _, _, _, rfl, .ty "list", .base (.lst hy), kit_ty (a := "list") (r := true) (by decide +kernel), _, rfl, iteT ⟨_, rfl, _, _, _, _, _, rfl, .ty "tuple", .base (.lst hy), kit_ty (a := "list") (r := false) (by decide +kernel), _, rfl, _, _, _, _, _, rfl, .ty "tuple", .base (.lst hx), kit_ty (a := "list") (r := false) (by decide +kernel), rfl, _, rfl, iteF ⟨_, rfl, _, _, _, _, _, rfl, .ty "list", .base (.lst hy), kit_ty (a := "list") (r := true) (by decide +kernel), _, rfl, _, _, _, _, _, rfl, .ty "list", .base (.lst hx), kit_ty (a := "list") (r := true) (by decide +kernel), rfl, _, rfl, iteF ⟨_, rfl, _, _, rfl, .inl (SqL.of hx), _, rfl, _, _, rfl, .inl (SqL.of hy), rfl, _, rfl, ?_⟩⟩⟩⟩⟩
            have el : decide (V.int (xs.length : Int) = V.int (ys.length : Int)) = true := decide_eq_true (by rw [lx, ly])
            rw [el]
            refine ⟨_, rfl, _, _, rfl, .inl (SqL.of hy), _, rfl, by omega, by omega, for_range (n := (ys.length : Int).toNat) (fun _ σ H' => H' = H ∧ ∃ z : Option V, σ = [some (.ref a), some (.ref b), z]) ⟨rfl, _, rfl⟩ ?_ ?_⟩
            · rintro i σ H' hi ⟨rfl, z, rfl⟩
              have hi' : i < ds.length := by omega
              have e0 : (0 : Int) + (i : Int) = (i : Int) := Int.zero_add _
              have g1 : xs[i]? = some xs[i] := List.getElem?_eq_getElem (by omega)
              have g2 : ys[i]? = some ys[i] := List.getElem?_eq_getElem (by omega)
              have g3 : ds[i]? = some ds[i] := List.getElem?_eq_getElem hi'
              rw [e0]
              refine ⟨_, rfl, _, rfl, .inl ⟨_, _, _, _, rfl, rfl, SqL.of hx, atI_nat g1, _, rfl, _, rfl, .inl ⟨_, _, _, _, rfl, rfl, SqL.of hy, atI_nat g2, ?_⟩⟩⟩
              exact ⟨_, _, ds[i], rfl, rx i _ _ g1 g3, ry i _ _ g2 g3, hall _ (List.getElem_mem hi'), _, rfl, rfl, _, rfl⟩
            · rintro σ H' ⟨rfl, z, rfl⟩
              exact q
theorem ok_law_same (D : Dfd K mg "_law_same" s_law_same ["actual", "due"]) (T : TxtS mg) (n : Nat) : Has P w K mg base n "_law_same" ["actual", "due"] (spSame n) := by
  obtain ⟨f, fd, F, g, b⟩ := D
  exact ⟨f, fd, fn_law_same F g b T n, g, F.kp, b⟩
end
/-! ## data made of flat lists -/
theorem rep_map {H : Hp} {α : Type} {f : α → V} {g : α → D} {l : List α} (h : ∀ x, Rep H (f x) (g x)) : (l.map f).length = (l.map g).length ∧ ∀ (i : Nat) (x : V) (d : D), (l.map f)[i]? = some x → (l.map g)[i]? = some d → Rep H x d := by
  refine ⟨by rw [List.length_map, List.length_map], fun i x d hx hd => ?_⟩
  rw [List.getElem?_map] at hx hd
  cases e : l[i]? with
  | none => rw [e] at hx; cases hx
  | some y =>
    rw [e] at hx hd
    have e1 : f y = x := Option.some.inj hx
    have e2 : g y = d := Option.some.inj hd
    rw [← e1, ← e2]
    exact h y
theorem rep_ints {H : Hp} {a : Addr} {l : List Int} (h : H a = some (.lst (l.map V.int))) : Rep H (.ref a) (.lst (l.map D.int)) :=
  let r := rep_map (H := H) (f := V.int) (g := D.int) (l := l) fun i => .int i
  .lst h r.1 r.2
theorem rep_bls {H : Hp} {a : Addr} {l : List Bool} (h : H a = some (.tup (l.map V.bl))) : Rep H (.ref a) (.tup (l.map D.bl)) :=
  let r := rep_map (H := H) (f := V.bl) (g := D.bl) (l := l) fun i => .bl i
  .tup h r.1 r.2
theorem okD_ints {l : List Int} (h : l.length < 2 ^ 61) : okD 1 (.lst (l.map D.int)) := ⟨by rw [List.length_map]; exact h, fun d hd => by obtain ⟨_, _, rfl⟩ := List.mem_map.mp hd; trivial⟩
end G
namespace G
open PySem PySem.Spec PyProof.Rows L2 Evl
/-! ## own classes of errors -/
def HasX (P : Program) (w : World) (K : PySem.W.Frag) (mg : Str → Option Value) (base : Heap) (k : Nat) (x : Str) (ps : List Str) (sp : Sp) : Prop :=
  ∃ (f : Addr) (fd : FuncData), FnOk P w K mg base (L2.CX P w) k f fd ps sp ∧ mg x = some (.ref f) ∧ PySem.W.keepIn K (.ref f) = true ∧ Binds K fd ps []
theorem passX0 {X : Cx} {P : Program} {w : World} : Passes (L2.CX P w) X (fun _ _ _ => False) := fun _ _ _ _ _ _ _ h => by
  obtain ⟨_, _, _, _, _, _, _, _, _, _, _, _, h⟩ := h
  exact h.elim
/-- an own class over ValueError without __init__, at C -/
structure ExcT (K : PySem.W.Frag) (mg : Str → Option Value) (x : Str) (C : Addr) : Prop where
  gC : mg x = some (.ref C)
  xP : PySem.W.excIn K C [.type "ValueError", .type "Exception", .type "BaseException", .type "object"] "ValueError.__new__" = true
  kC : PySem.W.keepIn K (.ref C) = true
  bC : PySem.W.subIn K (.ref C) (.type "BaseException") = some true
  tC : PySem.W.typeIn K (.ref C) = some (.type "type")
/-- what an except clause asks of the class that it names -/
structure ExcH (K : PySem.W.Frag) (mg : Str → Option Value) (x : Str) (C : Addr) : Prop where
  u : ExcT K mg x C
  dict : PySem.W.hasDictIn K C = true
  self : PySem.W.subIn K (.ref C) (.ref C) = some true
theorem ExcH.hit {K : PySem.W.Frag} {mg : Str → Option Value} {x : Str} {C : Addr} (U : ExcH K mg x C) : PySem.W.exmOne K (.ref C) (.ref C) = some true := PySem.W.exm_ref U.u.bC U.dict U.u.tC U.self
end G
namespace G
open PySem PySem.Spec PyProof.Rows L2 Evl
/-! ## own errors: caught by name or by a class above, asked for their class -/
structure ExcI (K : PySem.W.Frag) (mg : Str → Option Value) (x : Str) (C : Addr) : Prop where
  u : ExcT K mg x C
  dict : PySem.W.hasDictIn K C = true
  self : PySem.W.subIn K (.ref C) (.ref C) = some true
  isc : ExcC K C
def IsK (K : PySem.W.Frag) (mg : Str → Option Value) (C : Addr) (d : Str) (b : Bool) : Prop := ∃ D : Addr, mg d = some (.ref D) ∧ PySem.W.kitOne K (.ref C) (.ref D) = some b
def CatchK (K : PySem.W.Frag) (mg : Str → Option Value) (C : Addr) (s : Str) : Prop := ∃ D : Addr, mg s = some (.ref D) ∧ PySem.W.exmOne K (.ref C) (.ref D) = some true
theorem ExcI.hit {K : PySem.W.Frag} {mg : Str → Option Value} {x : Str} {C : Addr} (U : ExcI K mg x C) : PySem.W.exmOne K (.ref C) (.ref C) = some true := PySem.W.exm_ref U.u.bC U.dict U.u.tC U.self
theorem IsK.at_ {K : PySem.W.Frag} {mg : Str → Option Value} {C D : Addr} {d : Str} {b : Bool} (h : IsK K mg C d b) (g : mg d = some (.ref D)) : PySem.W.kitOne K (.ref C) (.ref D) = some b := by
  obtain ⟨D', g', k⟩ := h
  rw [g] at g'
  cases g'; exact k
theorem CatchK.at_ {K : PySem.W.Frag} {mg : Str → Option Value} {C D : Addr} {s : Str} (h : CatchK K mg C s) (g : mg s = some (.ref D)) : PySem.W.exmOne K (.ref C) (.ref D) = some true := by
  obtain ⟨D', g', k⟩ := h
  rw [g] at g'
  cases g'; exact k
theorem pe_ex {X : Cx} {e : Expr} {α : Type} {p : α → Prop} {t : α → TE} (h : ∀ x, p x → PE X e (t x)) : PE X e (fun σ H Q => ∃ x, p x ∧ t x σ H Q) := by
  refine ⟨fun ps s σ H Q I z => ?_⟩
  obtain ⟨x, px, hx⟩ := z
  exact (h x px).run ps s σ H Q I hx
/-- isinstance of the error that the suite holds: whichever own error it is -/
theorem pe_isE {X : Cx} {a : Addr} {oe : Obj} {pn : List (Addr × Obj)} {cls : Value} {dd : Option Addr} {e : Expr} {t : Addr → TE} (hz : Zc cls dd oe) (hf : ∃ vs, oe.data = .fields vs)
    (h : ∀ D : Addr, Zc (.ref D) none oe → ExcC X.K D → PE (X.suite a ((a, oe) :: pn)) e (t D)) : PE (X.suite a ((a, oe) :: pn)) e (fun σ H Q => ∃ D : Addr, (cls = .ref D ∧ dd = none ∧ ExcC X.K D) ∧ t D σ H Q) :=
  pe_ex (p := fun D => cls = .ref D ∧ dd = none ∧ ExcC X.K D) fun D z => by
    obtain ⟨rfl, rfl, ic⟩ := z
    exact h D hz ic
/-! ## methods of built-in types within a suite: the written part by its letter -/
theorem kBm {X : Cx} {K : PySem.W.Frag} {T name id : String} {r : V → List V → Hp → VK → Prop} {o e : Expr} {es : List Expr} {to_ : TE} {t : TA} {apos cpos : Pos} (h : X.K = K) (p1 : PlainAttrs T) (p2 : Slot T name id) (p3 : typeOf (.builtin id) = pure (.type "method_descriptor")) (p4 : MtR X id r) (p5 : PE X o to_) (p6 : PA X (e :: es) t)
    (p7 : attributeBase o name X.env (eval o X.env) = eval o X.env := by rfl) (p8 : ((backTo cpos (starEach (e :: es) X.env)).all (fun x => !x.1) && (backToKw cpos (keywordEach [] X.env)).all (fun x => x.1.isSome) && decide ((e :: es).length + ([] : List Keyword).length + (if ([] : List Keyword).isEmpty then 0 else 1) < 30)) = true := by rfl)
    (p9 : (apos.endLine == cpos.line) = true := by rfl) (p10 : starEach (e :: es) X.env = (false, eval e X.env) :: starEach es X.env := by rfl) (p11 : (backTo cpos (starEach es X.env)).any (·.1) = false := by rfl) : PE X (.Call (.Attribute o name apos) (e :: es) [] cpos) (tBM K T r to_ t) := by
  subst h
  exact pe_bm p1 p2 p3 p4 p5 p6 p7 p8 p9 p10 p11
theorem kMtIndex {X : Cx} {K : PySem.W.Frag} (h : X.K = K) : MtR X "list.index" (rIndex K) := by subst h; exact mt_index
/-! ## methods and classes called where what is raised is taken at the slots -/
section
variable {X : Cx} {CX : CXT} {k : Nat} {f C : Addr} {fd : FuncData} {ps : List Str} {sp : Sp} {dvs : List V} {ds : List Value} {E : L2.St → XK} {x m : Str} {p pos apos : Pos} {e o : Expr} {es : List Expr} {to_ : TE} {t : TA}
def tMethX (C : Addr) (m : Str) (sp : Sp) (dvs : List V) (E : L2.St → XK) (to_ : TE) (t : TA) : TE := fun σ H Q => to_ σ H fun x H1 => ∃ a dx fs, x = .ref a ∧ H1 a = some (.ins C dx fs) ∧ fs.lookup m = none ∧ t σ H1 fun vs H2 => sp (x :: (vs ++ dvs)) H2 Q (E σ)
def tMakeX (C : Addr) (sp : Sp) (dvs : List V) (E : L2.St → XK) (t : TA) : TE := fun σ H Q => t σ H fun vs H1 => ∀ x dx, H1 x = none → H1 dx = none → dx ≠ x → sp (.ref x :: (vs ++ dvs)) (upd (upd H1 dx (.own x)) x (.ins C dx [])) (fun v H2 => v = .non ∧ Q (.ref x) H2) (E σ)
theorem pe_methX {pl : Sem Bool} (ho : PE X o to_) (cc : Cls X.K C) (mm : Meth X.K C m f) (Fk : FnOk X.prog X.w X.K X.mg X.base CX k f fd ps sp) (rm : Room k X.A) (bd : Binds X.K fd ps ds) (dv : Vals dvs ds)
    (px : ∀ σ, PassesAt CX X σ (E σ)) (pa : PA X (e :: es) t) (s1 : starEach (e :: es) X.env = (false, eval e X.env) :: starEach es X.env := by rfl) (s2 : (backTo pos (starEach es X.env)).any (·.1) = false := by rfl)
    (s3 : eval (.Call (.Attribute o m apos) (e :: es) [] pos) X.env = (do let ov ← eval o X.env; standAt apos.atName; let (f, first) ← holding [ov] (getMethod ov m pl); callWith pos f first (backTo pos (starEach (e :: es) X.env)) (backToKw pos (keywordEach [] X.env))) := by rfl) :
    PE X (.Call (.Attribute o m apos) (e :: es) [] pos) (tMethX C m sp dvs E to_ t) := by
  refine ⟨fun pins st σ H Q I z => PySem.W.methodCall_KW (pl := pl) (thn (ho.run pins st σ H _ I z) fun q0 st1 ⟨y, H1, I1, ry, b, dx, fl, ey, eb, lk, z1⟩ => ?_) s3⟩
  subst ey
  cases (show q0 = Value.ref b from ry)
  exact getmeth_ok I1 eb cc mm lk (PySem.W.callWith_K (first := [.ref b]) (h₀ := X.base) I.ok.mod.kin mm.kp (thn (pa.run pos pins st1 σ H1 _ I1 z1) fun ws st2 ⟨vs, H2, I2, rs, z2⟩ => ⟨I2.kIn, run_fnSD (us := .ref b :: ws) (vs := .ref b :: vs) Fk rm bd dv (px σ) I2 (.cons rfl rs) z2⟩) s1 s2)
theorem run_makeX {pins : List (Addr × Obj)} {σ : L2.St} {H : Hp} {st : Shared} {Q : VK} {us : List Value} {vs : List V} (M : Mk X.K C f) (Fk : FnOk X.prog X.w X.K X.mg X.base CX k f fd ps sp) (rm : Room (k + 1) X.A) (bd : Binds X.K fd ps ds) (dv : Vals dvs ds)
    (px : PassesAt CX X σ (E σ)) (I : Inv X pins σ H st) (rs : Vals vs us)
    (z : ∀ x dx, H x = none → H dx = none → dx ≠ x → sp (.ref x :: (vs ++ dvs)) (upd (upd H dx (.own x)) x (.ins C dx [])) (fun v H2 => v = .non ∧ Q (.ref x) H2) (E σ)) :
    wpAny (model X.prog X.w) X.A (call (.ref C) us) (EP X pins σ Q) X.xe st := by
  have z1 := z (st.heap.objs.size + 1) st.heap.objs.size (I.hok.fresh (Nat.le_succ _)) (I.hok.fresh (Nat.le_refl _)) (Nat.ne_of_lt (Nat.lt_succ_self _))
  have J := Inv.made (C := C) I
  have rr : Vals (V.ref (st.heap.objs.size + 1) :: (vs ++ dvs)) (Value.ref (st.heap.objs.size + 1) :: (us ++ ds)) := .cons rfl (rs.append dv)
  have len : (Value.ref (st.heap.objs.size + 1) :: us ++ ds).length = ps.length := (rr.length.symm.trans (Fk.len _ _ _ _ z1))
  refine wpAny_call (make_map (f := f) I.kIn M.makes M.init (beq_iff_eq.mp M.fn) (codeAny_mono (Fk.run _ X.stack _ _ ⟨Value.ref (st.heap.objs.size + 1) :: us, []⟩ (Value.ref (st.heap.objs.size + 1) :: (us ++ ds)) _ _ (E σ) (rm.make C us []) (J.env0.make C us []) (bd _ (Value.ref (st.heap.objs.size + 1) :: us) J.kIn len) rr z1) fun r st' h => ?_))
  match r, h with
  | .error er, h => exact px pins _ _ er st' J h
  | .ok (.ret u), h =>
    obtain ⟨v, H', I3, rv, ev, q3⟩ := J.after h
    subst ev
    exact ⟨rv, ⟨V.ref (st.heap.objs.size + 1), H', I3, rfl, q3⟩⟩
  | .ok .next, h => exact h.elim
  | .ok .brk, h => exact h.elim
  | .ok .cont, h => exact h.elim
theorem pe_makeX (M : Mk X.K C f) (Fk : FnOk X.prog X.w X.K X.mg X.base CX k f fd ps sp) (rm : Room (k + 1) X.A) (gl : Gl X x) (gm : X.mg x = some (.ref C)) (bd : Binds X.K fd ps ds) (dv : Vals dvs ds) (px : ∀ σ, PassesAt CX X σ (E σ)) (pa : PA X (e :: es) t)
    (s0 : (x == ("__debug__" : Str)) = false := by decide) (s1 : starEach (e :: es) X.env = (false, eval e X.env) :: starEach es X.env := by rfl) (s2 : (backTo pos (starEach es X.env)).any (·.1) = false := by rfl) : PE X (.Call (.Name x p) (e :: es) [] pos) (tMakeX C sp dvs E t) :=
  ⟨fun pins st σ H Q I z => wpAny_Call_Name_kw (ld_glob I gl gm (PySem.W.callWith_K (h₀ := X.base) I.ok.mod.kin M.kp (thn (pa.run pos pins st σ H _ I z) fun us st1 ⟨vs, H1, I1, r, q⟩ => ⟨I1.kIn, run_makeX M Fk rm bd dv (px σ) I1 r q⟩) s1 s2) s0)⟩
end
end G
namespace G
open PySem PySem.Spec PyProof.Rows L2 Evl
/-! ## own classes: len, methods with keywords -/
/-- statements that are never reached -/
theorem pss_false {X : Cx} {ss : List Stmt} : PSs X ss (fun _ _ _ => False) := ⟨fun _ _ _ _ _ _ h => h.elim⟩
def rLenOwn (C : Addr) (sp : Sp) (E : XK) : List V → Hp → VK → Prop := fun vs H Q => ∃ (a dx : Addr) (fs : List (Str × V)), vs = [.ref a] ∧ H a = some (.ins C dx fs) ∧ sp [.ref a] H (fun v H' => ∃ n : Nat, v = .int n ∧ n < 2 ^ 62 ∧ Q (.int n) H') E
theorem call_lenOwn {X : Cx} {CX : CXT} {C f : Addr} {fd : FuncData} {k : Nat} {sp : Sp} {E : XK} (h1 : PySem.W.findIn X.K (.ref C) "__len__" = some (some (.ref f))) (h2 : PySem.W.isFn X.K (.ref f) = true) (Fk : FnOk X.prog X.w X.K X.mg X.base CX k f fd ["self"] sp) (rm : Room (k + 1) X.A) (bd : Binds X.K fd ["self"] []) (px : Passes CX X.nox E) : CallR X (.builtin "len") (rLenOwn C sp E) := by
  intro pins s σ H vs us Q I r h
  obtain ⟨a, dx, fs, rfl, ea, hq⟩ := h
  obtain _ | ⟨r1, _ | _⟩ := r
  cases r1
  obtain ⟨mA, O, _⟩ := ins_get I.hok ea
  obtain ⟨od, J, _⟩ := O.look
  refine Calls.call_function_entry PySem.kind_len PySem.plain_len PySem.entry_len (PySem.args_len1 _) (by
    unfold Builtin.«len»
    refine wpAny_bind (m := oneArg "len" _) (wpAny_pure (wpAny_bind (m := callSpecial? (.ref a) (Str.ofString "__len__")) (PySem.W.special_fn I.kIn J h1 (beq_iff_eq.mp h2) (wpAny_call (codeAny_mono (Fk.run X.A.in1 X.stack s H ⟨[.ref a], []⟩ [.ref a] [.ref a] _ E rm.in1 I.env0.in1 (bd s [.ref a] I.kIn rfl) (.cons rfl .nil) hq) fun r s' hr => ?_)))))
    match r, hr with
    | .error er, hr => exact False.elim (px pins σ H s er s' (I.wish _) hr)
    | .ok .next, hr => exact hr.elim
    | .ok .brk, hr => exact hr.elim
    | .ok .cont, hr => exact hr.elim
    | .ok (.ret u), hr =>
      obtain ⟨v, H', I3, rv, n, rfl, hn, q3⟩ := I.after hr
      obtain ⟨t, rfl⟩ := rv
      refine wpAny_bind (wpAny_holding (wpAny_pure (wpAny_bind (wpAny_letGo ?_))))
      show wpAny _ _ (if ((n : Nat) : Int) < 0 then _ else _) _ _ _
      rw [if_neg (by omega)]
      show wpAny _ _ (if ((n : Nat) : Int) ≥ 2 ^ 63 then _ else _) _ _ _
      rw [if_neg (by omega)]
      exact wpAny_bind (wpAny_mkInt (wpAny_pure ⟨_, rfl, ⟨.int n, H', I3.tok _, ⟨_, rfl⟩, q3⟩⟩)))
section
variable {X : Cx} {CX : CXT} {k n : Nat} {f C : Addr} {fd : FuncData} {ps ks : List Str} {sp : Sp} {E : L2.St → XK} {m : Str} {pos apos : Pos} {e o : Expr} {es : List Expr} {kws : List Keyword} {to_ : TE} {t tk : TA} {g : List Value → List Value → List Value} {gV : List V → List V → List V}
/-- o.m(e, .., k = v): n arguments besides the object -/
def tMethK (C : Addr) (m : Str) (n q : Nat) (sp : Sp) (gV : List V → List V → List V) (E : L2.St → XK) (to_ : TE) (t tk : TA) : TE := fun σ H Q => to_ σ H fun x H1 => ∃ a dx fs, x = .ref a ∧ H1 a = some (.ins C dx fs) ∧ fs.lookup m = none ∧ t σ H1 fun vs H2 => tk σ H2 fun zs H3 => vs.length = n ∧ zs.length = q ∧ sp (gV (x :: vs) zs) H3 Q (E σ)
theorem pe_methK {pl : Sem Bool} (ho : PE X o to_) (cc : Cls X.K C) (mm : Meth X.K C m f) (Fk : FnOk X.prog X.w X.K X.mg X.base CX k f fd ps sp) (rm : Room k X.A) (kb : KBn X.K fd ps (n + 1) ks g gV)
    (px : ∀ σ, PassesAt CX X σ (E σ)) (pa : PA X (e :: es) t) (pk : PK X kws tk) (s0 : (backToKw pos (keywordEach kws X.env)).all (·.1.isSome) = true := by rfl) (s4 : (backToKw pos (keywordEach kws X.env)).filterMap (·.1) = ks := by rfl)
    (s1 : starEach (e :: es) X.env = (false, eval e X.env) :: starEach es X.env := by rfl) (s2 : ((backTo pos (starEach (e :: es) X.env)).any (·.1) || (backToKw pos (keywordEach kws X.env)).any (·.1.isNone)) = false := by rfl)
    (s3 : eval (.Call (.Attribute o m apos) (e :: es) kws pos) X.env = (do let ov ← eval o X.env; standAt apos.atName; let (f, first) ← holding [ov] (getMethod ov m pl); callWith pos f first (backTo pos (starEach (e :: es) X.env)) (backToKw pos (keywordEach kws X.env))) := by rfl) :
    PE X (.Call (.Attribute o m apos) (e :: es) kws pos) (tMethK C m n ks.length sp gV E to_ t tk) := by
  refine ⟨fun pins st σ H Q I z => PySem.W.methodCall_KW (pl := pl) (thn (ho.run pins st σ H _ I z) fun q0 st1 ⟨y, H1, I1, ry, b, dx, fl, ey, eb, lk, z1⟩ => ?_) s3⟩
  subst ey
  cases (show q0 = Value.ref b from ry)
  refine getmeth_ok I1 eb cc mm lk (PySem.W.callWith_KW (first := [.ref b]) (h₀ := X.base) I.ok.mod.kin mm.kp s0 (thn (pa.run pos pins st1 σ H1 _ I1 z1) fun ws st2 ⟨vs, H2, I2, rs, z2⟩ => thn (pk.run pos pins st2 σ H2 _ I2 z2) fun us st3 ⟨zs, H3, I3, rz, l1, l2, z3⟩ => ⟨I3.kIn, ?_⟩) s2 s1)
  rw [s4]
  have rr : Vals (V.ref b :: vs) (Value.ref b :: ws) := .cons rfl rs
  refine wpAny_call (codeAny_mono (Fk.run X.A X.stack st3 H3 ⟨Value.ref b :: ws, ks.zip us⟩ (g (Value.ref b :: ws) us) (gV (V.ref b :: vs) zs) Q (E σ) rm I3.env0 (kb.to st3 (Value.ref b :: ws) us I3.kIn (by rw [List.length_cons, ← rs.length, l1]) (rz.length.symm.trans l2)) (kb.rel rr rz) z3) fun r st' h => ?_)
  match r, h with
  | .error er, h => exact px σ pins H3 st3 er st' I3 h
  | .ok (.ret u), h => exact I3.after h
  | .ok .next, h => exact h.elim
  | .ok .brk, h => exact h.elim
  | .ok .cont, h => exact h.elim
/-- a keyword-only parameter, given -/
theorem Fun.kbn1 {K : PySem.W.Frag} {x qual y : Str} {st : Stmt} {f : Addr} {fd : FuncData} {ps : List Str} {n : Nat} (F : Fun K x qual st f fd)
    (h : ∀ (kV doc pm : Value) (an : Option Addr) (cdv ct w : Value) (us : List Value), us.length = n → bindArgs (PySem.W.fnOf x qual (defArgs st) (defBody st) (defScope st) .none kV doc pm an cdv ct) ⟨us, [(y, w)]⟩ = pure (ps.zip (us ++ [w]))) : KBn K fd ps n [y] (fun us ws => us ++ ws) (fun vs zs => vs ++ zs) := by
  obtain ⟨oc, od, kV, doc, pm, an, cdv, ct, osl, rfl, lk, hcd⟩ := F.ex
  refine ⟨fun s us ws _ l1 l2 => ?_, fun r1 r2 => r1.append r2⟩
  match ws, l2 with
  | [w], _ => exact .of_eq (h kV doc pm an cdv ct w us l1)
theorem passAt0 {X : Cx} {P : Program} {w : World} {σ : L2.St} : PassesAt (L2.CX P w) X σ (fun _ _ _ => False) := fun pins H s e s' I h => passX0 (X := X) pins σ H s e s' I h
end
end G
namespace G
open PySem PySem.Spec PyProof.Rows L2 Evl
/-! ## two lists side by side -/
def All2 {α β : Type} (R : α → β → Prop) (as : List α) (bs : List β) : Prop := as.length = bs.length ∧ ∀ (i : Nat) (a : α) (b : β), as[i]? = some a → bs[i]? = some b → R a b
theorem All2.nil {α β : Type} {R : α → β → Prop} : All2 R [] [] := ⟨rfl, fun _ _ _ h => nomatch h⟩
theorem All2.imp {α β : Type} {R S : α → β → Prop} {as : List α} {bs : List β} (h : All2 R as bs) (f : ∀ a b, R a b → S a b) : All2 S as bs := ⟨h.1, fun i a b h1 h2 => f _ _ (h.2 i a b h1 h2)⟩
theorem All2.snoc {α β : Type} {R : α → β → Prop} {as : List α} {bs : List β} {a : α} {b : β} (h : All2 R as bs) (r : R a b) : All2 R (as ++ [a]) (bs ++ [b]) := by
  refine ⟨by rw [List.length_append, List.length_append, h.1]; rfl, fun i x y h1 h2 => ?_⟩
  by_cases hi : i < as.length
  · rw [List.getElem?_append_left hi] at h1
    rw [List.getElem?_append_left (h.1 ▸ hi)] at h2
    exact h.2 i x y h1 h2
  · rw [List.getElem?_append_right (by omega)] at h1
    rw [List.getElem?_append_right (by rw [← h.1]; omega), ← h.1] at h2
    cases e : i - as.length with
    | zero =>
      rw [e] at h1 h2
      cases h1; cases h2; exact r
    | succ n => rw [e] at h1; exact nomatch h1
theorem All2.at_ {α β : Type} {R : α → β → Prop} {as : List α} {bs : List β} (h : All2 R as bs) {i : Nat} {a : α} (e : as[i]? = some a) : ∃ b, bs[i]? = some b ∧ R a b := by
  have hi : i < bs.length := by rw [← h.1]; exact (List.getElem?_eq_some_iff.mp e).1
  exact ⟨bs[i], List.getElem?_eq_getElem hi, h.2 i a _ e (List.getElem?_eq_getElem hi)⟩
theorem All2.of {α β : Type} {R : α → β → Prop} {as : List α} {bs : List β} (h : All2 R as bs) {i : Nat} {b : β} (e : bs[i]? = some b) : ∃ a, as[i]? = some a ∧ R a b := by
  have hi : i < as.length := by rw [h.1]; exact (List.getElem?_eq_some_iff.mp e).1
  exact ⟨as[i], List.getElem?_eq_getElem hi, h.2 i _ b (List.getElem?_eq_getElem hi) e⟩
theorem All2.cons {α β : Type} {R : α → β → Prop} {as : List α} {bs : List β} {a : α} {b : β} (r : R a b) (h : All2 R as bs) : All2 R (a :: as) (b :: bs) := by
  refine ⟨by rw [List.length_cons, List.length_cons, h.1], fun i x y h1 h2 => ?_⟩
  cases i with
  | zero => cases h1; cases h2; exact r
  | succ i => exact h.2 i x y h1 h2
theorem take_snoc1 {α : Type} {l : List α} {j : Nat} {x : α} (h : l[j]? = some x) : l.take (j + 1) = l.take j ++ [x] := by rw [List.take_add_one, h]; rfl
theorem refs_get {as : List Addr} {k : Nat} {x : V} (hx : (as.map V.ref)[k]? = some x) : ∃ a, as[k]? = some a ∧ x = .ref a := by
  rw [List.getElem?_map] at hx
  cases e : as[k]? with
  | none => rw [e] at hx; cases hx
  | some a => rw [e] at hx; cases hx; exact ⟨a, rfl, rfl⟩
/-! ## walks: any body -/
theorem wk_list {K : PySem.W.Frag} {a : Addr} {xs : List V} {body : (Hp → Prop) → V → Hp → Prop} {H0 : Hp} {Qd : Hp → Prop} (Pv : Nat → Hp → Prop) (h0 : Pv 0 H0) (hl : ∀ i H, i ≤ xs.length → Pv i H → SqL K H a xs)
    (hs : ∀ i x H, xs[i]? = some x → Pv i H → body (Pv (i + 1)) x H) (hd : ∀ H, Pv xs.length H → Qd H) :
    ∃ W : Nat → Nat → Hp → Prop, (∃ m, W 0 m H0) ∧ ∀ i m H, W i m H → ((Itl K a).stop i H ∧ Qd H) ∨ ((Itl K a).go i H ∧ ∃ Nx : Hp → Prop, (∀ H', Nx H' → ∃ m', m' < m ∧ W (i + 1) m' H') ∧ ∀ x H', (Itl K a).yld i H x H' → body Nx x H') := by
  refine ⟨fun i m H => m = xs.length - i ∧ i ≤ xs.length ∧ Pv i H, ⟨xs.length, by simp, Nat.zero_le _, h0⟩, ?_⟩
  rintro i m H ⟨rfl, hi, p⟩
  have q := hl i H hi p
  rcases Nat.lt_or_ge i xs.length with lt | ge
  · have e : xs[i]? = some xs[i] := List.getElem?_eq_getElem lt
    refine .inr ⟨⟨xs, xs[i], q, e⟩, Pv (i + 1), fun H' p' => ⟨xs.length - (i + 1), by omega, rfl, lt, p'⟩, fun x H' y => ?_⟩
    obtain ⟨rfl, y⟩ := y
    exact hs i x _ (y xs q) p
  · have e : i = xs.length := by omega
    subst e
    exact .inl ⟨⟨xs, q, Nat.le_refl _⟩, hd H p⟩
theorem wk_tup {K : PySem.W.Frag} {a : Addr} {xs : List V} {body : (Hp → Prop) → V → Hp → Prop} {H0 : Hp} {Qd : Hp → Prop} (Pv : Nat → Hp → Prop) (h0 : Pv 0 H0) (hl : ∀ i H, i ≤ xs.length → Pv i H → SqT K H a xs)
    (hs : ∀ i x H, xs[i]? = some x → Pv i H → body (Pv (i + 1)) x H) (hd : ∀ H, Pv xs.length H → Qd H) :
    ∃ W : Nat → Nat → Hp → Prop, (∃ m, W 0 m H0) ∧ ∀ i m H, W i m H → ((Itt K a).stop i H ∧ Qd H) ∨ ((Itt K a).go i H ∧ ∃ Nx : Hp → Prop, (∀ H', Nx H' → ∃ m', m' < m ∧ W (i + 1) m' H') ∧ ∀ x H', (Itt K a).yld i H x H' → body Nx x H') := by
  refine ⟨fun i m H => m = xs.length - i ∧ i ≤ xs.length ∧ Pv i H, ⟨xs.length, by simp, Nat.zero_le _, h0⟩, ?_⟩
  rintro i m H ⟨rfl, hi, p⟩
  have q := hl i H hi p
  rcases Nat.lt_or_ge i xs.length with lt | ge
  · have e : xs[i]? = some xs[i] := List.getElem?_eq_getElem lt
    refine .inr ⟨⟨xs, xs[i], q, e⟩, Pv (i + 1), fun H' p' => ⟨xs.length - (i + 1), by omega, rfl, lt, p'⟩, fun x H' y => ?_⟩
    obtain ⟨rfl, y⟩ := y
    exact hs i x _ (y xs q) p
  · have e : i = xs.length := by omega
    subst e
    exact .inl ⟨⟨xs, q, Nat.le_refl _⟩, hd H p⟩
theorem wk_it {J : It} {n : Nat} {Gd : Hp → Prop} {Y : Nat → Hp → V → Hp → Prop} (w : Walk J n Gd Y) {body : (Hp → Prop) → V → Hp → Prop} {H0 : Hp} {Qd : Hp → Prop} (Pv : Nat → Hp → Prop) (h0 : Pv 0 H0) (hG : ∀ i H, i ≤ n → Pv i H → Gd H)
    (hs : ∀ i x H H', i < n → Pv i H → Y i H x H' → body (Pv (i + 1)) x H') (hd : ∀ H, Pv n H → Qd H) :
    ∃ W : Nat → Nat → Hp → Prop, (∃ m, W 0 m H0) ∧ ∀ i m H, W i m H → (J.stop i H ∧ Qd H) ∨ (J.go i H ∧ ∃ Nx : Hp → Prop, (∀ H', Nx H' → ∃ m', m' < m ∧ W (i + 1) m' H') ∧ ∀ x H', J.yld i H x H' → body Nx x H') := by
  refine ⟨fun i m H => m = n - i ∧ i ≤ n ∧ Pv i H, ⟨n, by simp, Nat.zero_le _, h0⟩, ?_⟩
  rintro i m H ⟨rfl, hi, p⟩
  rcases Nat.lt_or_ge i n with lt | ge
  · exact .inr ⟨w.goes i H lt (hG i H hi p), Pv (i + 1), fun H' p' => ⟨n - (i + 1), by omega, rfl, lt, p'⟩, fun x H' y => hs i x H H' lt p (w.yields i H x H' lt (hG i H hi p) y)⟩
  · have e : i = n := by omega
    subst e
    exact .inl ⟨w.stops H (hG i H hi p), hd H p⟩
/-! ## tuples joined and cut, whatever object that is -/
theorem cat_tup {K : PySem.W.Frag} {H : Hp} {a b : Addr} {xs ys : List V} {Q : VK} (ha : H a = some (.tup xs)) (hb : H b = some (.tup ys)) (hl : xs.length + ys.length ≤ sizeLine) (q : ∀ c H', Ex H H' → H' c = some (.tup (xs ++ ys)) → Q (.ref c) H') : rCatA K (.ref a) (.ref b) H Q := by
  refine ⟨a, b, xs, ys, rfl, rfl, SqT.of ha, SqT.of hb, hl, fun e => ?_, fun _ e => ?_, fun _ _ p np => ?_⟩
  · subst e; exact q b H (Ex.refl _) hb
  · subst e; exact q a H (Ex.refl _) (by rw [List.append_nil]; exact ha)
  · exact q p _ (Ex.new np) upd_same
theorem cut_tup {K : PySem.W.Frag} {H : Hp} {a : Addr} {xs : List V} {lo hi : Option Int} {Q : VK} (ha : H a = some (.tup xs)) (q : ∀ c H', Ex H H' → H' c = some (.tup (cutV xs lo hi)) → Q (.ref c) H') : rSlA K (.ref a) lo hi H Q := by
  refine ⟨a, xs, rfl, SqT.of ha, fun e => ?_, fun _ p np => q p _ (Ex.new np) upd_same⟩
  refine q a H (Ex.refl _) ?_
  rw [ha]
  unfold cutV
  rw [e.1, e.2, List.drop_zero, Nat.sub_zero, List.take_length]
theorem cutV_head {xs : List V} {k : Nat} (h : k ≤ xs.length) : cutV xs none (some (k : Int)) = xs.take k := by
  unfold cutV
  rw [HT.sIx_none, HT.sIx_nat, List.drop_zero, Nat.sub_zero, Nat.min_eq_left h]
theorem cutV_tail {xs : List V} {k : Nat} (h : k ≤ xs.length) : cutV xs (some (k : Int)) none = xs.drop k := by
  unfold cutV
  rw [HT.sIx_none, HT.sIx_nat, Nat.min_eq_left h, List.take_of_length_le]
  rw [List.length_drop]; exact Nat.le_refl _
end G
namespace G
open PySem PySem.Spec PyProof.Rows L2
structure Cl_WireTree (K : PySem.W.Frag) (mg : Str → Option Value) (C : Addr) : Prop where
  gC : mg "WireTree" = some (.ref C)
  cl : Cls K C
  m_init : ∃ (f : Addr) (fd : FuncData), Mk K C f ∧ Fun K "__init__" "WireTree.__init__" s_WireTree_init f fd ∧ Binds K fd ["self", "segments"] []
  m_path : ∃ (f : Addr) (fd : FuncData), Meth K C "path" f ∧ Fun K "path" "WireTree.path" s_WireTree_path f fd ∧ Binds K fd ["self", "node"] []
  m_delay : ∃ (f : Addr) (fd : FuncData), Meth K C "delay" f ∧ Fun K "delay" "WireTree.delay" s_WireTree_delay f fd ∧ Binds K fd ["self", "node", "resistances", "capacitances"] []
  m_delay_range : ∃ (f : Addr) (fd : FuncData), Meth K C "delay_range" f ∧ Fun K "delay_range" "WireTree.delay_range" s_WireTree_delay_range f fd ∧ KBn K fd ["self", "node", "unit"] 2 ["unit"] (fun us ws => us ++ ws) (fun vs zs => vs ++ zs) ∧ ∃ ds, Vals [V.int 1] ds ∧ Binds K fd ["self", "node", "unit"] ds
  m_check_node : ∃ (f : Addr) (fd : FuncData), Meth K C "_check_node" f ∧ Fun K "_check_node" "WireTree._check_node" s_WireTree_check_node f fd ∧ Binds K fd ["self", "node"] []
  n_parents : NoAttr K C "_parents"
  n_resistances : NoAttr K C "_resistances"
  n_capacitances : NoAttr K C "_capacitances"
end G
namespace G
open PySem PySem.Spec PyProof.Rows L2 Evl TL
/-! ## what a class's __init__ keeps: all but the new object -/
def ExBut (x : Addr) (H H' : Hp) : Prop := ∀ b o, H b = some o → b ≠ x → H' b = some o
theorem ExBut.of {x : Addr} {H H' : Hp} (e : Ex H H') : ExBut x H H' := fun b o h _ => e b o h
theorem ExBut.trans {x : Addr} {H H1 H2 : Hp} (a : ExBut x H H1) (b : ExBut x H1 H2) : ExBut x H H2 := fun c o h n => b c o (a c o h n) n
theorem ExBut.put {x : Addr} {H : Hp} {o : HO} : ExBut x H (upd H x o) := fun b q h n => by rw [upd_ne n]; exact h
theorem ExBut.made {x dx : Addr} {H H' : Hp} {o1 o2 : HO} (nx : H x = none) (nd : H dx = none) (e : ExBut x (upd (upd H dx o1) x o2) H') : Ex H H' := fun b o h => by
  have h1 : b ≠ x := ne_of_none h nx
  have h2 : b ≠ dx := ne_of_none h nd
  exact e b o (by rw [upd_ne h1, upd_ne h2]; exact h) h1
theorem made_free {x dx L : Addr} {H : Hp} {o1 o2 : HO} (h : upd (upd H dx o1) x o2 L = none) : H L = none := by
  have h1 : L ≠ x := fun z => by rw [z, upd_same] at h; cases h
  rw [upd_ne h1] at h
  have h2 : L ≠ dx := fun z => by rw [z, upd_same] at h; cases h
  rw [upd_ne h2] at h; exact h
theorem made_old {x dx b : Addr} {H : Hp} {o1 o2 o : HO} (nx : H x = none) (nd : H dx = none) (h : H b = some o) : upd (upd H dx o1) x o2 b = some o := by
  rw [upd_ne (ne_of_none h nx), upd_ne (ne_of_none h nd)]; exact h
/-! ## trees of wires -/
structure SegD where
  above : Int
  res : Int × Int
  cap : Int × Int
def PrAt (H : Hp) (a : Addr) (p : Int × Int) : Prop := H a = some (.tup [.int p.1, .int p.2])
def SegAt (H : Hp) (a : Addr) (s : SegD) : Prop := ∃ ra ca : Addr, H a = some (.tup [.int s.above, .ref ra, .ref ca]) ∧ PrAt H ra s.res ∧ PrAt H ca s.cap
theorem SegAt.ex {H H' : Hp} {a : Addr} {s : SegD} (e : Ex H H') (h : SegAt H a s) : SegAt H' a s := by
  obtain ⟨ra, ca, h1, h2, h3⟩ := h
  exact ⟨ra, ca, e _ _ h1, e _ _ h2, e _ _ h3⟩
theorem rne1 : ¬ (("_parents" : Str) = "_capacitances") := by decide +kernel
theorem rne2 : ¬ (("_parents" : Str) = "_resistances") := by decide +kernel
theorem rne3 : ¬ (("_resistances" : Str) = "_capacitances") := by decide +kernel
def tfl (p r c : Addr) : List (Str × V) := putF "_capacitances" (.ref c) (putF "_resistances" (.ref r) (putF "_parents" (.ref p) []))
theorem tfl_p (p r c : Addr) : (tfl p r c).lookup ("_parents" : Str) = some (.ref p) := by unfold tfl; rw [lookup_putF, if_neg rne1, lookup_putF, if_neg rne2, lookup_putF, if_pos rfl]
theorem tfl_r (p r c : Addr) : (tfl p r c).lookup ("_resistances" : Str) = some (.ref r) := by unfold tfl; rw [lookup_putF, if_neg rne3, lookup_putF, if_pos rfl]
theorem tfl_c (p r c : Addr) : (tfl p r c).lookup ("_capacitances" : Str) = some (.ref c) := by unfold tfl; rw [lookup_putF, if_pos rfl]
theorem tfl_no (p r c : Addr) {m : Str} (h1 : ¬ m = "_capacitances") (h2 : ¬ m = "_resistances") (h3 : ¬ m = "_parents") : (tfl p r c).lookup m = none := by
  unfold tfl; rw [lookup_putF, if_neg h1, lookup_putF, if_neg h2, lookup_putF, if_neg h3]; rfl
def parL (segs : List SegD) : List Int := -1 :: segs.map (·.above)
structure TreeAt (C : Addr) (H : Hp) (x p r c : Addr) (segs : List SegD) : Prop where
  ob : ∃ dx, H x = some (.ins C dx (tfl p r c))
  pa : H p = some (.lst ((parL segs).map V.int))
  re : ∃ rl : List Addr, H r = some (.lst (rl.map V.ref)) ∧ All2 (PrAt H) rl (segs.map (·.res))
  ca : ∃ cl : List Addr, H c = some (.lst (cl.map V.ref)) ∧ All2 (PrAt H) cl (segs.map (·.cap))
theorem TreeAt.ex {C : Addr} {H H' : Hp} {x p r c : Addr} {segs : List SegD} (e : Ex H H') (h : TreeAt C H x p r c segs) : TreeAt C H' x p r c segs := by
  obtain ⟨⟨dx, h1⟩, h2, ⟨rl, h3, h4⟩, ⟨cl, h5, h6⟩⟩ := h
  exact ⟨⟨dx, e _ _ h1⟩, e _ _ h2, ⟨rl, e _ _ h3, h4.imp fun _ _ z => e _ _ z⟩, ⟨cl, e _ _ h5, h6.imp fun _ _ z => e _ _ z⟩⟩
def ParOk (segs : List SegD) : Prop := ∀ (k : Nat) (s : SegD), segs[k]? = some s → 0 ≤ s.above ∧ s.above ≤ k
def okQ (r : Int × Int) : Prop := 0 ≤ r.1 ∧ r.1 ≤ r.2
def RngS (segs : List SegD) : Prop := ∀ s ∈ segs, okQ s.res ∧ okQ s.cap
structure TxtT (mg : Str → Option Value) : Prop where
  len : mg "len" = none
  list : mg "list" = none
  tuple : mg "tuple" = none
  range : mg "range" = none
  enumerate : mg "enumerate" = none
theorem fsk {k : Nat} (h : k ≤ 1000) : ((k : Int) + 1).natAbs.log2 < 1920 := by
  have : ((k : Int) + 1).natAbs < 2 ^ 11 := by omega
  have := PySem.Flt.log2_lt_of (by decide : 0 < 11) this
  omega
theorem tkn_small : ∀ k : Nat, k < 1001 → (Str.ofString (toString ((k : Int) + 1))).length ≤ 100 := by decide +kernel
theorem fsn {a b : Str} {k : Nat} (ha : a.length ≤ 100) (hb : b.length ≤ 100) (hk : k ≤ 1000) : (Str.empty ++ a).length ≤ sizeLine ∧ ((Str.empty ++ a) ++ Str.ofString (toString ((k : Int) + 1))).length ≤ sizeLine ∧ (((Str.empty ++ a) ++ Str.ofString (toString ((k : Int) + 1))) ++ b).length ≤ sizeLine := by
  have e : ∀ x y : Str, (x ++ y).length = x.length + y.length := fun x y => by rw [len_tl, tl_append, List.length_append, ← len_tl, ← len_tl]
  have e0 : Str.empty.length = 0 := rfl
  have h1 := tkn_small k (by omega)
  refine ⟨sz_of ?_, sz_of ?_, sz_of ?_⟩
  · rw [e, e0]; omega
  · rw [e, e, e0]; omega
  · rw [e, e, e, e0]; omega
section
variable {P : Program} {w : World} {K : PySem.W.Frag} {mg : Str → Option Value} {base : Heap}
def rTupOfW (K : PySem.W.Frag) : List V → Hp → VK → Prop := fun xs H Q => ∃ p ys, xs = [.ref p] ∧ ((SqL K H p ys ∧ ∀ l, H l = none → Q (.ref l) (upd H l (.tup ys))) ∨ (SqT K H p ys ∧ Q (.ref p) H))
theorem kTupOfW {X : Cx} {K : PySem.W.Frag} (h : X.K = K) : CallR X (.type "tuple") (rTupOfW K) := by subst h; exact call_tuple_of
def spTInit (C B R : Addr) : Sp := fun vs H Q E => ∃ (x dx l : Addr) (as : List Addr) (segs : List SegD), vs = [.ref x, .ref l] ∧ H x = some (.ins C dx []) ∧ H l = some (.lst (as.map V.ref)) ∧ All2 (SegAt H) as segs ∧ segs.length ≤ 100 ∧
  (ParOk segs → RngS segs → ∀ (p r c : Addr) (H' : Hp), H p = none → H r = none → H c = none → ExBut x H H' → TreeAt C H' x p r c segs → Q .non H') ∧ (¬ ParOk segs → ∀ H', ExBut x H H' → E (.ref B) none H') ∧ (ParOk segs → ¬ RngS segs → ∀ H', ExBut x H H' → E (.ref R) none H')
theorem sc_WireTree_init : FnScope ["self", "segments", "rows", "k", "above", "_", "resistance", "capacitance", "low", "high", "pair"] ["self", "segments"] (defScope s_WireTree_init) := ⟨rfl, rfl, rfl, by decide +kernel, rfl, by decide +kernel, by decide +kernel⟩
theorem ok_WireTree_init {C B R : Addr} {f : Addr} {fd : FuncData} (F : Fun K "__init__" "WireTree.__init__" s_WireTree_init f fd) (W : Cl_WireTree K mg C) (T : TxtT mg) (UB : ExcT K mg "BadArgument" B) (UR : ExcT K mg "BadRange" R) : FnOk P w K mg base (L2.CX P w) 1 f fd ["self", "segments"] (spTInit C B R) := by
  refine F.okX sc_WireTree_init (fun vs H Q E h => ?_) (fun cdv A outer s H vs Q E hr h => ?_)
  · obtain ⟨x, dx, l, as, segs, rfl, _⟩ := h
    rfl
  · obtain ⟨x, dx, l, as, segs, rfl, hx, hl, hA, hn, q, qB, qR⟩ := h
    refine ⟨_, (pss_cons (ps_set (i := 2) sc_WireTree_init.nd rfl (.inl rfl) (pe_callTy call_list_of (by rfl) T.list (by decide +kernel) (pa_cons (pv 1) pa_nil)))
    (pss_cons (ps_for (passes_of rfl) rfl (pi_enum (by rfl) T.enumerate (pa_cons (pv 2) pa_nil)) (pg_tup rfl (pgs_cons (pg_name (i := 3) sc_WireTree_init.nd rfl (.inl rfl)) (pgs_cons (pg_tup rfl (pgs_cons (pg_name (i := 4) sc_WireTree_init.nd rfl (.inl rfl)) (pgs_cons (pg_name (i := 5) sc_WireTree_init.nd rfl (.inl rfl)) (pgs_cons (pg_name (i := 5) sc_WireTree_init.nd rfl (.inl rfl)) pgs_nil)))) pgs_nil)))
      (pss_one (ps_if (PW.pt (pw_or (pt_cmpR op_lt (pv 4) pe_int (nomark _)) (pw_or1 (pt_cmpR op_gt (pv 4) (pv 3) (nomark _)))))
        (pss_one (ps_raise rfl (takes_of rfl rfl rfl rfl) (pmk_ownA PySem.F.excBase_ValueError UB.xP UB.gC UB.kC (raises_own UB.bC UB.tC) rfl (pa_cons (pe_joined (.cons pe_str (.cons (pe_fmt (pe_op op_add (pv 3) pe_int)) (.cons pe_str .nil)))) pa_nil))))
        pss_nil)))
    (pss_cons (ps_for (passes_of rfl) rfl (pi_list (pv 2)) (pg_tup rfl (pgs_cons (pg_name (i := 5) sc_WireTree_init.nd rfl (.inl rfl)) (pgs_cons (pg_name (i := 6) sc_WireTree_init.nd rfl (.inl rfl)) (pgs_cons (pg_name (i := 7) sc_WireTree_init.nd rfl (.inl rfl)) pgs_nil))))
      (pss_one (ps_for (passes_of rfl) rfl (pi_tup (pe_tup (pa_cons (pv 6) (pa_cons (pv 7) pa_nil)))) (pg_tup rfl (pgs_cons (pg_name (i := 8) sc_WireTree_init.nd rfl (.inl rfl)) (pgs_cons (pg_name (i := 9) sc_WireTree_init.nd rfl (.inl rfl)) pgs_nil)))
        (pss_one (ps_if (PW.pt (pw_or (pt_cmpR op_lt (pv 8) pe_int (nomark _)) (pw_or1 (pt_cmpR op_gt (pv 8) (pv 9) (nomark _)))))
          (pss_one (ps_raise rfl (takes_of rfl rfl rfl rfl) (pmk_ownA PySem.F.excBase_ValueError UR.xP UR.gC UR.kC (raises_own UR.bC UR.tC) rfl (pa_cons pe_str pa_nil))))
          pss_nil)))))
    (pss_cons (ps_fld (pv 0) (pe_op op_cat (pe_lst (pa_cons (pe_un un_neg pe_int) pa_nil)) (pe_lc (own := [("above", 4), ("_", 5)]) (g := gTup K 3 (gCons (gName 4) (gCons (gName 5) (gCons (gName 5) gNil)))) (tt := tYes) rfl sc_WireTree_init.nd (pi_list (pv 2)) (blkOk_by (N := ["self", "segments", "rows", "k", "above", "_", "resistance", "capacitance", "low", "high", "pair"]) (sc := defScope s_WireTree_init) (own := [("above", 4), ("_", 5)]) (by decide +kernel)) (fun _ _ _ _ _ => (pg_tup rfl (pgs_cons (pg_name (i := 4) sc_WireTree_init.nd rfl (.inl rfl)) (pgs_cons (pg_name (i := 5) sc_WireTree_init.nd rfl (.inl rfl)) (pgs_cons (pg_name (i := 5) sc_WireTree_init.nd rfl (.inl rfl)) pgs_nil))))) (fun _ _ _ _ _ => pts_nil) (fun _ _ _ _ _ => (pv 4)))) rfl)
    (pss_cons (ps_fld (pv 0) (pe_lc (own := [("_", 5), ("pair", 10)]) (g := gTup K 3 (gCons (gName 5) (gCons (gName 10) (gCons (gName 5) gNil)))) (tt := tYes) rfl sc_WireTree_init.nd (pi_list (pv 2)) (blkOk_by (N := ["self", "segments", "rows", "k", "above", "_", "resistance", "capacitance", "low", "high", "pair"]) (sc := defScope s_WireTree_init) (own := [("_", 5), ("pair", 10)]) (by decide +kernel)) (fun _ _ _ _ _ => (pg_tup rfl (pgs_cons (pg_name (i := 5) sc_WireTree_init.nd rfl (.inl rfl)) (pgs_cons (pg_name (i := 10) sc_WireTree_init.nd rfl (.inl rfl)) (pgs_cons (pg_name (i := 5) sc_WireTree_init.nd rfl (.inl rfl)) pgs_nil))))) (fun _ _ _ _ _ => pts_nil) (fun _ _ _ _ _ => (pe_callTy (kTupOfW (K := K) rfl) (by rfl) T.tuple (by decide +kernel) (pa_cons (pv 10) pa_nil)))) rfl)
    (pss_one (ps_fld (pv 0) (pe_lc (own := [("_", 5), ("pair", 10)]) (g := gTup K 3 (gCons (gName 5) (gCons (gName 5) (gCons (gName 10) gNil)))) (tt := tYes) rfl sc_WireTree_init.nd (pi_list (pv 2)) (blkOk_by (N := ["self", "segments", "rows", "k", "above", "_", "resistance", "capacitance", "low", "high", "pair"]) (sc := defScope s_WireTree_init) (own := [("_", 5), ("pair", 10)]) (by decide +kernel)) (fun _ _ _ _ _ => (pg_tup rfl (pgs_cons (pg_name (i := 5) sc_WireTree_init.nd rfl (.inl rfl)) (pgs_cons (pg_name (i := 5) sc_WireTree_init.nd rfl (.inl rfl)) (pgs_cons (pg_name (i := 10) sc_WireTree_init.nd rfl (.inl rfl)) pgs_nil))))) (fun _ _ _ _ _ => pts_nil) (fun _ _ _ _ _ => (pe_callTy (kTupOfW (K := K) rfl) (by rfl) T.tuple (by decide +kernel) (pa_cons (pv 10) pa_nil)))) rfl))))))), ?_⟩
    refine ⟨_, rfl, _, _, rfl, .inl (SqL.of hl), fun lf nlf => ?_⟩
    have E1 : Ex H (upd H lf (.lst (as.map V.ref))) := Ex.new nlf
    have h1 : upd H lf (.lst (as.map V.ref)) lf = some (.lst (as.map V.ref)) := upd_same
    generalize upd H lf (.lst (as.map V.ref)) = H1 at *
    have lA := hA.1
    refine ⟨_, rfl, lf, _, rfl, SqL.of h1, for_it walk_enum
      (fun i σ H' => Ex H1 H' ∧ (∀ (k : Nat) (s : SegD), k < i → segs[k]? = some s → 0 ≤ s.above ∧ s.above ≤ k) ∧ ∃ x3 x4 x5 : Option V, σ = [some (.ref x), some (.ref l), some (.ref lf), x3, x4, x5, none, none, none, none, none])
      ⟨.refl _, (fun k _ h => absurd h (Nat.not_lt_zero _)), _, _, _, rfl⟩ (fun i σ H' _ g => SqL.of (g.1 _ _ h1)) ?_ ?_⟩
    · rintro i y σ H2 H3 hi ⟨E2, ok, x3, x4, x5, rfl⟩ ⟨T1, x0, y0, rfl, nT, rfl, hx0, hy0⟩
      cases hx0
      obtain ⟨b, hb, rfl⟩ := refs_get hy0
      obtain ⟨sg, hsg, ra, ca, s1, s2, s3⟩ := hA.at_ hb
      have hi2 : i < segs.length := (List.getElem?_eq_some_iff.mp hsg).1
      have E3 : Ex H2 (upd H2 T1 (.tup [.int (i : Nat), .ref b])) := Ex.new nT
      have e03 := E1.trans (E2.trans E3)
      refine ⟨T1, _, rfl, SqT.of upd_same, rfl, _, _, rfl, _, _, rfl, b, _, rfl, SqT.of (e03 _ _ s1), rfl, _, _, rfl, _, _, rfl, _, _, rfl, rfl, rfl, ?_⟩
      generalize upd H2 T1 (.tup [.int (i : Nat), .ref b]) = H3 at *
      simp only [wipe, _root_.L2.start, List.map_cons, List.map_nil, List.length_cons, List.length_nil, Nat.reduceAdd, Nat.reduceSub, List.replicate_succ, List.replicate_zero, List.cons_append, List.nil_append, List.set_cons_zero, List.set_cons_succ]
      have bad : ¬ (0 ≤ sg.above ∧ sg.above ≤ i) → E (.ref B) none H3 := fun z => qB (fun y => z (y i sg hsg)) H3 (.of e03)
      obtain ⟨z1, z2, z3⟩ := fsn (a := "the parent of node ") (b := " is not an earlier node") (k := i) (by decide +kernel) (by decide +kernel) (by omega)
      refine ⟨_, rfl, _, _, rfl, rfl, _, rfl, ite2 (fun c1 => ?_) (fun c1 => ⟨_, rfl, _, rfl, _, _, rfl, rfl, _, rfl, ite2 (fun c2 => ?_) (fun c2 => ?_)⟩)⟩
      · exact iteT ⟨_, rfl, z1, _, rfl, _, _, rfl, rfl, .inr ⟨_, rfl, fsk (by omega), _, rfl, z2, _, rfl, z3, (by show 1 ≤ sizeLine; decide), bad fun z => by have := of_decide_eq_true c1; omega⟩⟩
      · exact ⟨_, rfl, z1, _, rfl, _, _, rfl, rfl, .inr ⟨_, rfl, fsk (by omega), _, rfl, z2, _, rfl, z3, (by show 1 ≤ sizeLine; decide), bad fun z => by have := of_decide_eq_true c2; omega⟩⟩
      · have k1 : ¬ sg.above < 0 := fun z => c1 (decide_eq_true z)
        have k2 : ¬ sg.above > (i : Int) := fun z => c2 (decide_eq_true z)
        refine ⟨E2.trans E3, fun k s' hk h => ?_, _, _, _, rfl⟩
        rcases Nat.lt_succ_iff_lt_or_eq.mp hk with z | z
        · exact ok k s' z h
        · subst z
          rw [hsg] at h
          cases h
          omega
    · rintro σ H2 ⟨E2, ok, x3, x4, x5, rfl⟩
      have hPar : ParOk segs := fun k s' h => ok k s' (by rw [List.length_map, lA]; exact (List.getElem?_eq_some_iff.mp h).1) h
      have e02 := E1.trans E2
      refine ⟨_, rfl, lf, rfl, ⟨_, SqL.of (E2 _ _ h1)⟩, for_list (K := K) (a := lf) (xs := as.map V.ref)
        (fun i σ H' => Ex H2 H' ∧ (∀ s' ∈ segs.take i, okQ s'.res ∧ okQ s'.cap) ∧ ∃ y5 y6 y7 y8 y9 : Option V, σ = [some (.ref x), some (.ref l), some (.ref lf), x3, x4, y5, y6, y7, y8, y9, none])
        ⟨.refl _, (by rw [List.take_zero]; exact fun _ h => nomatch h), _, _, _, _, _, rfl⟩ (fun i σ H' _ g => SqL.of (g.1 _ _ (E2 _ _ h1))) ?_ ?_⟩
      · rintro i y σ H3 hy ⟨E3, okr, y5, y6, y7, y8, y9, rfl⟩
        obtain ⟨b, hb, rfl⟩ := refs_get hy
        obtain ⟨sg, hsg, ra, ca, s1, s2, s3⟩ := hA.at_ hb
        have e03 := e02.trans E3
        refine ⟨b, _, rfl, SqT.of (e03 _ _ s1), rfl, _, _, rfl, _, _, rfl, _, _, rfl, rfl, ?_⟩
        simp only [wipe, _root_.L2.start, List.map_cons, List.map_nil, List.length_cons, List.length_nil, Nat.reduceAdd, Nat.reduceSub, List.replicate_succ, List.replicate_zero, List.cons_append, List.nil_append, List.set_cons_zero, List.set_cons_succ]
        refine ⟨_, rfl, _, rfl, (by show 2 ≤ sizeLine; decide), fun tt ntt => ?_⟩
        have E4 : Ex H3 (upd H3 tt (.tup [.ref ra, .ref ca])) := Ex.new ntt
        have h4 : upd H3 tt (.tup [.ref ra, .ref ca]) tt = some (.tup ([ra, ca].map V.ref)) := upd_same
        generalize upd H3 tt (.tup [.ref ra, .ref ca]) = H4 at *
        have e04 := e03.trans E4
        have hpr : All2 (PrAt H4) [ra, ca] [sg.res, sg.cap] := .cons (e04 _ _ s2) (.cons (e04 _ _ s3) .nil)
        refine ⟨tt, rfl, ⟨_, SqT.of h4⟩, for_tup (K := K) (a := tt) (xs := [ra, ca].map V.ref)
          (fun j σ H' => Ex H4 H' ∧ (∀ r ∈ [sg.res, sg.cap].take j, okQ r) ∧ ∃ w8 w9 : Option V, σ = [some (.ref x), some (.ref l), some (.ref lf), x3, x4, some (.int sg.above), some (.ref ra), some (.ref ca), w8, w9, none])
          ⟨.refl _, (by rw [List.take_zero]; exact fun _ h => nomatch h), _, _, rfl⟩ (fun i σ H' _ g => SqT.of (g.1 _ _ h4)) ?_ ?_⟩
        · rintro j y σ H5 hy ⟨E5, okj, w8, w9, rfl⟩
          obtain ⟨u, hu, rfl⟩ := refs_get hy
          obtain ⟨r, hr2, hra⟩ := hpr.at_ hu
          have hra5 := E5 _ _ hra
          refine ⟨u, _, rfl, SqT.of hra5, rfl, _, _, rfl, _, _, rfl, rfl, ?_⟩
          simp only [wipe, _root_.L2.start, List.map_cons, List.map_nil, List.length_cons, List.length_nil, Nat.reduceAdd, Nat.reduceSub, List.replicate_succ, List.replicate_zero, List.cons_append, List.nil_append, List.set_cons_zero, List.set_cons_succ]
          have bad : ¬ okQ r → E (.ref R) none H5 := fun z => qR hPar (fun y => z (by
            have hm := y sg (List.mem_of_getElem? hsg)
            have hmem := List.mem_of_getElem? hr2
            simp only [List.mem_cons, List.not_mem_nil, or_false] at hmem
            rcases hmem with e | e <;> rw [e]
            · exact hm.1
            · exact hm.2)) H5 (.of (e04.trans E5))
          refine ⟨_, rfl, _, _, rfl, rfl, _, rfl, ite2 (fun c1 => ?_) (fun c1 => ⟨_, rfl, _, rfl, _, _, rfl, rfl, _, rfl, ite2 (fun c2 => ?_) (fun c2 => ?_)⟩)⟩
          · exact iteT ⟨(by show 1 ≤ sizeLine; decide), bad fun z => by have := of_decide_eq_true c1; have := z.1; omega⟩
          · exact ⟨(by show 1 ≤ sizeLine; decide), bad fun z => by have := of_decide_eq_true c2; have := z.2; omega⟩
          · have k1 : ¬ r.1 < 0 := fun z => c1 (decide_eq_true z)
            have k2 : ¬ r.1 > r.2 := fun z => c2 (decide_eq_true z)
            refine ⟨E5, fun r' hr' => ?_, _, _, rfl⟩
            rw [take_snoc1 hr2] at hr'
            rcases List.mem_append.mp hr' with h | h
            · exact okj r' h
            · rw [List.mem_singleton.mp h]; exact ⟨by omega, by omega⟩
        · rintro σ H5 ⟨E5, okj, w8, w9, rfl⟩
          refine ⟨E3.trans (E4.trans E5), fun s' hs' => ?_, _, _, _, _, _, rfl⟩
          rw [take_snoc1 hsg] at hs'
          rcases List.mem_append.mp hs' with h | h
          · exact okr s' h
          · rw [List.mem_singleton.mp h]; exact ⟨okj _ (by simp), okj _ (by simp)⟩
      · rintro σ H3 ⟨E3, okr, y5, y6, y7, y8, y9, rfl⟩
        rw [List.length_map, lA, List.take_length] at okr
        have e03 := e02.trans E3
        have hlf3 := (E2.trans E3) _ _ h1
        -- _parents
        refine ⟨_, rfl, (by show 1 ≤ sizeLine; decide), fun m1 nm1 => ?_⟩
        have E4 : Ex H3 (upd H3 m1 (.lst [.int (-1)])) := Ex.new nm1
        have h4 : upd H3 m1 (.lst [.int (-1)]) m1 = some (.lst [.int (-1)]) := upd_same
        generalize upd H3 m1 (.lst [.int (-1)]) = H4 at *
        refine ⟨_, rfl, lf, rfl, ⟨_, SqL.of (E4 _ _ hlf3)⟩, fun L1 nL1 => wk_list (K := K) (a := lf) (xs := as.map V.ref) (fun j H' => Ex H4 H' ∧ H' L1 = some (.lst (((segs.take j).map (·.above)).map V.int))) ⟨Ex.new nL1, upd_same⟩ (fun j H' _ z => SqL.of (z.1 _ _ (E4 _ _ hlf3))) ?_ ?_⟩
        · rintro j y H5 hy ⟨E5, hL⟩
          obtain ⟨b, hb, rfl⟩ := refs_get hy
          obtain ⟨sg, hsg, ra, ca, s1, s2, s3⟩ := hA.at_ hb
          have e05 := e03.trans (E4.trans E5)
          refine ⟨b, _, rfl, SqT.of (e05 _ _ s1), rfl, _, _, rfl, _, _, rfl, _, _, rfl, rfl, rfl, tYes_in ?_⟩
          simp only [wipe, _root_.L2.start, List.map_cons, List.map_nil, List.length_cons, List.length_nil, Nat.reduceAdd, Nat.reduceSub, List.replicate_succ, List.replicate_zero, List.cons_append, List.nil_append, List.set_cons_zero, List.set_cons_succ]
          refine ⟨_, rfl, _, hL, sz_lt (by rw [List.length_map, List.length_map, List.length_take]; omega), E5.mut nL1, ?_⟩
          rw [upd_same, take_snoc1 hsg, List.map_append, List.map_append]; rfl
        · rintro H5 ⟨E5, hL⟩
          rw [List.length_map, lA, List.take_length] at hL
          refine ⟨m1, L1, _, _, rfl, rfl, E5 _ _ h4, hL, sz_of (by rw [List.length_map, List.length_map]; show 1 + _ ≤ _; omega), fun pl npl => ?_⟩
          have e45 := E4.trans E5
          have E6 : Ex H5 (upd H5 pl (.lst ([.int (-1)] ++ (segs.map (·.above)).map V.int))) := Ex.new npl
          have hpl6 : upd H5 pl (.lst ([.int (-1)] ++ (segs.map (·.above)).map V.int)) pl = some (.lst ((parL segs).map V.int)) := upd_same
          have npl0 : H pl = none := fresh_back (e03.trans e45) npl
          generalize upd H5 pl (.lst ([.int (-1)] ++ (segs.map (·.above)).map V.int)) = H6 at *
          have e06 := e03.trans (e45.trans E6)
          have hx6 := e06 _ _ hx
          have nplx : pl ≠ x := (ne_of_none hx npl0).symm
          have hlfx : lf ≠ x := (ne_of_none hx nlf).symm
          have segx : ∀ {H' : Hp} {b : Addr} {sg : SegD}, ExBut x H H' → SegAt H b sg → SegAt H' b sg := fun {H' b sg} eb z => by
            obtain ⟨ra, ca, a1, a2, a3⟩ := z
            exact ⟨ra, ca, eb _ _ a1 (ne_of a1 hx (by intro y; cases y)), eb _ _ a2 (ne_of a2 hx (by intro y; cases y)), eb _ _ a3 (ne_of a3 hx (by intro y; cases y))⟩
          refine ⟨_, rfl, x, C, dx, [], rfl, hx6, W.cl, W.n_parents, (by show 0 < 1000; decide), ?_⟩
          have B7 : ExBut x H (upd H6 x (.ins C dx (putF "_parents" (.ref pl) []))) := (ExBut.of e06).trans ExBut.put
          have hx7 : upd H6 x (.ins C dx (putF "_parents" (.ref pl) [])) x = some (.ins C dx (putF "_parents" (.ref pl) [])) := upd_same
          have hlf7 : upd H6 x (.ins C dx (putF "_parents" (.ref pl) [])) lf = some (.lst (as.map V.ref)) := by rw [upd_ne hlfx]; exact (e45.trans E6) _ _ hlf3
          have hpl7 : upd H6 x (.ins C dx (putF "_parents" (.ref pl) [])) pl = some (.lst ((parL segs).map V.int)) := by rw [upd_ne nplx]; exact hpl6
          generalize upd H6 x (.ins C dx (putF "_parents" (.ref pl) [])) = H7 at *
          have hA7 := hA.imp fun _ _ z => segx B7 z
          -- _resistances
          refine ⟨_, rfl, lf, rfl, ⟨_, SqL.of hlf7⟩, fun L2 nL2 => wk_list (K := K) (a := lf) (xs := as.map V.ref) (fun j H' => Ex H7 H' ∧ ∃ rl : List Addr, H' L2 = some (.lst (rl.map V.ref)) ∧ All2 (PrAt H7) rl ((segs.take j).map (·.res))) ⟨Ex.new nL2, [], upd_same, .nil⟩ (fun j H' _ z => SqL.of (z.1 _ _ hlf7)) ?_ ?_⟩
          · rintro j y H8 hy ⟨E8, rl, hL2, hrl⟩
            obtain ⟨b, hb, rfl⟩ := refs_get hy
            obtain ⟨sg, hsg, ra, ca, s1, s2, s3⟩ := hA7.at_ hb
            have hj : j < segs.length := (List.getElem?_eq_some_iff.mp hsg).1
            refine ⟨b, _, rfl, SqT.of (E8 _ _ s1), rfl, _, _, rfl, _, _, rfl, _, _, rfl, rfl, rfl, tYes_in ?_⟩
            simp only [wipe, _root_.L2.start, List.map_cons, List.map_nil, List.length_cons, List.length_nil, Nat.reduceAdd, Nat.reduceSub, List.replicate_succ, List.replicate_zero, List.cons_append, List.nil_append, List.set_cons_zero, List.set_cons_succ]
            refine ⟨_, rfl, ra, _, rfl, .inr ⟨SqT.of (E8 _ _ s2), _, hL2, sz_lt (by rw [List.length_map, hrl.1, List.length_map, List.length_take]; omega), E8.mut nL2, rl ++ [ra], by rw [upd_same, List.map_append]; rfl, ?_⟩⟩
            rw [take_snoc1 hsg, List.map_append]
            exact hrl.snoc s2
          rintro H8 ⟨E8, rl, hL2, hrl⟩
          rw [List.length_map, lA, List.take_length] at hrl
          have nL20 : H L2 = none := by
            cases e : H L2 with
            | none => rfl
            | some o =>
              by_cases z : L2 = x
              · rw [z, hx7] at nL2; cases nL2
              · have := B7 _ _ e z
                rw [nL2] at this; cases this
          have nL2x : L2 ≠ x := (ne_of_none hx nL20).symm
          refine ⟨_, rfl, x, C, dx, _, rfl, E8 _ _ hx7, W.cl, W.n_resistances, (by show 1 < 1000; decide), ?_⟩
          have B9 : ExBut x H7 (upd H8 x (.ins C dx (putF "_resistances" (.ref L2) (putF "_parents" (.ref pl) [])))) := (ExBut.of E8).trans ExBut.put
          have hx9 : upd H8 x (.ins C dx (putF "_resistances" (.ref L2) (putF "_parents" (.ref pl) []))) x = some (.ins C dx (putF "_resistances" (.ref L2) (putF "_parents" (.ref pl) []))) := upd_same
          have hL29 : upd H8 x (.ins C dx (putF "_resistances" (.ref L2) (putF "_parents" (.ref pl) []))) L2 = some (.lst (rl.map V.ref)) := by rw [upd_ne nL2x]; exact hL2
          generalize upd H8 x (.ins C dx (putF "_resistances" (.ref L2) (putF "_parents" (.ref pl) []))) = H9 at *
          have hlf9 := B9 _ _ hlf7 hlfx
          have hpl9 := B9 _ _ hpl7 nplx
          have B09 := B7.trans B9
          have hA9 := hA.imp fun _ _ z => segx B09 z
          have hrl9 : All2 (PrAt H9) rl (segs.map (·.res)) := hrl.imp fun _ _ z => B9 _ _ z (ne_of z hx7 (by intro y; cases y))
          -- _capacitances
          refine ⟨_, rfl, lf, rfl, ⟨_, SqL.of hlf9⟩, fun L3 nL3 => wk_list (K := K) (a := lf) (xs := as.map V.ref) (fun j H' => Ex H9 H' ∧ ∃ cl : List Addr, H' L3 = some (.lst (cl.map V.ref)) ∧ All2 (PrAt H9) cl ((segs.take j).map (·.cap))) ⟨Ex.new nL3, [], upd_same, .nil⟩ (fun j H' _ z => SqL.of (z.1 _ _ hlf9)) ?_ ?_⟩
          · rintro j y H10 hy ⟨E10, cl, hL3, hcl⟩
            obtain ⟨b, hb, rfl⟩ := refs_get hy
            obtain ⟨sg, hsg, ra, ca, s1, s2, s3⟩ := hA9.at_ hb
            have hj : j < segs.length := (List.getElem?_eq_some_iff.mp hsg).1
            refine ⟨b, _, rfl, SqT.of (E10 _ _ s1), rfl, _, _, rfl, _, _, rfl, _, _, rfl, rfl, rfl, tYes_in ?_⟩
            simp only [wipe, _root_.L2.start, List.map_cons, List.map_nil, List.length_cons, List.length_nil, Nat.reduceAdd, Nat.reduceSub, List.replicate_succ, List.replicate_zero, List.cons_append, List.nil_append, List.set_cons_zero, List.set_cons_succ]
            refine ⟨_, rfl, ca, _, rfl, .inr ⟨SqT.of (E10 _ _ s3), _, hL3, sz_lt (by rw [List.length_map, hcl.1, List.length_map, List.length_take]; omega), E10.mut nL3, cl ++ [ca], by rw [upd_same, List.map_append]; rfl, ?_⟩⟩
            rw [take_snoc1 hsg, List.map_append]
            exact hcl.snoc s3
          rintro H10 ⟨E10, cl, hL3, hcl⟩
          rw [List.length_map, lA, List.take_length] at hcl
          have nL30 : H L3 = none := by
            cases e : H L3 with
            | none => rfl
            | some o =>
              by_cases z : L3 = x
              · rw [z, hx9] at nL3; cases nL3
              · have := B09 _ _ e z
                rw [nL3] at this; cases this
          have nL3x : L3 ≠ x := (ne_of_none hx nL30).symm
          refine ⟨_, rfl, x, C, dx, _, rfl, E10 _ _ hx9, W.cl, W.n_capacitances, (by show 2 < 1000; decide), ?_⟩
          have B11 : ExBut x H9 (upd H10 x (.ins C dx (tfl pl L2 L3))) := (ExBut.of E10).trans ExBut.put
          exact q hPar okr pl L2 L3 _ npl0 nL20 nL30 (B09.trans B11) ⟨⟨dx, upd_same⟩, B11 _ _ hpl9 nplx, ⟨rl, B11 _ _ hL29 nL2x, hrl9.imp fun _ _ z => B11 _ _ z (ne_of z hx9 (by intro y; cases y))⟩, ⟨cl, by rw [upd_ne nL3x]; exact hL3, hcl.imp fun _ _ z => B11 _ _ z (ne_of z hx9 (by intro y; cases y))⟩⟩
end
end G
namespace G
open PySem PySem.Spec PyProof.Rows L2 Evl TL
/-! ## the way from a node to the root -/
def parN (segs : List SegD) (n : Nat) : Nat := ((segs.map (·.above)).getD (n - 1) 0).toNat
def ancF (segs : List SegD) : Nat → Nat → List Nat
  | 0, n => [n]
  | f + 1, n => if n = 0 then [0] else n :: ancF segs f (parN segs n)
def anc (segs : List SegD) (n : Nat) : List Nat := ancF segs n n
theorem par_lt {segs : List SegD} (h : ParOk segs) {n : Nat} (h0 : n ≠ 0) (h1 : n ≤ segs.length) : parN segs n < n := by
  have hs : segs[n - 1]? = some (segs[n - 1]'(by omega)) := List.getElem?_eq_getElem (by omega)
  have := h (n - 1) _ hs
  unfold parN
  rw [List.getD_eq_getElem?_getD, List.getElem?_map, hs]
  show (segs[n - 1]'(by omega)).above.toNat < n
  omega
theorem par_at {segs : List SegD} (h : ParOk segs) {n : Nat} (h0 : n ≠ 0) (h1 : n ≤ segs.length) : (parL segs)[n]? = some ((parN segs n : Nat) : Int) := by
  have hs : segs[n - 1]? = some (segs[n - 1]'(by omega)) := List.getElem?_eq_getElem (by omega)
  have := h (n - 1) _ hs
  obtain ⟨m, rfl⟩ : ∃ m, n = m + 1 := ⟨n - 1, by omega⟩
  have hs' : segs[m]? = some (segs[m]'(by omega)) := List.getElem?_eq_getElem (by omega)
  have h2 := h m _ hs'
  have e : (segs.map fun s : SegD => s.above)[m]? = some (segs[m]'(by omega)).above := by rw [List.getElem?_map, hs']; rfl
  unfold parL parN
  show (segs.map fun s : SegD => s.above)[m]? = some ((((segs.map fun s : SegD => s.above).getD m 0).toNat : Nat) : Int)
  rw [List.getD_eq_getElem?_getD, e]
  show some _ = some ((((segs[m]'(by omega)).above).toNat : Nat) : Int)
  rw [Int.toNat_of_nonneg h2.1]
theorem ancF_enough {segs : List SegD} (h : ParOk segs) : ∀ (n f : Nat), n ≤ segs.length → n ≤ f → ancF segs f n = anc segs n := by
  intro n
  induction n using Nat.strongRecOn with
  | _ n ih =>
    intro f hn hf
    unfold anc
    by_cases h0 : n = 0
    · subst h0
      cases f with
      | zero => rfl
      | succ f => rfl
    · have hp := par_lt h h0 hn
      obtain ⟨m, rfl⟩ : ∃ m, n = m + 1 := ⟨n - 1, by omega⟩
      obtain ⟨g, rfl⟩ : ∃ g, f = g + 1 := ⟨f - 1, by omega⟩
      show (if m + 1 = 0 then [0] else (m + 1) :: ancF segs g (parN segs (m + 1))) = (if m + 1 = 0 then [0] else (m + 1) :: ancF segs m (parN segs (m + 1)))
      rw [if_neg h0, if_neg h0, ih _ hp g (by omega) (by omega), ih _ hp m (by omega) (by omega)]
theorem anc_zero (segs : List SegD) : anc segs 0 = [0] := rfl
theorem anc_step {segs : List SegD} (h : ParOk segs) {n : Nat} (h0 : n ≠ 0) (hn : n ≤ segs.length) : anc segs n = n :: anc segs (parN segs n) := by
  have hp := par_lt h h0 hn
  obtain ⟨m, rfl⟩ : ∃ m, n = m + 1 := ⟨n - 1, by omega⟩
  show (if m + 1 = 0 then [0] else (m + 1) :: ancF segs m (parN segs (m + 1))) = _
  rw [if_neg h0, ancF_enough h _ m (by omega) (by omega)]
theorem anc_le {segs : List SegD} (h : ParOk segs) : ∀ n, n ≤ segs.length → ∀ k ∈ anc segs n, k ≤ n := by
  intro n
  induction n using Nat.strongRecOn with
  | _ n ih =>
    intro hn k hk
    by_cases h0 : n = 0
    · subst h0
      rw [anc_zero] at hk
      rw [List.mem_singleton.mp hk]; exact Nat.le_refl _
    · rw [anc_step h h0 hn] at hk
      have hp := par_lt h h0 hn
      rcases List.mem_cons.mp hk with z | z
      · omega
      · have := ih _ hp (by omega) k z; omega
theorem anc_self {segs : List SegD} (h : ParOk segs) {n : Nat} (hn : n ≤ segs.length) : n ∈ anc segs n := by
  by_cases h0 : n = 0
  · subst h0; rw [anc_zero]; exact List.mem_singleton.mpr rfl
  · rw [anc_step h h0 hn]; exact List.mem_cons_self ..
theorem anc_len {segs : List SegD} (h : ParOk segs) : ∀ n, n ≤ segs.length → (anc segs n).length ≤ n + 1 := by
  intro n
  induction n using Nat.strongRecOn with
  | _ n ih =>
    intro hn
    by_cases h0 : n = 0
    · subst h0; exact Nat.le_refl _
    · have hp := par_lt h h0 hn
      rw [anc_step h h0 hn, List.length_cons]
      have := ih _ hp (by omega); omega
def natsV (l : List Nat) : List V := l.map fun n : Nat => V.int (n : Int)
section
variable {P : Program} {w : World} {K : PySem.W.Frag} {mg : Str → Option Value} {base : Heap}
def spCheck (C B : Addr) : Sp := fun vs H Q E => ∃ (x p r c : Addr) (segs : List SegD) (n : Int), vs = [.ref x, .int n] ∧ TreeAt C H x p r c segs ∧ ((0 ≤ n ∧ n ≤ segs.length) → Q .non H) ∧ (¬ (0 ≤ n ∧ n ≤ segs.length) → ∀ H', Ex H H' → E (.ref B) none H')
theorem sc_WireTree_check_node : FnScope ["self", "node"] ["self", "node"] (defScope s_WireTree_check_node) := ⟨rfl, rfl, rfl, by decide +kernel, rfl, by decide +kernel, by decide +kernel⟩
theorem ok_WireTree_check_node {C B : Addr} {f : Addr} {fd : FuncData} (F : Fun K "_check_node" "WireTree._check_node" s_WireTree_check_node f fd) (W : Cl_WireTree K mg C) (T : TxtT mg) (UB : ExcT K mg "BadArgument" B) : FnOk P w K mg base (L2.CX P w) 1 f fd ["self", "node"] (spCheck C B) := by
  refine F.okX sc_WireTree_check_node (fun vs H Q E h => ?_) (fun cdv A outer s H vs Q E hr h => ?_)
  · obtain ⟨x, p, r, c, segs, n, rfl, _⟩ := h
    rfl
  · obtain ⟨x, p, r, c, segs, n, rfl, ⟨⟨dx, h1⟩, h2, _, _⟩, q1, q2⟩ := h
    refine ⟨_, (pss_one (ps_if (PW.pt (pw_or (pt_cmpR op_lt (pv 1) pe_int (nomark _)) (pw_or1 (pt_cmpR op_ge (pv 1) (pe_callB call_len_seq (by rfl) T.len (by decide +kernel) (pa_cons (pe_fld (pv 0) rfl) pa_nil)) (nomark _)))))
      (pss_one (ps_raise rfl (takes_of rfl rfl rfl rfl) (pmk_ownA PySem.F.excBase_ValueError UB.xP UB.gC UB.kC (raises_own UB.bC UB.tC) rfl (pa_cons pe_str pa_nil))))
      pss_nil)), ?_⟩
    have hlen : ((parL segs).map V.int).length = segs.length + 1 := by rw [List.length_map]; unfold parL; rw [List.length_cons, List.length_map]
    refine ⟨_, rfl, _, _, rfl, rfl, _, rfl, ite2 (fun c1 => ?_) (fun c1 => ⟨_, rfl, _, rfl, x, C, dx, _, _, rfl, h1, W.cl, W.n_parents, tfl_p _ _ _, _, _, rfl, .inl (SqL.of h2), _, _, rfl, rfl, _, rfl, ?_⟩)⟩
    · exact iteT ⟨(by show 1 ≤ sizeLine; decide), q2 (fun z => by have := of_decide_eq_true c1; omega) H (Ex.refl _)⟩
    · rw [hlen]
      refine ite2 (fun c2 => ?_) (fun c2 => ?_)
      · exact ⟨(by show 1 ≤ sizeLine; decide), q2 (fun z => by have := of_decide_eq_true c2; omega) H (Ex.refl _)⟩
      · have k1 : ¬ n < 0 := fun z => c1 (decide_eq_true z)
        have k2 : ¬ n ≥ ((segs.length + 1 : Nat) : Int) := fun z => c2 (decide_eq_true z)
        exact q1 (by omega)
def spPath (C B : Addr) : Sp := fun vs H Q E => ∃ (x p r c : Addr) (segs : List SegD) (n : Int), vs = [.ref x, .int n] ∧ TreeAt C H x p r c segs ∧ ParOk segs ∧ segs.length ≤ 100 ∧ (∀ (m : Nat), n = (m : Int) → m ≤ segs.length → ∀ (l : Addr) (H' : Hp), Ex H H' → H l = none → H' l = some (.lst (natsV (anc segs m).reverse)) → Q (.ref l) H') ∧ (¬ (0 ≤ n ∧ n ≤ segs.length) → ∀ H', Ex H H' → E (.ref B) none H')
theorem sc_WireTree_path : FnScope ["self", "node", "found"] ["self", "node"] (defScope s_WireTree_path) := ⟨rfl, rfl, rfl, by decide +kernel, rfl, by decide +kernel, by decide +kernel⟩
theorem ok_WireTree_path {C B f0 : Addr} {d0 : FuncData} {f : Addr} {fd : FuncData} (F : Fun K "path" "WireTree.path" s_WireTree_path f fd) (W : Cl_WireTree K mg C)
    (M_WireTree_check_node : Meth K C "_check_node" f0) (G_WireTree_check_node : FnOk P w K mg base (L2.CX P w) 1 f0 d0 ["self", "node"] (spCheck C B)) (b_WireTree_check_node : Binds K d0 ["self", "node"] []) : FnOk P w K mg base (L2.CX P w) 2 f fd ["self", "node"] (spPath C B) := by
  have c_WireTree := W.cl
  refine F.okX sc_WireTree_path (fun vs H Q E h => ?_) (fun cdv A outer s H vs Q E hr h => ?_)
  · obtain ⟨x, p, r, c, segs, n, rfl, _⟩ := h
    rfl
  · obtain ⟨x, p, r, c, segs, n, rfl, hT, hPar, hsl, q1, q2⟩ := h
    obtain ⟨⟨dx, h1⟩, h2, _, _⟩ := id hT
    refine ⟨_, (pss_cons (ps_expr (pe_meth (pv 0) c_WireTree M_WireTree_check_node G_WireTree_check_node (hr.mono (by omega)) b_WireTree_check_node .nil (passes_call (takes_of rfl rfl rfl rfl) fun _ _ _ _ h => h) (pa_cons (pv 1) pa_nil)))
    (pss_cons (ps_set (i := 2) sc_WireTree_path.nd rfl (.inl rfl) (pe_lst pa_nil))
    (pss_cons (ps_while (passes_of rfl) (pt_cmpR op_ge (pv 1) pe_int (nomark _))
      (pss_cons (ps_expr (pe_bm PySem.F.plainAttrs_list PySem.F.slot_list_append PySem.F.type_list_append mt_append (pv 2) (pa_cons (pv 1) pa_nil)))
      (pss_one (ps_set (i := 1) sc_WireTree_path.nd rfl (.inl rfl) (pe_ix ix_list (pe_fld (pv 0) rfl) (pv 1) (fun _ _ => rfl))))))
    (pss_one (ps_ret (pe_revL (pv 2))))))), ?_⟩
    refine ⟨_, rfl, x, dx, _, rfl, h1, tfl_no _ _ _ (by decide +kernel) (by decide +kernel) (by decide +kernel), _, rfl, x, p, r, c, segs, n, rfl, hT, fun hn => ?_, q2⟩
    obtain ⟨m0, rfl⟩ : ∃ m0 : Nat, n = (m0 : Int) := ⟨n.toNat, by omega⟩
    have hm0 : m0 ≤ segs.length := by omega
    refine ⟨Nat.zero_le _, fun l nl => ?_⟩
    have E1 : Ex H (upd H l (.lst [])) := Ex.new nl
    refine ⟨fun μ σ H' => Ex H H' ∧ ∃ (pre : List Nat) (z : Int), H' l = some (.lst (natsV pre)) ∧ pre.length ≤ 200 ∧ σ = [some (.ref x), some (.int z), some (.ref l)] ∧ ((z = -1 ∧ pre = anc segs m0 ∧ μ = 0) ∨ ∃ m : Nat, z = (m : Int) ∧ m ≤ segs.length ∧ pre ++ anc segs m = anc segs m0 ∧ μ = m + 1),
      ⟨_, E1, [], (m0 : Int), upd_same, Nat.zero_le _, rfl, .inr ⟨m0, rfl, hm0, rfl, rfl⟩⟩, ?_⟩
    rintro μ σ H1 ⟨E1, pre, z, hl, hpl, rfl, hz⟩
    refine ⟨_, rfl, _, _, rfl, rfl, _, rfl, ite2 (fun c1 => ?_) (fun c1 => ?_)⟩
    · obtain ⟨m, rfl, hm, hpre, rfl⟩ : ∃ m : Nat, z = (m : Int) ∧ m ≤ segs.length ∧ pre ++ anc segs m = anc segs m0 ∧ μ = m + 1 := by
        rcases hz with ⟨z1, _⟩ | z1
        · have := of_decide_eq_true c1; omega
        · exact z1
      have hpl2 : pre.length ≤ 100 := by
        have h3 := congrArg List.length hpre
        have h4 := anc_len hPar m0 hm0
        have h5 : 0 < (anc segs m).length := List.length_pos_of_mem (anc_self hPar hm)
        rw [List.length_append] at h3
        omega
      refine ⟨fun σ' H' => Ex H H' ∧ ∃ (pre' : List Nat) (z' : Int), H' l = some (.lst (natsV pre')) ∧ pre'.length ≤ 200 ∧ σ' = [some (.ref x), some (.int z'), some (.ref l)] ∧ ((z' = -1 ∧ pre' = anc segs m0) ∨ ∃ m' : Nat, m' < m ∧ z' = (m' : Int) ∧ m' ≤ segs.length ∧ pre' ++ anc segs m' = anc segs m0), ?_, ?_⟩
      · rintro σ' H' ⟨E', pre', z', a1, a2, rfl, a3⟩
        rcases a3 with ⟨b1, b2⟩ | ⟨m', b1, b2, b3, b4⟩
        · exact ⟨0, by omega, E', pre', z', a1, a2, rfl, .inl ⟨b1, b2, rfl⟩⟩
        · exact ⟨m' + 1, by omega, E', pre', z', a1, a2, rfl, .inr ⟨m', b2, b3, b4, rfl⟩⟩
      · refine ⟨_, rfl, .inl ⟨rfl, _, SqL.of hl⟩, _, rfl, l, _, .int (m : Int), rfl, rfl, hl, sz_lt (by unfold natsV; rw [List.length_map]; omega), ?_⟩
        have E2 : Ex H (upd H1 l (.lst (natsV pre ++ [.int (m : Int)]))) := E1.mut nl
        have hl2 : upd H1 l (.lst (natsV pre ++ [.int (m : Int)])) l = some (.lst (natsV (pre ++ [m]))) := by rw [upd_same]; unfold natsV; rw [List.map_append]; rfl
        generalize upd H1 l (.lst (natsV pre ++ [.int (m : Int)])) = H2 at *
        have hl20 : (pre ++ [m]).length ≤ 200 := by rw [List.length_append]; show _ + 1 ≤ _; omega
        by_cases h0 : m = 0
        · subst h0
          refine ⟨_, rfl, x, C, dx, _, _, rfl, E2 _ _ h1, W.cl, W.n_parents, tfl_p _ _ _, _, rfl, _, _, _, _, rfl, rfl, SqL.of (E2 _ _ h2), atI_nat (j := 0) rfl, E2, pre ++ [0], -1, hl2, hl20, rfl, .inl ⟨rfl, ?_⟩⟩
          rw [← hpre, anc_zero]
        · have hg := par_at hPar h0 hm
          have hlt := par_lt hPar h0 hm
          refine ⟨_, rfl, x, C, dx, _, _, rfl, E2 _ _ h1, W.cl, W.n_parents, tfl_p _ _ _, _, rfl, _, _, _, _, rfl, rfl, SqL.of (E2 _ _ h2), atI_nat (j := m) (by rw [List.getElem?_map, hg]; rfl), E2, pre ++ [m], _, hl2, hl20, rfl, .inr ⟨parN segs m, hlt, rfl, by omega, ?_⟩⟩
          rw [← hpre, anc_step hPar h0 hm, List.append_assoc]; rfl
    · have hfin : pre = anc segs m0 := by
        rcases hz with ⟨_, z1, _⟩ | ⟨m, rfl, _⟩
        · exact z1
        · exact absurd (decide_eq_true (by omega : (m : Int) ≥ 0)) c1
      subst hfin
      refine ⟨_, rfl, l, _, rfl, SqL.of hl, fun q nq => q1 m0 rfl hm0 q _ (E1.trans (Ex.new nq)) (fresh_back E1 nq) ?_⟩
      rw [upd_same]; unfold natsV; rw [List.map_reverse]
end
end G
namespace G
open PySem PySem.Spec PyProof.Rows L2
/-! ## loads and delays of a tree: sums over the nodes at and below -/
def sumN : Nat → (Nat → Int) → Int
  | 0, _ => 0
  | n + 1, f => sumN n f + f n
theorem sumN_congr {f g : Nat → Int} : ∀ {n : Nat}, (∀ k, k < n → f k = g k) → sumN n f = sumN n g
  | 0, _ => rfl
  | n + 1, h => by
    show sumN n f + f n = sumN n g + g n
    rw [sumN_congr (fun k hk => h k (by omega)), h n (by omega)]
theorem sumN_le {f g : Nat → Int} : ∀ {n : Nat}, (∀ k, k < n → f k ≤ g k) → sumN n f ≤ sumN n g
  | 0, _ => Int.le_refl _
  | n + 1, h => by
    have h1 := sumN_le (n := n) (fun k hk => h k (by omega))
    have h2 := h n (by omega)
    show sumN n f + f n ≤ sumN n g + g n
    omega
theorem sumN_zero : ∀ {n : Nat} {f : Nat → Int}, (∀ k, k < n → f k = 0) → sumN n f = 0
  | 0, _, _ => rfl
  | n + 1, f, h => by
    show sumN n f + f n = 0
    rw [sumN_zero (fun k hk => h k (by omega)), h n (by omega)]; rfl
theorem sumN_put {f g : Nat → Int} {p : Nat} {c : Int} : ∀ {n : Nat}, p < n → (∀ k, k < n → g k = if k = p then f k + c else f k) → sumN n g = sumN n f + c
  | n + 1, hp, h => by
    show sumN n g + g n = sumN n f + f n + c
    by_cases e : n = p
    · subst e
      rw [h n (by omega), if_pos rfl, sumN_congr (f := g) (g := f) fun k hk => by rw [h k (by omega), if_neg (by omega)]]
      omega
    · rw [sumN_put (n := n) (by omega) (fun k hk => h k (by omega)), h n (by omega), if_neg e]
      omega
def loadV (segs : List SegD) (cs : List Int) (i : Nat) : Int := sumN (segs.length + 1) fun k => if i ∈ anc segs k then (0 :: cs).getD k 0 else 0
def delayV (segs : List SegD) (fs cs : List Int) (n : Nat) : Int := (((anc segs n).reverse.drop 1).map fun k => fs.getD (k - 1) 0 * loadV segs cs k).sum
structure LInv (segs : List SegD) (cs : List Int) (j : Nat) (ls : List Int) : Prop where
  len : ls.length = segs.length + 1
  low : ∀ i, i ≤ j → sumN (j + 1) (fun k => if i ∈ anc segs k then ls.getD k 0 else 0) = loadV segs cs i
  high : ∀ i, j < i → i ≤ segs.length → ls.getD i 0 = loadV segs cs i
theorem LInv.start {segs : List SegD} {cs : List Int} (h : cs.length = segs.length) : LInv segs cs segs.length (0 :: cs) :=
  ⟨by rw [List.length_cons, h], fun i hi => rfl, fun i h1 h2 => by omega⟩
theorem getD_set {l : List Int} {p k : Nat} {v : Int} (hp : p < l.length) : (l.set p v).getD k 0 = if k = p then v else l.getD k 0 := by
  rw [List.getD_eq_getElem?_getD, List.getD_eq_getElem?_getD, List.getElem?_set]
  by_cases e : p = k
  · subst e
    rw [if_pos rfl, if_pos hp, if_pos rfl]; rfl
  · rw [if_neg e, if_neg (Ne.symm e)]
theorem LInv.self {segs : List SegD} {cs ls : List Int} {j : Nat} (hP : ParOk segs) (L : LInv segs cs j ls) (h : j ≤ segs.length) : ls.getD j 0 = loadV segs cs j := by
  rw [← L.low j (Nat.le_refl _)]
  show _ = sumN j _ + (if j ∈ anc segs j then ls.getD j 0 else 0)
  rw [if_pos (anc_self hP h), sumN_zero fun k hk => if_neg fun z => by have := anc_le hP k (by omega) j z; omega]
  omega
theorem LInv.step {segs : List SegD} {cs ls : List Int} {j : Nat} (hP : ParOk segs) (L : LInv segs cs (j + 1) ls) (h : j + 1 ≤ segs.length) : LInv segs cs j (ls.set (parN segs (j + 1)) (ls.getD (parN segs (j + 1)) 0 + ls.getD (j + 1) 0)) := by
  have hp : parN segs (j + 1) < j + 1 := par_lt hP (Nat.succ_ne_zero j) h
  have hpl : parN segs (j + 1) < ls.length := by rw [L.len]; omega
  refine ⟨by rw [List.length_set]; exact L.len, fun i hi => ?_, fun i h1 h2 => ?_⟩
  · rw [← L.low i (by omega)]
    show _ = sumN (j + 1) _ + (if i ∈ anc segs (j + 1) then ls.getD (j + 1) 0 else 0)
    refine sumN_put (p := parN segs (j + 1)) hp fun k hk => ?_
    rw [getD_set hpl]
    have e : i ∈ anc segs (j + 1) ↔ i ∈ anc segs (parN segs (j + 1)) := by
      rw [anc_step hP (Nat.succ_ne_zero j) h, List.mem_cons]
      exact ⟨fun z => z.resolve_left (by omega), .inr⟩
    by_cases hk' : k = parN segs (j + 1)
    · subst hk'
      rw [if_pos rfl, if_pos rfl]
      by_cases z : i ∈ anc segs (parN segs (j + 1))
      · rw [if_pos z, if_pos z, if_pos (e.mpr z)]
      · rw [if_neg z, if_neg z, if_neg fun y => z (e.mp y)]; rfl
    · rw [if_neg hk', if_neg hk']
  · rw [getD_set hpl, if_neg (by omega)]
    rcases Nat.lt_or_eq_of_le (show j + 1 ≤ i from h1) with z | z
    · exact L.high i z h2
    · subst z; exact L.self hP h
theorem LInv.done {segs : List SegD} {cs ls : List Int} (hP : ParOk segs) (L : LInv segs cs 0 ls) {i : Nat} (h : i ≤ segs.length) : ls.getD i 0 = loadV segs cs i := by
  rcases Nat.eq_zero_or_pos i with z | z
  · subst z; exact L.self hP h
  · exact L.high i z h
theorem anc_tail {segs : List SegD} (h : ParOk segs) : ∀ n, n ≤ segs.length → ∃ pre : List Nat, anc segs n = pre ++ [0] ∧ ∀ k ∈ pre, k ≠ 0 := by
  intro n
  induction n using Nat.strongRecOn with
  | _ n ih =>
    intro hn
    by_cases h0 : n = 0
    · subst h0; exact ⟨[], rfl, fun _ z => nomatch z⟩
    · obtain ⟨pre, e, hz⟩ := ih _ (par_lt h h0 hn) (by have := par_lt h h0 hn; omega)
      refine ⟨n :: pre, by rw [anc_step h h0 hn, e]; rfl, fun k hk => ?_⟩
      rcases List.mem_cons.mp hk with z | z
      · omega
      · exact hz k z
theorem anc_way {segs : List SegD} (h : ParOk segs) {n k : Nat} (hn : n ≤ segs.length) (hk : k ∈ (anc segs n).reverse.drop 1) : 1 ≤ k ∧ k ≤ segs.length := by
  obtain ⟨pre, e, hz⟩ := anc_tail h n hn
  rw [e, List.reverse_append] at hk
  have hk' : k ∈ pre.reverse := hk
  have h1 := hz k (List.mem_reverse.mp hk')
  have h2 := anc_le h n hn k (by rw [e]; exact List.mem_append_left _ (List.mem_reverse.mp hk'))
  omega
theorem loadV_nn {segs : List SegD} {cs : List Int} {i : Nat} (h : ∀ k, 0 ≤ cs.getD k 0) : 0 ≤ loadV segs cs i := by
  have e : sumN (segs.length + 1) (fun _ => 0) = 0 := sumN_zero fun _ _ => rfl
  rw [← e]
  refine sumN_le fun k _ => ?_
  show 0 ≤ if i ∈ anc segs k then (0 :: cs).getD k 0 else 0
  by_cases z : i ∈ anc segs k
  · rw [if_pos z]
    cases k with
    | zero => exact Int.le_refl _
    | succ k => exact h k
  · rw [if_neg z]; exact Int.le_refl _
theorem loadV_le {segs : List SegD} {cs ds : List Int} {i : Nat} (h : ∀ k, cs.getD k 0 ≤ ds.getD k 0) : loadV segs cs i ≤ loadV segs ds i := by
  refine sumN_le fun k _ => ?_
  show (if i ∈ anc segs k then (0 :: cs).getD k 0 else 0) ≤ if i ∈ anc segs k then (0 :: ds).getD k 0 else 0
  by_cases z : i ∈ anc segs k
  · rw [if_pos z, if_pos z]
    cases k with
    | zero => exact Int.le_refl _
    | succ k => exact h k
  · rw [if_neg z, if_neg z]; exact Int.le_refl _
theorem sum_map_le {l : List Nat} {f g : Nat → Int} (h : ∀ k, f k ≤ g k) : (l.map f).sum ≤ (l.map g).sum := by
  induction l with
  | nil => exact Int.le_refl _
  | cons x l ih =>
    rw [List.map_cons, List.map_cons, List.sum_cons, List.sum_cons]
    have := h x
    omega
theorem delayV_le {segs : List SegD} {fs gs cs ds : List Int} {n : Nat} (f0 : ∀ k, 0 ≤ fs.getD k 0) (c0 : ∀ k, 0 ≤ cs.getD k 0) (h1 : ∀ k, fs.getD k 0 ≤ gs.getD k 0) (h2 : ∀ k, cs.getD k 0 ≤ ds.getD k 0) : delayV segs fs cs n ≤ delayV segs gs ds n := by
  refine sum_map_le fun k => ?_
  have a0 := loadV_nn (segs := segs) (i := k) c0
  have a1 := loadV_le (segs := segs) (i := k) h2
  have b0 := f0 (k - 1)
  have b1 := h1 (k - 1)
  exact Int.mul_le_mul b1 a1 a0 (Int.le_trans b0 b1)
theorem ceil_eq {x u : Int} (hu : 0 < u) : (x + u - 1) / u = -((-x) / u) := by
  have e := Int.emod_add_mul_ediv (-x) u
  have h1 := Int.emod_nonneg (-x) (show u ≠ 0 by omega)
  have h2 := Int.emod_lt_of_pos (-x) hu
  have e2 : x + u - 1 = (u - 1 - (-x) % u) + u * (-((-x) / u)) := by
    rw [Int.mul_neg]; omega
  rw [e2, Int.add_mul_ediv_left _ _ (by omega), Int.ediv_eq_zero_of_lt (by omega) (by omega)]
  omega
theorem floor_le {x u : Int} (hu : 0 < u) : u * (x / u) ≤ x := by
  have e := Int.emod_add_mul_ediv x u
  have h1 := Int.emod_nonneg x (show u ≠ 0 by omega)
  omega
theorem ceil_ge {x u : Int} (hu : 0 < u) : x ≤ u * (-((-x) / u)) := by
  have := floor_le (x := -x) hu
  rw [Int.mul_neg]; omega
end G
namespace G
open PySem PySem.Spec PyProof.Rows L2 Evl TL
/-! ## xs[i] += v; a keyword-only default -/
theorem get_list {X : Cx} : PGet X (rIxL X.K) := by
  intro pins s σ H o i v u Q I ro ri h
  obtain ⟨p, xs, i, z, rfl, rfl, hq, he, q⟩ := h
  cases ro
  obtain ⟨t, rfl⟩ := ri
  obtain ⟨its, r, pl, hz⟩ := I.list hq
  obtain ⟨j, h1, h2, h3, h4, h5⟩ := atI_get he
  obtain ⟨w, ew, rw'⟩ := r.get h2
  have hl := r.length
  have hn := line63
  have fin : EP X pins σ Q w s := ⟨z, H, I, rw', q⟩
  by_cases h0 : 0 ≤ i
  · have hj : i.toNat = j := by
      rw [seqIndex_of h0 h5] at h1
      exact Option.some.inj h1
    exact wpAny_getItem_list pl.isList h0 (by omega) (by rw [hj]; simpa using ew) fin
  · have hj : (i + (its.toArray.size : Int)).toNat = j := by
      rw [seqIndex_neg (by omega) h4] at h1
      rw [List.size_toArray, ← hl]
      exact Option.some.inj h1
    exact wpAny_getItem_list_neg pl.isList (by omega) (by rw [List.size_toArray] <;> omega) (by omega) (by rw [hj]; simpa using ew) fin
theorem kFld {X : Cx} {K : PySem.W.Frag} {e : Expr} {f : Str} {pos : Pos} {ta : TE} (h : X.K = K) (he : PE X e ta) (hb : attributeBase e f X.env (eval e X.env) = eval e X.env) : PE X (.Attribute e f pos) (tFld K ta f) := by subst h; exact pe_fld he hb
theorem kwd1 {K : PySem.W.Frag} {x qual y : Str} {st : Stmt} {f D : Addr} {n : Nat} {ps : List Str} {v : V} {oc doc pm cdv ct : Value} {od an : Option Addr} {osl : Array (Option Value)}
    (lk : K.lookup f = some ⟨oc, od, .func (PySem.W.fnOf x qual (defArgs st) (defBody st) (defScope st) .none (.ref D) doc pm an cdv ct), osl⟩) (hcd : PySem.W.codeIn K cdv qual = true) (kp : PySem.W.keepIn K (.ref f) = true) (hq : ∃ u, PySem.W.nsIn K D y = some (some u) ∧ RelV v u)
    (h : ∀ (D : Addr) (doc pm : Value) (an : Option Addr) (cdv ct : Value) (us ks : List Value), us.length = n → ks.length = 1 →
      KwChain D ([y].zip ks) (bindArgs (PySem.W.fnOf x qual (defArgs st) (defBody st) (defScope st) .none (.ref D) doc pm an cdv ct) ⟨us, []⟩) (ps.zip (us ++ ks))) (hn : n + 1 = ps.length := by rfl) :
    ∃ ds, Vals [v] ds ∧ Binds K (PySem.W.fnOf x qual (defArgs st) (defBody st) (defScope st) .none (.ref D) doc pm an cdv ct) ps ds :=
  FunD.binds0 (kws := [(y, v)]) (f := f) ⟨⟨oc, od, .none, .ref D, doc, pm, an, cdv, ct, osl, rfl, lk, hcd, .inl ⟨rfl, rfl⟩, .inr ⟨D, rfl, fun q hq' => by
    rw [List.mem_singleton.mp hq']; exact hq⟩⟩, kp⟩ n (by intro z; cases z) hn h
section
variable {P : Program} {w : World} {K : PySem.W.Frag} {mg : Str → Option Value} {base : Heap}
structure TxtD (mg : Str → Option Value) : Prop where
  len : mg "len" = none
  range : mg "range" = none
  sum : mg "sum" = none
theorem at_int {l : List Int} {k : Int} {j : Nat} (h : k = (j : Int)) (hj : j < l.length) : atI (l.map V.int) k = some (.int (l.getD j 0)) := by
  subst h
  refine atI_nat ?_
  rw [List.getElem?_map, List.getD_eq_getElem?_getD, List.getElem?_eq_getElem hj]; rfl
def spDelay (C B WC : Addr) : Sp := fun vs H Q E => ∃ (x p r c : Addr) (segs : List SegD) (n : Nat) (fa sa : Addr) (fs cs : List Int), vs = [.ref x, .int n, .ref fa, .ref sa] ∧ TreeAt C H x p r c segs ∧ ParOk segs ∧ segs.length ≤ 100 ∧ n ≤ segs.length ∧
  H fa = some (.lst (fs.map V.int)) ∧ H sa = some (.lst (cs.map V.int)) ∧ (∀ x ∈ fs, -(2 ^ 64) < x ∧ x < 2 ^ 64) ∧ fs.length ≤ 1000 ∧ cs.length ≤ 1000 ∧
  (fs.length = segs.length → cs.length = segs.length → ∀ H', Ex H H' → Q (.int (delayV segs fs cs n)) H') ∧ (¬ (fs.length = segs.length ∧ cs.length = segs.length) → ∀ H', Ex H H' → E (.ref WC) none H')
theorem sc_WireTree_delay : FnScope ["self", "node", "resistances", "capacitances", "many", "loads", "k"] ["self", "node", "resistances", "capacitances"] (defScope s_WireTree_delay) := ⟨rfl, rfl, rfl, by decide +kernel, rfl, by decide +kernel, by decide +kernel⟩
theorem ok_WireTree_delay {C B WC f0 f1 : Addr} {d0 d1 : FuncData} {f : Addr} {fd : FuncData} (F : Fun K "delay" "WireTree.delay" s_WireTree_delay f fd) (W : Cl_WireTree K mg C) (T : TxtD mg) (UW : ExcT K mg "WrongCount" WC)
    (M_WireTree_check_node : Meth K C "_check_node" f0) (G_WireTree_check_node : FnOk P w K mg base (L2.CX P w) 1 f0 d0 ["self", "node"] (spCheck C B)) (b_WireTree_check_node : Binds K d0 ["self", "node"] [])
    (M_WireTree_path : Meth K C "path" f1) (G_WireTree_path : FnOk P w K mg base (L2.CX P w) 2 f1 d1 ["self", "node"] (spPath C B)) (b_WireTree_path : Binds K d1 ["self", "node"] []) : FnOk P w K mg base (L2.CX P w) 3 f fd ["self", "node", "resistances", "capacitances"] (spDelay C B WC) := by
  have c_WireTree := W.cl
  refine F.okX sc_WireTree_delay (fun vs H Q E h => ?_) (fun cdv A outer s H vs Q E hr h => ?_)
  · obtain ⟨x, p, r, c, segs, n, fa, sa, fs, cs, rfl, _⟩ := h
    rfl
  · obtain ⟨x, p, r, c, segs, n, fa, sa, fs, cs, rfl, hT, hPar, hsl, hn, hfa, hsa, hfb, hf1, hc1, q1, q2⟩ := h
    obtain ⟨⟨dx, h1⟩, h2, _, _⟩ := id hT
    have hlen : ((parL segs).map V.int).length = segs.length + 1 := by rw [List.length_map]; unfold parL; rw [List.length_cons, List.length_map]
    have eM : ((segs.length + 1 : Nat) : Int) - 1 = (segs.length : Int) := by omega
    have no : ∀ m : Str, ¬ m = "_capacitances" → ¬ m = "_resistances" → ¬ m = "_parents" → (tfl p r c).lookup m = none := fun m a b d => tfl_no _ _ _ a b d
    refine ⟨_, (pss_cons (ps_expr (pe_meth (pv 0) c_WireTree M_WireTree_check_node G_WireTree_check_node (hr.mono (by omega)) b_WireTree_check_node .nil (passes_call (takes_of rfl rfl rfl rfl) fun _ _ _ _ h => h) (pa_cons (pv 1) pa_nil)))
    (pss_cons (ps_set (i := 4) sc_WireTree_delay.nd rfl (.inl rfl) (pe_op op_sub (pe_callB call_len_seq (by rfl) T.len (by decide +kernel) (pa_cons (pe_fld (pv 0) rfl) pa_nil)) pe_int))
    (pss_cut (ps_if (PW.pt (pw_or (pt_cmpR op_ne (pe_callB call_len_seq (by rfl) T.len (by decide +kernel) (pa_cons (pv 2) pa_nil)) (pv 4) (nomark _)) (pw_or1 (pt_cmpR op_ne (pe_callB call_len_seq (by rfl) T.len (by decide +kernel) (pa_cons (pv 3) pa_nil)) (pv 4) (nomark _)))))
      (pss_one (ps_raise rfl (takes_of rfl rfl rfl rfl) (pmk_ownA PySem.F.excBase_ValueError UW.xP UW.gC UW.kC (raises_own UW.bC UW.tC) rfl (pa_cons pe_str pa_nil))))
      pss_nil)
    (pss_cons (ps_set (i := 5) sc_WireTree_delay.nd rfl (.inr rfl) (pe_lst (pa_cons pe_int (_root_.StX.pa_star (pv 3) pa_nil))))
    (pss_cons (ps_for (passes_of rfl) rfl (pi_range3 rfl T.range (pa_cons (pv 4) (pa_cons pe_int (pa_cons (pe_un un_neg pe_int) pa_nil)))) (pg_name (i := 6) sc_WireTree_delay.nd rfl (.inl rfl))
      (pss_one (ps_augS (pv 5) (pe_ix ix_list (pe_fld (pv 0) rfl) (pv 6) (fun _ _ => rfl)) get_list (pe_ix ix_list (pv 5) (pv 6) (fun _ _ => rfl)) ip_add set_list)))
    (pss_one (ps_ret (pe_callB (cr_sum rfl) (by rfl) T.sum (by decide +kernel) (pa_cons (pe_lc (own := [("k", 6)]) (g := gName 6) (tt := tYes) rfl sc_WireTree_delay.nd (pi_list (pe_slice sl_list (pe_meth (pv 0) c_WireTree M_WireTree_path G_WireTree_path (hr.mono (by omega)) b_WireTree_path .nil passX0 (pa_cons (pv 1) pa_nil)) (po_some pe_int) po_none)) (blkOk_by (N := ["self", "node", "resistances", "capacitances", "many", "loads", "k"]) (sc := defScope s_WireTree_delay) (own := [("k", 6)]) (by decide +kernel)) (fun _ _ _ _ _ => (pg_name (i := 6) sc_WireTree_delay.nd rfl (.inl rfl))) (fun _ _ _ _ _ => pts_nil) (fun _ _ _ _ _ => (pe_op op_mul (pe_ix (kIxL (K := K) rfl) (pv 2) (pe_op op_sub (pv 6) pe_int) (fun _ _ => rfl)) (pe_ix (kIxL (K := K) rfl) (pv 5) (pv 6) (fun _ _ => rfl))))) pa_nil))))))))), ?_⟩
    refine ⟨_, rfl, x, dx, _, rfl, h1, no "_check_node" (by decide +kernel) (by decide +kernel) (by decide +kernel), _, rfl, x, p, r, c, segs, (n : Int), rfl, hT, fun _ => ?_, fun z => absurd ⟨by omega, by omega⟩ z⟩
    refine ⟨_, rfl, x, C, dx, _, _, rfl, h1, W.cl, W.n_parents, tfl_p _ _ _, _, _, rfl, .inl (SqL.of h2), _, _, rfl, rfl, ?_⟩
    rw [hlen]
    dsimp only
    rw [eM]
    refine ⟨fun σ H' => H' = H ∧ fs.length = segs.length ∧ cs.length = segs.length ∧ σ = [some (.ref x), some (.int n), some (.ref fa), some (.ref sa), some (.int (segs.length : Int)), none, none], ?_, ?_⟩
    · have bad : ¬ (fs.length = segs.length ∧ cs.length = segs.length) → E (.ref WC) none H := fun z => q2 z H (.refl _)
      refine ⟨_, rfl, _, _, rfl, .inl (SqL.of hfa), _, rfl, rfl, _, rfl, ite2 (fun c1 => ?_) (fun c1 => ⟨_, rfl, _, _, rfl, .inl (SqL.of hsa), _, rfl, rfl, _, rfl, ite2 (fun c2 => ?_) (fun c2 => ?_)⟩)⟩
      · exact iteT ⟨(by show 1 ≤ sizeLine; decide), bad fun z => by
          rw [List.length_map, z.1] at c1
          simp at c1⟩
      · exact ⟨(by show 1 ≤ sizeLine; decide), bad fun z => by
          rw [List.length_map, z.2] at c2
          simp at c2⟩
      · rw [List.length_map] at c1 c2
        refine ⟨rfl, ?_, ?_, rfl⟩
        · have : ¬ ((!decide (V.int (fs.length : Nat) = V.int (segs.length : Nat))) = true) := c1
          simp at this
          omega
        · have : ¬ ((!decide (V.int (cs.length : Nat) = V.int (segs.length : Nat))) = true) := c2
          simp at this
          omega
    · rintro σ H' ⟨rfl, l1, l2, rfl⟩
      refine ⟨_, rfl, sa, _, rfl, .inr (SqL.of hsa), (by show _ ≤ sizeLine; exact sz_of (by rw [List.append_nil, List.length_cons, List.length_map]; omega)), fun L nL => ?_⟩
      have E1 : Ex H' (upd H' L (.lst (.int 0 :: (cs.map V.int ++ [])))) := Ex.new nL
      have hL1 : upd H' L (.lst (.int 0 :: (cs.map V.int ++ []))) L = some (.lst (((0 : Int) :: cs).map V.int)) := by rw [upd_same, List.append_nil]; rfl
      generalize upd H' L (.lst (.int 0 :: (cs.map V.int ++ []))) = H1 at *
      have eT : ((segs.length : Int) - 0).toNat = segs.length := by omega
      refine ⟨_, rfl, _, rfl, _, _, _, _, rfl, RgC.neg (by omega) (by omega) (by decide) (by decide), for_rangeC (n := ((segs.length : Int) - 0).toNat)
        (fun t σ H2 => Ex H' H2 ∧ t ≤ segs.length ∧ ∃ (ls : List Int) (z : Option V), H2 L = some (.lst (ls.map V.int)) ∧ LInv segs cs (segs.length - t) ls ∧ σ = [some (.ref x), some (.int n), some (.ref fa), some (.ref sa), some (.int (segs.length : Int)), some (.ref L), z])
        ⟨E1, Nat.zero_le _, _, _, hL1, LInv.start l2, rfl⟩ ?_ ?_⟩
      · rintro t σ H2 ht ⟨E2, _, ls, z, hL2, I2, rfl⟩
        rw [eT] at ht
        obtain ⟨j, hj⟩ : ∃ j : Nat, segs.length - t = j + 1 := ⟨segs.length - t - 1, by omega⟩
        have ek : (segs.length : Int) + ((t : Nat) : Int) * (-1) = ((j + 1 : Nat) : Int) := by omega
        rw [ek]
        rw [hj] at I2
        have hj1 : j + 1 ≤ segs.length := by omega
        have hp := par_at hPar (Nat.succ_ne_zero j) hj1
        have hpl : parN segs (j + 1) < j + 1 := par_lt hPar (Nat.succ_ne_zero j) hj1
        have hll := I2.len
        refine ⟨_, rfl, _, rfl, x, C, dx, _, _, rfl, E2 _ _ h1, W.cl, W.n_parents, tfl_p _ _ _, _, rfl, _, _, _, _, rfl, rfl, SqL.of (E2 _ _ h2), at_of (j := j + 1) rfl (by rw [List.getElem?_map, hp]; rfl), L, _, _, _, rfl, rfl, SqL.of hL2, at_int (j := parN segs (j + 1)) rfl (by omega), _, rfl, _, rfl, L, _, _, _, rfl, rfl, SqL.of hL2, at_int (j := j + 1) rfl (by omega), _, _, rfl, rfl, L, _, _, parN segs (j + 1), rfl, rfl, hL2, ixN_nat (by rw [List.length_map]; omega), E2.mut nL, by omega, _, _, by rw [upd_same, ← List.map_set], ?_, rfl⟩
        rw [show segs.length - (t + 1) = j by omega]
        exact I2.step hPar hj1
      · rintro σ H2 ⟨E2, _, ls, z, hL2, I2, rfl⟩
        rw [eT, Nat.sub_self] at I2
        have hT2 := hT.ex E2
        refine ⟨_, rfl, x, dx, _, rfl, E2 _ _ h1, no "path" (by decide +kernel) (by decide +kernel) (by decide +kernel), _, rfl, x, p, r, c, segs, (n : Int), rfl, hT2, hPar, hsl, fun m em hm l H3 E3 nl hl => ?_, fun z => absurd ⟨by omega, by omega⟩ z⟩
        obtain rfl : m = n := by omega
        have hpos : 1 ≤ (natsV (anc segs m).reverse).length := by
          have := List.length_pos_of_mem (anc_self hPar hm)
          unfold natsV; rw [List.length_map, List.length_reverse]; exact this
        have ecut : cutV (natsV (anc segs m).reverse) (some 1) none = natsV ((anc segs m).reverse.drop 1) := by
          have : cutV (natsV (anc segs m).reverse) (some ((1 : Nat) : Int)) none = _ := cutV_tail hpos
          rw [show (1 : Int) = ((1 : Nat) : Int) from rfl, this]
          unfold natsV; rw [List.map_drop]
        have hway := fun k hk => anc_way (k := k) hPar hn hk
        have hwl : ((anc segs m).reverse.drop 1).length ≤ 200 := by
          rw [List.length_drop, List.length_reverse]
          have := anc_len hPar m hn
          omega
        refine ⟨_, rfl, l, _, rfl, SqL.of hl, fun q nq => ?_⟩
        rw [ecut]
        unfold delayV at q1
        generalize (anc segs m).reverse.drop 1 = ws at *
        have E4 : Ex H3 (upd H3 q (.lst (natsV ws))) := Ex.new nq
        have hq : upd H3 q (.lst (natsV ws)) q = some (.lst (natsV ws)) := upd_same
        generalize upd H3 q (.lst (natsV ws)) = H4 at *
        have E24 := E3.trans E4
        refine ⟨q, rfl, ⟨_, SqL.of hq⟩, fun R nR => wk_list (K := K) (a := q) (xs := natsV ws) (fun j H' => Ex H4 H' ∧ H' R = some (.lst (((ws.take j).map fun k => fs.getD (k - 1) 0 * loadV segs cs k).map V.int))) ⟨Ex.new nR, upd_same⟩ (fun j H' _ z => SqL.of (z.1 _ _ hq)) ?_ ?_⟩
        · rintro j y H5 hy ⟨E5, hR⟩
          obtain ⟨k, hk, rfl⟩ : ∃ k, ws[j]? = some k ∧ y = .int (k : Int) := by
            unfold natsV at hy
            rw [List.getElem?_map] at hy
            cases e : ws[j]? with
            | none => rw [e] at hy; cases hy
            | some k => rw [e] at hy; cases hy; exact ⟨k, rfl, rfl⟩
          have hk1 := hway k (List.mem_of_getElem? hk)
          have hj : j < ws.length := (List.getElem?_eq_some_iff.mp hk).1
          have E05 := E2.trans (E24.trans E5)
          refine ⟨rfl, tYes_in ?_⟩
          simp only [wipe, _root_.L2.start, List.map_cons, List.map_nil, List.length_cons, List.length_nil, Nat.reduceAdd, Nat.reduceSub, List.replicate_succ, List.replicate_zero, List.cons_append, List.nil_append, List.set_cons_zero, List.set_cons_succ]
          have hfk : k - 1 < fs.length := by omega
          have hfx := hfb _ (List.getElem_mem (h := hfk))
          have efx : fs.getD (k - 1) 0 = fs[k - 1] := by rw [List.getD_eq_getElem?_getD, List.getElem?_eq_getElem hfk]; rfl
          refine ⟨_, rfl, _, rfl, _, _, rfl, rfl, fa, _, _, _, rfl, rfl, SqL.of (E05 _ _ hfa), at_int (j := k - 1) (by omega) hfk, _, rfl, _, rfl, L, _, _, _, rfl, rfl, SqL.of ((E24.trans E5) _ _ hL2), at_int (j := k) rfl (by rw [I2.len]; omega), _, _, rfl, rfl, .inl (by rw [efx]; exact hfx), _, hR, sz_lt (by rw [List.length_map, List.length_map, List.length_take]; omega), E5.mut nR, ?_⟩
          rw [upd_same, I2.done hPar hk1.2, take_snoc1 hk, List.map_append, List.map_append]; rfl
        rintro H5 ⟨E5, hR⟩
        have eL : (natsV ws).length = ws.length := by unfold natsV; rw [List.length_map]
        rw [eL, List.take_length] at hR
        exact ⟨R, _, rfl, SqL.of hR, q1 l1 l2 H5 (E2.trans (E24.trans E5))⟩
def pe_ (r : Int × Int) (j : Nat) : Int := [r.1, r.2].getD j 0
theorem pe_at {r : Int × Int} {j : Nat} (h : j < 2) : atI [V.int r.1, V.int r.2] ((j : Nat) : Int) = some (.int (pe_ r j)) := at_int (l := [r.1, r.2]) rfl h
def endV (segs : List SegD) (n j : Nat) : Int := delayV segs ((segs.map (·.res)).map fun r => pe_ r j) ((segs.map (·.cap)).map fun r => pe_ r j) n
def spRange (C B : Addr) : Sp := fun vs H Q E => ∃ (x p r c : Addr) (segs : List SegD) (n : Nat) (u : Int), vs = [.ref x, .int n, .int u] ∧ TreeAt C H x p r c segs ∧ ParOk segs ∧ segs.length ≤ 100 ∧ n ≤ segs.length ∧ (∀ s ∈ segs, ∀ j, -(2 ^ 64) < pe_ s.res j ∧ pe_ s.res j < 2 ^ 64) ∧ u ≤ 2 ^ 62 ∧
  (1 ≤ u → ∀ (q : Addr) (H' : Hp), Ex H H' → H q = none → H' q = some (.tup [.int (endV segs n 0 / u), .int (-((-endV segs n 1) / u))]) → Q (.ref q) H') ∧ (u < 1 → ∀ H', Ex H H' → E (.ref B) none H')
theorem sc_WireTree_delay_range : FnScope ["self", "node", "unit", "low", "high", "end", "pair"] ["self", "node", "unit"] (defScope s_WireTree_delay_range) := ⟨rfl, rfl, rfl, by decide +kernel, rfl, by decide +kernel, by decide +kernel⟩
theorem ok_WireTree_delay_range {C B WC f0 f1 : Addr} {d0 d1 : FuncData} {f : Addr} {fd : FuncData} (F : Fun K "delay_range" "WireTree.delay_range" s_WireTree_delay_range f fd) (W : Cl_WireTree K mg C) (UB : ExcT K mg "BadArgument" B)
    (M_WireTree_check_node : Meth K C "_check_node" f0) (G_WireTree_check_node : FnOk P w K mg base (L2.CX P w) 1 f0 d0 ["self", "node"] (spCheck C B)) (b_WireTree_check_node : Binds K d0 ["self", "node"] [])
    (M_WireTree_delay : Meth K C "delay" f1) (G_WireTree_delay : FnOk P w K mg base (L2.CX P w) 3 f1 d1 ["self", "node", "resistances", "capacitances"] (spDelay C B WC)) (b_WireTree_delay : Binds K d1 ["self", "node", "resistances", "capacitances"] []) : FnOk P w K mg base (L2.CX P w) 4 f fd ["self", "node", "unit"] (spRange C B) := by
  have c_WireTree := W.cl
  refine F.okX sc_WireTree_delay_range (fun vs H Q E h => ?_) (fun cdv A outer s H vs Q E hr h => ?_)
  · obtain ⟨x, p, r, c, segs, n, u, rfl, _⟩ := h
    rfl
  · obtain ⟨x, p, r, c, segs, n, u, rfl, hT, hPar, hsl, hn, hb, hu, q1, q2⟩ := h
    obtain ⟨⟨dx, h1⟩, h2, ⟨rl, hrl, hra⟩, ⟨cl, hcl, hca⟩⟩ := id hT
    have no : ∀ m : Str, ¬ m = "_capacitances" → ¬ m = "_resistances" → ¬ m = "_parents" → (tfl p r c).lookup m = none := fun m a b d => tfl_no _ _ _ a b d
    refine ⟨_, (pss_cons (ps_expr (pe_meth (pv 0) c_WireTree M_WireTree_check_node G_WireTree_check_node (hr.mono (by omega)) b_WireTree_check_node .nil (passes_call (takes_of rfl rfl rfl rfl) fun _ _ _ _ h => h) (pa_cons (pv 1) pa_nil)))
    (pss_cons (ps_if (pt_cmpR op_lt (pv 2) pe_int (nomark _))
      (pss_one (ps_raise rfl (takes_of rfl rfl rfl rfl) (pmk_ownA PySem.F.excBase_ValueError UB.xP UB.gC UB.kC (raises_own UB.bC UB.tC) rfl (pa_cons pe_str pa_nil))))
      pss_nil)
    (pss_cons (ps_asg (pe_lc (own := [("end", 5)]) (g := gName 5) (tt := tYes) rfl sc_WireTree_delay_range.nd (pi_tup (pe_tup (pa_cons pe_int (pa_cons pe_int pa_nil)))) (blkOk_by (N := ["self", "node", "unit", "low", "high", "end", "pair"]) (sc := defScope s_WireTree_delay_range) (own := [("end", 5)]) (by decide +kernel)) (fun _ _ _ _ _ => (pg_name (i := 5) sc_WireTree_delay_range.nd rfl (.inr rfl))) (fun _ _ _ _ _ => pts_nil) (fun _ _ _ _ _ => (pe_meth (pv 0) c_WireTree M_WireTree_delay G_WireTree_delay (hr.mono (by omega)) b_WireTree_delay .nil passX0 (pa_cons (pv 1) (pa_cons (pe_lc (own := [("pair", 6)]) (g := gName 6) (tt := tYes) rfl sc_WireTree_delay_range.nd (kPiL (K := K) rfl (kFld (K := K) rfl (pv 0) rfl)) (blkOk_by (own := [("pair", 6)]) (by kernel_rfl)) (fun _ _ _ _ _ => (pg_name (i := 6) sc_WireTree_delay_range.nd rfl (.inl rfl))) (fun _ _ _ _ _ => pts_nil) (fun _ _ _ _ _ => (pe_ix (kIxT (K := K) rfl) (pv 6) (pv 5) (fun _ _ => rfl)))) (pa_cons (pe_lc (own := [("pair", 6)]) (g := gName 6) (tt := tYes) rfl sc_WireTree_delay_range.nd (kPiL (K := K) rfl (kFld (K := K) rfl (pv 0) rfl)) (blkOk_by (own := [("pair", 6)]) (by kernel_rfl)) (fun _ _ _ _ _ => (pg_name (i := 6) sc_WireTree_delay_range.nd rfl (.inl rfl))) (fun _ _ _ _ _ => pts_nil) (fun _ _ _ _ _ => (pe_ix (kIxT (K := K) rfl) (pv 6) (pv 5) (fun _ _ => rfl)))) pa_nil)))))) (pg_unl rfl (pgs_cons (pg_name (i := 3) sc_WireTree_delay_range.nd rfl (.inl rfl)) (pgs_cons (pg_name (i := 4) sc_WireTree_delay_range.nd rfl (.inl rfl)) pgs_nil))))
    (pss_one (ps_ret (pe_tup (pa_cons (pe_op op_fdivW (pv 3) (pv 2)) (pa_cons (pe_un un_neg (pe_op op_fdivW (pe_un un_neg (pv 4)) (pv 2))) pa_nil)))))))), ?_⟩
    refine ⟨_, rfl, x, dx, _, rfl, h1, no "_check_node" (by decide +kernel) (by decide +kernel) (by decide +kernel), _, rfl, x, p, r, c, segs, (n : Int), rfl, hT, fun _ => ?_, fun z => absurd ⟨by omega, by omega⟩ z⟩
    refine ⟨_, rfl, _, _, rfl, rfl, _, rfl, ite2 (fun c1 => ⟨(by show 1 ≤ sizeLine; decide), q2 (of_decide_eq_true c1) H (.refl _)⟩) (fun c1 => ?_)⟩
    have hu1 : 1 ≤ u := by
      have : ¬ u < 1 := fun z => c1 (decide_eq_true z)
      omega
    have hdiv : CDivW 0 u := ⟨by omega, log2_small (by omega) (by omega)⟩
    refine ⟨(by show 2 ≤ sizeLine; decide), fun tt ntt => ?_⟩
    have E1 : Ex H (upd H tt (.tup [.int 0, .int 1])) := Ex.new ntt
    have ht1 : upd H tt (.tup [.int 0, .int 1]) tt = some (.tup ([(0 : Int), 1].map V.int)) := upd_same
    generalize upd H tt (.tup [.int 0, .int 1]) = H1 at *
    refine ⟨tt, rfl, ⟨_, SqT.of ht1⟩, fun R nR => wk_tup (K := K) (a := tt) (xs := [(0 : Int), 1].map V.int) (fun j H' => Ex H1 H' ∧ H' R = some (.lst (([endV segs n 0, endV segs n 1].take j).map V.int))) ⟨Ex.new nR, upd_same⟩ (fun j H' _ z => SqT.of (z.1 _ _ ht1)) ?_ ?_⟩
    · rintro j y H2 hy ⟨E2, hR⟩
      have hj : j < 2 := (List.getElem?_eq_some_iff.mp hy).1
      obtain rfl : y = .int ((j : Nat) : Int) := by
        obtain rfl | rfl : j = 0 ∨ j = 1 := by omega
        · cases hy; rfl
        · cases hy; rfl
      have hV : [endV segs n 0, endV segs n 1][j]? = some (endV segs n j) := by
        obtain rfl | rfl : j = 0 ∨ j = 1 := by omega
        · rfl
        · rfl
      have E02 := E1.trans E2
      refine ⟨rfl, tYes_in ?_⟩
      simp only [wipe, _root_.L2.start, List.map_cons, List.map_nil, List.length_cons, List.length_nil, Nat.reduceAdd, Nat.reduceSub, List.replicate_succ, List.replicate_zero, List.cons_append, List.nil_append, List.set_cons_zero, List.set_cons_succ]
      refine ⟨_, rfl, x, dx, _, rfl, E02 _ _ h1, no "delay" (by decide +kernel) (by decide +kernel) (by decide +kernel), _, rfl, _, rfl, x, C, dx, _, _, rfl, E02 _ _ h1, W.cl, W.n_resistances, tfl_r _ _ _, r, rfl, ⟨_, SqL.of (E02 _ _ hrl)⟩, fun R1 nR1 => wk_list (K := K) (a := r) (xs := rl.map V.ref) (fun i H' => Ex H2 H' ∧ H' R1 = some (.lst ((((segs.map (·.res)).take i).map fun r => pe_ r j).map V.int))) ⟨Ex.new nR1, upd_same⟩ (fun i H' _ z => SqL.of ((E02.trans z.1) _ _ hrl)) ?_ ?_⟩
      · rintro i y H3 hy ⟨E3, hR1⟩
        obtain ⟨b, hb', rfl⟩ := refs_get hy
        obtain ⟨g, hg, s1⟩ := hra.at_ hb'
        have hi : i < (segs.map (·.res)).length := (List.getElem?_eq_some_iff.mp hg).1
        rw [List.length_map] at hi
        refine ⟨rfl, tYes_in ?_⟩
        simp only [wipe, _root_.L2.start, List.map_cons, List.map_nil, List.length_cons, List.length_nil, Nat.reduceAdd, Nat.reduceSub, List.replicate_succ, List.replicate_zero, List.cons_append, List.nil_append, List.set_cons_zero, List.set_cons_succ]
        refine ⟨_, rfl, _, rfl, b, _, _, _, rfl, rfl, SqT.of ((E02.trans E3) _ _ s1), pe_at hj, _, hR1, sz_lt (by rw [List.length_map, List.length_map, List.length_take, List.length_map]; omega), E3.mut nR1, ?_⟩
        rw [upd_same, take_snoc1 hg, List.map_append, List.map_append]; rfl
      rintro H3 ⟨E3, hR1⟩
      have erl : (rl.map V.ref).length = (segs.map (·.res)).length := by rw [List.length_map, hra.1]
      rw [erl, List.take_length] at hR1
      have E03 := E02.trans E3
      refine ⟨_, rfl, x, C, dx, _, _, rfl, E03 _ _ h1, W.cl, W.n_capacitances, tfl_c _ _ _, c, rfl, ⟨_, SqL.of (E03 _ _ hcl)⟩, fun R2 nR2 => wk_list (K := K) (a := c) (xs := cl.map V.ref) (fun i H' => Ex H3 H' ∧ H' R2 = some (.lst ((((segs.map (·.cap)).take i).map fun r => pe_ r j).map V.int))) ⟨Ex.new nR2, upd_same⟩ (fun i H' _ z => SqL.of ((E03.trans z.1) _ _ hcl)) ?_ ?_⟩
      · rintro i y H4 hy ⟨E4, hR2⟩
        obtain ⟨b, hb', rfl⟩ := refs_get hy
        obtain ⟨g, hg, s1⟩ := hca.at_ hb'
        have hi : i < (segs.map (·.cap)).length := (List.getElem?_eq_some_iff.mp hg).1
        rw [List.length_map] at hi
        refine ⟨rfl, tYes_in ?_⟩
        simp only [wipe, _root_.L2.start, List.map_cons, List.map_nil, List.length_cons, List.length_nil, Nat.reduceAdd, Nat.reduceSub, List.replicate_succ, List.replicate_zero, List.cons_append, List.nil_append, List.set_cons_zero, List.set_cons_succ]
        refine ⟨_, rfl, _, rfl, b, _, _, _, rfl, rfl, SqT.of ((E03.trans E4) _ _ s1), pe_at hj, _, hR2, sz_lt (by rw [List.length_map, List.length_map, List.length_take, List.length_map]; omega), E4.mut nR2, ?_⟩
        rw [upd_same, take_snoc1 hg, List.map_append, List.map_append]; rfl
      rintro H4 ⟨E4, hR2⟩
      have ecl : (cl.map V.ref).length = (segs.map (·.cap)).length := by rw [List.length_map, hca.1]
      rw [ecl, List.take_length] at hR2
      have E04 := E03.trans E4
      refine ⟨x, p, r, c, segs, n, R1, R2, _, _, rfl, hT.ex E04, hPar, hsl, hn, E4 _ _ hR1, hR2, fun z hz => ?_, by rw [List.length_map, List.length_map]; omega, by rw [List.length_map, List.length_map]; omega, fun _ _ H5 E5 => ?_, fun z => absurd ⟨by rw [List.length_map, List.length_map], by rw [List.length_map, List.length_map]⟩ z⟩
      · obtain ⟨g, hg, rfl⟩ := List.mem_map.mp hz
        obtain ⟨sg, hsg, rfl⟩ := List.mem_map.mp hg
        exact hb sg hsg j
      · have E25 := E3.trans (E4.trans E5)
        refine ⟨_, E25 _ _ hR, sz_lt (by rw [List.length_map, List.length_take]; show min j 2 < _; omega), (E2.trans E25).mut nR, ?_⟩
        rw [upd_same, take_snoc1 hV, List.map_append]; rfl
    rintro H2 ⟨E2, hR⟩
    refine ⟨R, _, rfl, SqL.of hR, rfl, _, _, rfl, _, _, rfl, rfl, ?_⟩
    simp only [wipe, _root_.L2.start, List.map_cons, List.map_nil, List.length_cons, List.length_nil, Nat.reduceAdd, Nat.reduceSub, List.replicate_succ, List.replicate_zero, List.cons_append, List.nil_append, List.set_cons_zero, List.set_cons_succ]
    refine ⟨_, rfl, _, rfl, _, _, rfl, rfl, hdiv, _, rfl, _, rfl, _, rfl, _, _, rfl, rfl, hdiv, _, rfl, (by show 2 ≤ sizeLine; decide), fun q nq => q1 hu1 q _ (E1.trans (E2.trans (Ex.new nq))) (fresh_back (E1.trans E2) nq) upd_same⟩
end
end G
namespace G
open PySem PySem.Spec PyProof.Rows L2 Evl TL
section
variable {P : Program} {w : World} {K : PySem.W.Frag} {mg : Str → Option Value} {base : Heap}
theorem SegAt.te {H H' : Hp} {a : Addr} {s : SegD} (e : ∀ q xs, H q = some (.tup xs) → H' q = some (.tup xs)) (h : SegAt H a s) : SegAt H' a s := by
  obtain ⟨ra, ca, h1, h2, h3⟩ := h
  exact ⟨ra, ca, e _ _ h1, e _ _ h2, e _ _ h3⟩
theorem px_tup {p a : Addr} {H H' : Hp} (x : Px p a H H') : ∀ q xs, H q = some (.tup xs) → H' q = some (.tup xs) := fun q xs h => by
  obtain ⟨_, _, _, _, _, e, _⟩ := x.was
  exact x.at_ (b := q) (o := .tup xs) (by rw [hid_ne (ne_of h e (by intro z; cases z))]; exact h)
theorem mut_tup {H : Hp} {l : Addr} {xs : List V} {o : HO} (h : H l = some (.lst xs)) : ∀ q ys, H q = some (.tup ys) → upd H l o q = some (.tup ys) := fun q ys hq => by
  rw [upd_ne (ne_of hq h (by intro z; cases z))]; exact hq
def spSegs : Sp := fun vs H Q _ => ∃ (p a : Addr) (most : Nat), vs = [.ref p, .int most] ∧ most ≤ 50 ∧ PoolOk p a H ∧ ∀ (l : Addr) (as : List Addr) (segs : List SegD) (H' : Hp), Px p a H H' → H l = none → hid p H' l = some (.lst (as.map V.ref)) → All2 (SegAt H') as segs → segs.length ≤ most → ParOk segs → RngS segs → (∀ s ∈ segs, s.res.2 ≤ 10 ^ 13 ∧ s.cap.2 ≤ 100) → Q (.ref l) H'
theorem sc_law_segments : FnScope ["pool", "most", "segments", "k", "low", "small", "parent"] ["pool", "most"] (defScope s_law_segments) := ⟨rfl, rfl, rfl, by decide +kernel, rfl, by decide +kernel, by decide +kernel⟩
theorem ok_law_segments (D : Dfd K mg "_law_segments" s_law_segments ["pool", "most"]) (T : TxtS mg) (C1 : Has P w K mg base 2 "_law_draw" ["pool", "many"] spDrawX) : Has P w K mg base 3 "_law_segments" ["pool", "most"] spSegs := by
  obtain ⟨f_law_draw, d_law_draw, G_law_draw, g_law_draw, k_law_draw, b_law_draw⟩ := C1
  refine D.has fun f fd F => F.ok sc_law_segments (fun vs H Q E h => ?_) (fun cdv A outer s H vs Q E hr h => ?_)
  · obtain ⟨p, a, most, rfl, _⟩ := h
    rfl
  · obtain ⟨p, a, most, rfl, hm, hp, q⟩ := h
    refine ⟨_, (pss_cons (ps_set (i := 2) sc_law_segments.nd rfl (.inl rfl) (pe_lst pa_nil))
    (pss_cons (ps_for PassesOwn.never rfl (pi_range1 rfl T.range (pa_cons (pe_call G_law_draw (hr.mono (by omega)) (by rfl) g_law_draw k_law_draw b_law_draw .nil pass0 (pa_cons (pv 0) (pa_cons (pe_op op_add (pv 1) pe_int) pa_nil))) pa_nil)) (pg_name (i := 3) sc_law_segments.nd rfl (.inl rfl))
      (pss_cons (ps_set (i := 4) sc_law_segments.nd rfl (.inl rfl) (pe_ix ix_list (pe_lst (pa_cons (pe_call G_law_draw (hr.mono (by omega)) (by rfl) g_law_draw k_law_draw b_law_draw .nil pass0 (pa_cons (pv 0) (pa_cons pe_int pa_nil))) (pa_cons (pe_call G_law_draw (hr.mono (by omega)) (by rfl) g_law_draw k_law_draw b_law_draw .nil pass0 (pa_cons (pv 0) (pa_cons (pe_op op_pow pe_int pe_int) pa_nil))) pa_nil))) (pe_callTy call_int1 (by rfl) T.int (by decide +kernel) (pa_cons (pe_cmpR op_eq (pe_call G_law_draw (hr.mono (by omega)) (by rfl) g_law_draw k_law_draw b_law_draw .nil pass0 (pa_cons (pv 0) (pa_cons pe_int pa_nil))) pe_int (nomark _)) pa_nil)) (fun _ _ => rfl)))
      (pss_cons (ps_set (i := 5) sc_law_segments.nd rfl (.inl rfl) (pe_call G_law_draw (hr.mono (by omega)) (by rfl) g_law_draw k_law_draw b_law_draw .nil pass0 (pa_cons (pv 0) (pa_cons pe_int pa_nil))))
      (pss_cons (ps_set (i := 6) sc_law_segments.nd rfl (.inl rfl) (pe_ix ix_list (pe_lst (pa_cons (pv 3) (pa_cons (pe_call G_law_draw (hr.mono (by omega)) (by rfl) g_law_draw k_law_draw b_law_draw .nil pass0 (pa_cons (pv 0) (pa_cons (pe_op op_add (pv 3) pe_int) pa_nil))) pa_nil))) (pe_call G_law_draw (hr.mono (by omega)) (by rfl) g_law_draw k_law_draw b_law_draw .nil pass0 (pa_cons (pv 0) (pa_cons pe_int pa_nil))) (fun _ _ => rfl)))
      (pss_one (ps_expr (pe_bm PySem.F.plainAttrs_list PySem.F.slot_list_append PySem.F.type_list_append mt_append (pv 2) (pa_cons (pe_tup (pa_cons (pv 6) (pa_cons (pe_tup (pa_cons (pv 4) (pa_cons (pe_op op_add (pv 4) (pe_call G_law_draw (hr.mono (by omega)) (by rfl) g_law_draw k_law_draw b_law_draw .nil pass0 (pa_cons (pv 0) (pa_cons pe_int pa_nil)))) pa_nil))) (pa_cons (pe_tup (pa_cons (pv 5) (pa_cons (pe_op op_add (pv 5) (pe_call G_law_draw (hr.mono (by omega)) (by rfl) g_law_draw k_law_draw b_law_draw .nil pass0 (pa_cons (pv 0) (pa_cons pe_int pa_nil)))) pa_nil))) pa_nil)))) pa_nil))))))))
    (pss_one (ps_ret (pv 2))))), ?_⟩
    refine ⟨Nat.zero_le _, fun l nl => ?_⟩
    have X0 := (Px.refl hp).new (o := .lst []) nl
    have hpl := hp.ne nl
    have hl0 : hid p (upd H l (.lst [])) l = some (.lst []) := by rw [hid_ne hpl]; exact upd_same
    generalize upd H l (.lst []) = H0 at *
    refine ⟨_, rfl, _, rfl, _, _, rfl, rfl, p, a, (most : Int) + 1, rfl, by omega, by omega, X0.pool, fun v2 H2 h2 X2 _ => ⟨v2, rfl, by omega, by omega, for_range (n := ((v2 : Nat) : Int).toNat)
      (fun i σ H' => Px p a H H' ∧ ∃ (as : List Addr) (segs : List SegD) (z3 z4 z5 z6 : Option V), hid p H' l = some (.lst (as.map V.ref)) ∧ All2 (SegAt H') as segs ∧ segs.length = i ∧ ParOk segs ∧ RngS segs ∧ (∀ s ∈ segs, s.res.2 ≤ 10 ^ 13 ∧ s.cap.2 ≤ 100) ∧ σ = [some (.ref p), some (.int most), some (.ref l), z3, z4, z5, z6])
      ⟨X0.trans X2, [], [], _, _, _, _, X2.get hl0, .nil, rfl, (fun _ _ h => nomatch h), (fun _ h => nomatch h), (fun _ h => nomatch h), rfl⟩ ?_ ?_⟩⟩
    · rintro i σ H3 hi ⟨X3, as, segs, z3, z4, z5, z6, hl, hA, hlen, hPar, hRng, hBig, rfl⟩
      rw [Int.toNat_natCast] at hi
      -- low
      refine tif_by (tt := tOp _ _ _) (fun z H' => Px p a H3 H' ∧ ∃ lo : Nat, z = .int (lo : Int) ∧ lo ≤ 10 ^ 12) (fun Q' k => ?_) ?_
      · refine ⟨_, rfl, p, a, 6, rfl, by decide, by decide, X3.pool, fun c1 H4 hc1 X4 _ => ⟨_, rfl, _, _, rfl, rfl, ⟨by decide, by decide, by decide⟩, p, a, 10 ^ 12, rfl, by decide, by decide, X4.pool, fun c2 H5 hc2 X5 _ => ⟨(by show 2 ≤ sizeLine; decide), fun m nm => ⟨_, rfl, p, a, 5, rfl, by decide, by decide, (X5.new nm).pool, fun v H6 hv X6 kp => ⟨rfl, .inr ⟨_, rfl, ?_⟩⟩⟩⟩⟩⟩
        have hm6 : H6 m = some (.lst [.int c1, .int c2]) := by rw [kp _ (X5.pool.ne nm)]; exact upd_same
        have X36 := X4.trans ((X5.new nm).trans X6)
        cases decide (V.int (v : Int) = V.int 4) with
        | true => exact ⟨_, _, _, _, rfl, rfl, SqL.of hm6, at_of (j := 1) rfl rfl, k _ _ ⟨X36, c2, rfl, by omega⟩⟩
        | false => exact ⟨_, _, _, _, rfl, rfl, SqL.of hm6, at_of (j := 0) rfl rfl, k _ _ ⟨X36, c1, rfl, by omega⟩⟩
      rintro _ H4 ⟨X4, lo, rfl, hlo⟩
      -- small
      refine ⟨_, rfl, p, a, 7, rfl, by decide, by decide, X4.pool, fun sm H5 hsm X5 _ => ?_⟩
      have X35 := X4.trans X5
      -- parent
      dsimp only [gName, tSeq, tAsg]
      refine tif_by (tt := tOp _ _ _) (fun z H' => Px p a H3 H' ∧ ∃ pr : Nat, z = .int (pr : Int) ∧ pr ≤ i) (fun Q' k => ?_) ?_
      · refine ⟨_, rfl, _, rfl, _, rfl, _, _, rfl, rfl, p, a, ((i : Nat) : Int) + 1, by rw [Int.zero_add]; rfl, by omega, by omega, X35.pool, fun c2 H6 hc2 X6 _ => ⟨(by show 2 ≤ sizeLine; decide), fun m nm => ⟨_, rfl, p, a, 2, rfl, by decide, by decide, (X6.new nm).pool, fun v H7 hv X7 kp => ?_⟩⟩⟩
        have hm7 : H7 m = some (.lst [.int (0 + (i : Int)), .int c2]) := by rw [kp _ (X6.pool.ne nm)]; exact upd_same
        have X37 := X35.trans ((X6.new nm).trans X7)
        obtain rfl | rfl : v = 0 ∨ v = 1 := by omega
        · exact ⟨_, _, _, _, rfl, rfl, SqL.of hm7, at_of (j := 0) rfl rfl, k _ _ ⟨X37, i, by rw [Int.zero_add], Nat.le_refl _⟩⟩
        · exact ⟨_, _, _, _, rfl, rfl, SqL.of hm7, at_of (j := 1) rfl rfl, k _ _ ⟨X37, c2, rfl, by omega⟩⟩
      rintro _ H6 ⟨X6, pr, rfl, hpr⟩
      have hl6 := X6.get hl
      refine ⟨_, rfl, .inl ⟨rfl, _, SqL.of (hid_get hl6)⟩, _, rfl, _, rfl, _, rfl, _, rfl, p, a, 9, rfl, by decide, by decide, X6.pool, fun d1 H7 hd1 X7 _ => ⟨_, _, rfl, rfl, (by show 2 ≤ sizeLine; decide), fun ra nra => ⟨_, rfl, _, rfl, _, rfl, p, a, 4, rfl, by decide, by decide, (X7.new nra).pool, fun d2 H8 hd2 X8 _ => ⟨_, _, rfl, rfl, (by show 2 ≤ sizeLine; decide), fun ca nca => ⟨(by show 3 ≤ sizeLine; decide), fun sg nsg => ?_⟩⟩⟩⟩⟩
      have X78 := (X7.new (o := .tup [.int lo, .int ((lo : Int) + d1)]) nra).trans X8
      have X9 := (X78.new (o := .tup [.int sm, .int ((sm : Int) + d2)]) nca).new (o := .tup [.int pr, .ref ra, .ref ca]) nsg
      have hra : upd (upd H8 ca (.tup [.int sm, .int ((sm : Int) + d2)])) sg (.tup [.int pr, .ref ra, .ref ca]) ra = some (.tup [.int lo, .int ((lo : Int) + d1)]) := Ex.new nsg _ _ (Ex.new nca _ _ (px_tup X8 _ _ upd_same))
      have hca : upd (upd H8 ca (.tup [.int sm, .int ((sm : Int) + d2)])) sg (.tup [.int pr, .ref ra, .ref ca]) ca = some (.tup [.int sm, .int ((sm : Int) + d2)]) := Ex.new nsg _ _ upd_same
      have hsg : upd (upd H8 ca (.tup [.int sm, .int ((sm : Int) + d2)])) sg (.tup [.int pr, .ref ra, .ref ca]) sg = some (.tup [.int pr, .ref ra, .ref ca]) := upd_same
      generalize upd (upd H8 ca (.tup [.int sm, .int ((sm : Int) + d2)])) sg (.tup [.int pr, .ref ra, .ref ca]) = H9 at *
      have hl9 := X9.get hl6
      have hl9' := hid_get hl9
      refine ⟨l, as.map V.ref, .ref sg, rfl, rfl, hl9', sz_lt (by rw [List.length_map, hA.1]; omega), (X3.trans (X6.trans X9)).mut nl, as ++ [sg], segs ++ [⟨(pr : Int), ((lo : Int), (lo : Int) + d1), ((sm : Int), (sm : Int) + d2)⟩], some (.int (0 + (i : Int))), some (.int (lo : Int)), some (.int (sm : Int)), some (.int (pr : Int)), ?_, ?_, ?_, ?_, ?_, ?_, rfl⟩
      · rw [hid_ne hpl, upd_same, List.map_append]; rfl
      · exact (hA.imp fun _ _ z => (z.te (px_tup (X6.trans X9))).te (mut_tup hl9')).snoc ⟨ra, ca, mut_tup hl9' _ _ hsg, mut_tup hl9' _ _ hra, mut_tup hl9' _ _ hca⟩
      · rw [List.length_append, hlen]; rfl
      · intro k s' h
        by_cases hk : k < segs.length
        · rw [List.getElem?_append_left hk] at h
          exact hPar k s' h
        · have hki : k = segs.length := by
            have := (List.getElem?_eq_some_iff.mp h).1
            rw [List.length_append] at this
            have : k < segs.length + 1 := this
            omega
          rw [List.getElem?_append_right (by omega), hki, Nat.sub_self] at h
          cases h
          exact ⟨by show (0 : Int) ≤ pr; omega, by show (pr : Int) ≤ k; omega⟩
      · intro s' h
        rcases List.mem_append.mp h with z | z
        · exact hRng s' z
        · rw [List.mem_singleton.mp z]
          exact ⟨⟨by show (0 : Int) ≤ lo; omega, by show (lo : Int) ≤ lo + d1; omega⟩, ⟨by show (0 : Int) ≤ sm; omega, by show (sm : Int) ≤ sm + d2; omega⟩⟩
      · intro s' h
        rcases List.mem_append.mp h with z | z
        · exact hBig s' z
        · rw [List.mem_singleton.mp z]
          exact ⟨by show (lo : Int) + d1 ≤ 10 ^ 13; omega, by show (sm : Int) + d2 ≤ 100; omega⟩
    · rintro σ H3 ⟨X3, as, segs, z3, z4, z5, z6, hl, hA, hlen, hPar, hRng, hBig, rfl⟩
      rw [Int.toNat_natCast] at hlen
      exact ⟨_, rfl, q l as segs H3 X3 nl hl hA (by omega) hPar hRng hBig⟩
def spLPath : Sp := fun vs H Q _ => ∃ (l : Addr) (as : List Addr) (segs : List SegD) (m : Nat), vs = [.ref l, .int m] ∧ H l = some (.lst (as.map V.ref)) ∧ All2 (SegAt H) as segs ∧ ParOk segs ∧ segs.length ≤ 100 ∧ m ≤ segs.length ∧ ∀ (q : Addr) (H' : Hp), Ex H H' → H q = none → H' q = some (.lst (natsV (anc segs m).reverse)) → Q (.ref q) H'
theorem sc_law_path : FnScope ["segments", "node", "found", "k"] ["segments", "node"] (defScope s_law_path) := ⟨rfl, rfl, rfl, by decide +kernel, rfl, by decide +kernel, by decide +kernel⟩
theorem ok_law_path (D : Dfd K mg "_law_path" s_law_path ["segments", "node"]) (T : TxtS mg) : Has P w K mg base 1 "_law_path" ["segments", "node"] spLPath := by
  refine D.has fun f fd F => F.ok sc_law_path (fun vs H Q E h => ?_) (fun cdv A outer s H vs Q E hr h => ?_)
  · obtain ⟨l, as, segs, m, rfl, _⟩ := h
    rfl
  · obtain ⟨l, as, segs, m0, rfl, hl, hA, hPar, hsl, hm0, q⟩ := h
    refine ⟨_, (pss_cons (ps_set (i := 2) sc_law_path.nd rfl (.inl rfl) (pe_lst (pa_cons (pv 1) pa_nil)))
    (pss_cons (ps_for PassesOwn.never rfl (pi_range1 rfl T.range (pa_cons (pe_callB call_len_seq (by rfl) T.len (by decide +kernel) (pa_cons (pv 0) pa_nil)) pa_nil)) (pg_name (i := 3) sc_law_path.nd rfl (.inl rfl))
      (pss_one (ps_if (pt_cmpR op_gt (pe_ix ix_list (pv 2) pe_int (fun _ _ => rfl)) pe_int (nomark _))
        (pss_one (ps_set (i := 2) sc_law_path.nd rfl (.inl rfl) (pe_op op_cat (pe_lst (pa_cons (pe_ix ix_tup (pe_ix ix_list (pv 0) (pe_op op_sub (pe_ix ix_list (pv 2) pe_int (fun _ _ => rfl)) pe_int) (fun _ _ => rfl)) pe_int (fun _ _ => rfl)) pa_nil)) (pv 2))))
        pss_nil)))
    (pss_one (ps_ret (pv 2))))), ?_⟩
    have lA := hA.1
    refine ⟨_, rfl, (by show 1 ≤ sizeLine; decide), fun f0 nf0 => ?_⟩
    refine ⟨_, rfl, _, _, rfl, .inl (SqL.of (Ex.new nf0 _ _ hl)), _, rfl, by omega, by rw [List.length_map]; omega, for_range (n := (((as.map V.ref).length : Nat) : Int).toNat)
      (fun i σ H' => Ex H H' ∧ ∃ (fa : Addr) (h : Nat) (rest : List Nat) (z : Option V), H fa = none ∧ H' fa = some (.lst (natsV (h :: rest))) ∧ h ≤ segs.length ∧ (h = 0 ∨ h + i ≤ m0) ∧ (anc segs h).reverse ++ rest = (anc segs m0).reverse ∧ σ = [some (.ref l), some (.int (m0 : Int)), some (.ref fa), z])
      ⟨Ex.new nf0, f0, m0, [], _, nf0, upd_same, hm0, .inr (by omega), List.append_nil _, rfl⟩ ?_ ?_⟩
    · rintro i σ H1 hi ⟨E1, fa, h, rest, z, nfa, hfa, hh, hdec, hch, rfl⟩
      have hrl : rest.length ≤ 200 := by
        have h1 := congrArg List.length hch
        rw [List.length_append, List.length_reverse, List.length_reverse] at h1
        have := anc_len hPar m0 hm0
        omega
      refine ⟨_, rfl, _, _, _, _, rfl, rfl, SqL.of hfa, atI_nat (j := 0) rfl, _, _, rfl, rfl, _, rfl, ite2 (fun c1 => ?_) (fun c1 => ?_)⟩
      · have h0 : h ≠ 0 := by have := of_decide_eq_true c1; omega
        have hs : segs[h - 1]? = some (segs[h - 1]'(by omega)) := List.getElem?_eq_getElem (by omega)
        obtain ⟨b, hb, ra, ca, s1, s2, s3⟩ := hA.of hs
        have hpn : (segs[h - 1]'(by omega)).above = ((parN segs h : Nat) : Int) := by
          have := par_at hPar h0 hh
          obtain ⟨k, rfl⟩ : ∃ k, h = k + 1 := ⟨h - 1, by omega⟩
          have e : (parL segs)[k + 1]? = (segs.map fun s : SegD => s.above)[k]? := rfl
          rw [e, List.getElem?_map] at this
          have hs' : segs[k]? = some (segs[k]'(by omega)) := List.getElem?_eq_getElem (by omega)
          rw [hs'] at this
          exact Option.some.inj this
        refine ⟨_, rfl, _, rfl, _, _, _, _, rfl, rfl, SqL.of hfa, atI_nat (j := 0) rfl, _, _, rfl, rfl, _, _, _, _, rfl, rfl, SqL.of (E1 _ _ hl), at_of (j := h - 1) (by omega) (by rw [List.getElem?_map, hb]; rfl), _, _, _, _, rfl, rfl, SqT.of (E1 _ _ s1), atI_nat (j := 0) rfl, (by show 1 ≤ sizeLine; decide), fun m1 nm1 => ?_⟩
        rw [hpn]
        have E2 : Ex H1 (upd H1 m1 (.lst [.int ((parN segs h : Nat) : Int)])) := Ex.new nm1
        have g2 : upd H1 m1 (.lst [.int ((parN segs h : Nat) : Int)]) m1 = some (.lst [.int ((parN segs h : Nat) : Int)]) := upd_same
        generalize upd H1 m1 (.lst [.int ((parN segs h : Nat) : Int)]) = H2 at *
        have hlt := par_lt hPar h0 hh
        refine ⟨_, rfl, m1, fa, _, _, rfl, rfl, g2, E2 _ _ hfa, sz_of (by unfold natsV; simp only [List.length_map, List.length_cons, List.length_nil]; omega), fun f2 nf2 => ⟨E1.trans (E2.trans (Ex.new nf2)), f2, parN segs h, h :: rest, _, fresh_back (E1.trans E2) nf2, upd_same, by omega, ?_, ?_, rfl⟩⟩
        · rcases hdec with z | z <;> omega
        · rw [← hch, anc_step hPar h0 hh, List.reverse_cons, List.append_assoc]; rfl
      · have h0 : h = 0 := by
          have : ¬ (h : Int) > 0 := fun z => c1 (decide_eq_true z)
          omega
        exact ⟨E1, fa, h, rest, _, nfa, hfa, hh, .inl h0, hch, rfl⟩
    · rintro σ H1 ⟨E1, fa, h, rest, z, nfa, hfa, hh, hdec, hch, rfl⟩
      rw [Int.toNat_natCast, List.length_map, lA] at hdec
      have h0 : h = 0 := by omega
      subst h0
      rw [anc_zero] at hch
      refine ⟨_, rfl, q fa H1 E1 nfa ?_⟩
      rw [← hch]; exact hfa
end
end G
namespace G
open PySem PySem.Spec PyProof.Rows L2 Evl TL
theorem it1 {b : Bool} {A B : Prop} (h : b = true) (a : A) : if b = true then A else B := by rw [if_pos h]; exact a
theorem it0 {b : Bool} {A B : Prop} (h : b = false) (a : B) : if b = true then A else B := by rw [if_neg (by rw [h]; decide)]; exact a
theorem inV_nats {k : Nat} {l : List Nat} : inV (.int (k : Int)) (natsV l) = decide (k ∈ l) := by
  unfold inV natsV
  rw [List.any_map, Bool.eq_iff_iff, List.any_eq_true, decide_eq_true_iff]
  constructor
  · rintro ⟨y, hy, h⟩
    have h' : ((y : Int) == (k : Int)) = true := h
    have := eq_of_beq h'
    have : y = k := by omega
    rw [← this]; exact hy
  · intro h
    exact ⟨k, h, (beq_self_eq_true (k : Int) : ((k : Int) == (k : Int)) = true)⟩
theorem flat_nats (l : List Nat) : (natsV l).all flatV = true := by
  rw [List.all_eq_true]
  intro y hy
  obtain ⟨k, _, rfl⟩ := List.mem_map.mp hy
  rfl
section
variable {P : Program} {w : World} {K : PySem.W.Frag} {mg : Str → Option Value} {base : Heap}
def spLDelay : Sp := fun vs H Q _ => ∃ (l : Addr) (as : List Addr) (segs : List SegD) (m : Nat) (fa sa : Addr) (fs cs : List Int), vs = [.ref l, .int m, .ref fa, .ref sa] ∧ H l = some (.lst (as.map V.ref)) ∧ All2 (SegAt H) as segs ∧ ParOk segs ∧ segs.length ≤ 100 ∧ m ≤ segs.length ∧
  H fa = some (.lst (fs.map V.int)) ∧ H sa = some (.lst (cs.map V.int)) ∧ (∀ x ∈ fs, -(2 ^ 64) < x ∧ x < 2 ^ 64) ∧ fs.length = segs.length ∧ cs.length = segs.length ∧ ∀ H', Ex H H' → Q (.int (delayV segs fs cs m)) H'
theorem sc_law_delay : FnScope ["segments", "node", "resistances", "capacitances", "total", "step", "load", "other"] ["segments", "node", "resistances", "capacitances"] (defScope s_law_delay) := ⟨rfl, rfl, rfl, by decide +kernel, rfl, by decide +kernel, by decide +kernel⟩
theorem ok_law_delay (D : Dfd K mg "_law_delay" s_law_delay ["segments", "node", "resistances", "capacitances"]) (T : TxtS mg) (C1 : Has P w K mg base 1 "_law_path" ["segments", "node"] spLPath) : Has P w K mg base 2 "_law_delay" ["segments", "node", "resistances", "capacitances"] spLDelay := by
  obtain ⟨f_law_path, d_law_path, G_law_path, g_law_path, k_law_path, b_law_path⟩ := C1
  refine D.has fun f fd F => F.ok sc_law_delay (fun vs H Q E h => ?_) (fun cdv A outer s H vs Q E hr h => ?_)
  · obtain ⟨l, as, segs, m, fa, sa, fs, cs, rfl, _⟩ := h
    rfl
  · obtain ⟨l, as, segs, m, fa, sa, fs, cs, rfl, hl, hA, hPar, hsl, hm, hfa, hsa, hfb, l1, l2, q⟩ := h
    refine ⟨_, (pss_cons (ps_set (i := 4) sc_law_delay.nd rfl (.inl rfl) pe_int)
    (pss_cons (ps_for PassesOwn.never rfl (pi_list (pe_slice sl_list (pe_call G_law_path (hr.mono (by omega)) (by rfl) g_law_path k_law_path b_law_path .nil pass0 (pa_cons (pv 0) (pa_cons (pv 1) pa_nil))) (po_some pe_int) po_none)) (pg_name (i := 5) sc_law_delay.nd rfl (.inl rfl))
      (pss_cons (ps_set (i := 6) sc_law_delay.nd rfl (.inl rfl) pe_int)
      (pss_cons (ps_for PassesOwn.never rfl (pi_range2 rfl T.range (pa_cons pe_int (pa_cons (pe_op op_add (pe_callB call_len_seq (by rfl) T.len (by decide +kernel) (pa_cons (pv 0) pa_nil)) pe_int) pa_nil))) (pg_name (i := 7) sc_law_delay.nd rfl (.inl rfl))
        (pss_one (ps_if (pt_cmpR op_in_seq (pv 5) (pe_call G_law_path (hr.mono (by omega)) (by rfl) g_law_path k_law_path b_law_path .nil pass0 (pa_cons (pv 0) (pa_cons (pv 7) pa_nil))) (by rfl))
          (pss_one (ps_set (i := 6) sc_law_delay.nd rfl (.inl rfl) (pe_op op_add (pv 6) (pe_ix ix_list (pv 3) (pe_op op_sub (pv 7) pe_int) (fun _ _ => rfl)))))
          pss_nil)))
      (pss_one (ps_set (i := 4) sc_law_delay.nd rfl (.inl rfl) (pe_op op_add (pv 4) (pe_op op_mul (pe_ix ix_list (pv 2) (pe_op op_sub (pv 5) pe_int) (fun _ _ => rfl)) (pv 6))))))))
    (pss_one (ps_ret (pv 4))))), ?_⟩
    have hpos : 1 ≤ (natsV (anc segs m).reverse).length := by
      have := List.length_pos_of_mem (anc_self hPar hm)
      unfold natsV; rw [List.length_map, List.length_reverse]; exact this
    have ecut : cutV (natsV (anc segs m).reverse) (some 1) none = natsV ((anc segs m).reverse.drop 1) := by
      have : cutV (natsV (anc segs m).reverse) (some ((1 : Nat) : Int)) none = _ := cutV_tail hpos
      rw [show (1 : Int) = ((1 : Nat) : Int) from rfl, this]
      unfold natsV; rw [List.map_drop]
    have hway := fun k hk => anc_way (k := k) hPar hm hk
    refine ⟨_, rfl, _, rfl, l, as, segs, m, rfl, hl, hA, hPar, hsl, hm, fun q0 H1 E1 nq0 hq0 => ⟨_, rfl, q0, _, rfl, SqL.of hq0, fun q1 nq1 => ?_⟩⟩
    rw [ecut]
    unfold delayV at q
    generalize (anc segs m).reverse.drop 1 = ws at *
    have E2 : Ex H1 (upd H1 q1 (.lst (natsV ws))) := Ex.new nq1
    have hq1 : upd H1 q1 (.lst (natsV ws)) q1 = some (.lst (natsV ws)) := upd_same
    generalize upd H1 q1 (.lst (natsV ws)) = H2 at *
    have E02 := E1.trans E2
    refine ⟨q1, rfl, ⟨_, SqL.of hq1⟩, for_list (K := K) (a := q1) (xs := natsV ws)
      (fun i σ H' => Ex H2 H' ∧ ∃ z5 z6 z7 : Option V, σ = [some (.ref l), some (.int (m : Int)), some (.ref fa), some (.ref sa), some (.int ((ws.take i).map fun k => fs.getD (k - 1) 0 * loadV segs cs k).sum), z5, z6, z7])
      ⟨.refl _, none, none, none, rfl⟩ (fun i σ H' _ g => SqL.of (g.1 _ _ hq1)) ?_ ?_⟩
    · rintro i y σ H3 hy ⟨E3, z5, z6, z7, rfl⟩
      obtain ⟨k, hk, rfl⟩ : ∃ k, ws[i]? = some k ∧ y = .int (k : Int) := by
        unfold natsV at hy
        rw [List.getElem?_map] at hy
        cases e : ws[i]? with
        | none => rw [e] at hy; cases hy
        | some k => rw [e] at hy; cases hy; exact ⟨k, rfl, rfl⟩
      have hk1 := hway k (List.mem_of_getElem? hk)
      have E03 := E02.trans E3
      have eN : ((((as.map V.ref).length : Nat) : Int) + 1 - 1).toNat = segs.length := by rw [List.length_map, hA.1]; omega
      have hal : (as.map V.ref).length = segs.length := by rw [List.length_map, hA.1]
      refine ⟨_, rfl, _, _, rfl, .inl (SqL.of (E03 _ _ hl)), _, _, rfl, rfl, _, _, rfl, ⟨by decide, by decide, by omega, by omega⟩, for_range (n := ((((as.map V.ref).length : Nat) : Int) + 1 - 1).toNat)
        (fun j σ H' => Ex H3 H' ∧ ∃ z7 : Option V, σ = [some (.ref l), some (.int (m : Int)), some (.ref fa), some (.ref sa), some (.int ((ws.take i).map fun k => fs.getD (k - 1) 0 * loadV segs cs k).sum), some (.int (k : Int)), some (.int (sumN (j + 1) fun t => if k ∈ anc segs t then ((0 : Int) :: cs).getD t 0 else 0)), z7])
        ⟨.refl _, z7, ?_⟩ ?_ ?_⟩
      · have e0 : sumN (0 + 1) (fun t => if k ∈ anc segs t then ((0 : Int) :: cs).getD t 0 else 0) = 0 := sumN_zero fun t ht => by
          obtain rfl : t = 0 := by omega
          by_cases z : k ∈ anc segs 0
          · rw [if_pos z]; rfl
          · rw [if_neg z]
        rw [e0]; rfl
      · rintro j σ H4 hj ⟨E4, z7, rfl⟩
        rw [eN] at hj
        have E04 := E03.trans E4
        have ej : (1 : Int) + (j : Nat) = ((j + 1 : Nat) : Int) := by omega
        rw [ej]
        refine ⟨_, rfl, _, rfl, _, rfl, l, as, segs, j + 1, rfl, E04 _ _ hl, hA.imp fun _ _ z => z.ex E04, hPar, hsl, by omega, fun q2 H5 E5 nq2 hq2 => ⟨q2, _, rfl, .inl (SqL.of hq2), rfl, flat_nats _, ?_⟩⟩
        have eS : sumN (j + 1 + 1) (fun t => if k ∈ anc segs t then ((0 : Int) :: cs).getD t 0 else 0) = sumN (j + 1) (fun t => if k ∈ anc segs t then ((0 : Int) :: cs).getD t 0 else 0) + (if k ∈ anc segs (j + 1) then cs.getD j 0 else 0) := rfl
        rw [if_neg Bool.false_ne_true, inV_nats]
        refine ⟨_, rfl, ite2 (fun c1 => ?_) (fun c1 => ?_)⟩
        · have hin : k ∈ anc segs (j + 1) := List.mem_reverse.mp (of_decide_eq_true c1)
          refine ⟨_, rfl, _, rfl, _, rfl, _, _, rfl, rfl, sa, _, _, _, rfl, rfl, SqL.of ((E04.trans E5) _ _ hsa), at_int (j := j) (by omega) (by omega), _, _, rfl, rfl, E4.trans E5, some (.int ((j + 1 : Nat) : Int)), ?_⟩
          rw [eS, if_pos hin]; rfl
        · have hin : ¬ k ∈ anc segs (j + 1) := fun z => c1 (decide_eq_true (List.mem_reverse.mpr z))
          refine ⟨E4.trans E5, some (.int ((j + 1 : Nat) : Int)), ?_⟩
          rw [eS, if_neg hin, Int.add_zero]; rfl
      · rintro σ H4 ⟨E4, z7, rfl⟩
        rw [eN]
        have hfk : k - 1 < fs.length := by omega
        have hfx := hfb _ (List.getElem_mem (h := hfk))
        have efx : fs.getD (k - 1) 0 = fs[k - 1] := by rw [List.getD_eq_getElem?_getD, List.getElem?_eq_getElem hfk]; rfl
        refine ⟨_, rfl, _, rfl, _, rfl, _, _, rfl, rfl, fa, _, _, _, rfl, rfl, SqL.of ((E03.trans E4) _ _ hfa), at_int (j := k - 1) (by omega) hfk, _, rfl, _, _, rfl, rfl, .inl (by rw [efx]; exact hfx), _, _, rfl, rfl, E3.trans E4, some (.int (k : Int)), some (.int (loadV segs cs k)), z7, ?_⟩
        have eSum : ((ws.take (i + 1)).map fun k => fs.getD (k - 1) 0 * loadV segs cs k).sum = ((ws.take i).map fun k => fs.getD (k - 1) 0 * loadV segs cs k).sum + fs.getD (k - 1) 0 * loadV segs cs k := by
          rw [take_snoc1 hk, List.map_append, List.sum_append, List.map_singleton, List.sum_singleton]
        rw [eSum]; rfl
    · rintro σ H3 ⟨E3, z5, z6, z7, rfl⟩
      have eL : (natsV ws).length = ws.length := by unfold natsV; rw [List.length_map]
      rw [eL, List.take_length]
      exact ⟨_, rfl, q H3 (E02.trans E3)⟩
def spWithin : Sp := fun vs H Q _ => ∃ (p a l : Addr) (rl : List Addr) (prs : List (Int × Int)), vs = [.ref p, .ref l] ∧ PoolOk p a H ∧ hid p H l = some (.lst (rl.map V.ref)) ∧ All2 (PrAt H) rl prs ∧ prs.length ≤ 100 ∧ (∀ r ∈ prs, r.1 ≤ r.2 ∧ r.2 - r.1 < 2 ^ 60) ∧
  ∀ (q : Addr) (H' : Hp) (zs : List Int), Px p a H H' → H q = none → hid p H' q = some (.lst (zs.map V.int)) → All2 (fun z r => r.1 ≤ z ∧ z ≤ r.2) zs prs → Q (.ref q) H'
theorem sc_law_within : FnScope ["pool", "pairs", "pair"] ["pool", "pairs"] (defScope s_law_within) := ⟨rfl, rfl, rfl, by decide +kernel, rfl, by decide +kernel, by decide +kernel⟩
theorem ok_law_within (D : Dfd K mg "_law_within" s_law_within ["pool", "pairs"]) (C1 : Has P w K mg base 2 "_law_draw" ["pool", "many"] spDrawX) : Has P w K mg base 3 "_law_within" ["pool", "pairs"] spWithin := by
  obtain ⟨f_law_draw, d_law_draw, G_law_draw, g_law_draw, k_law_draw, b_law_draw⟩ := C1
  refine D.has fun f fd F => F.ok sc_law_within (fun vs H Q E h => ?_) (fun cdv A outer s H vs Q E hr h => ?_)
  · obtain ⟨p, a, l, rl, prs, rfl, _⟩ := h
    rfl
  · obtain ⟨p, a, l, rl, prs, rfl, hp, hl, hA, hn, hr2, q⟩ := h
    refine ⟨_, (pss_one (ps_ret (pe_lc (own := [("pair", 2)]) (g := gName 2) (tt := tYes) rfl sc_law_within.nd (pi_list (pv 1)) (blkOk_by (N := ["pool", "pairs", "pair"]) (sc := defScope s_law_within) (own := [("pair", 2)]) (by decide +kernel)) (fun _ _ _ _ _ => (pg_name (i := 2) sc_law_within.nd rfl (.inl rfl))) (fun _ _ _ _ _ => pts_nil) (fun _ _ _ _ _ => (pe_op op_add (pe_ix (kIxT (K := K) rfl) (pv 2) pe_int (fun _ _ => rfl)) (pe_call G_law_draw (hr.mono (by omega)) (by rfl) g_law_draw k_law_draw b_law_draw .nil pass0 (pa_cons (pv 0) (pa_cons (pe_op op_add (pe_op op_sub (pe_ix (kIxT (K := K) rfl) (pv 2) pe_int (fun _ _ => rfl)) (pe_ix (kIxT (K := K) rfl) (pv 2) pe_int (fun _ _ => rfl))) pe_int) pa_nil)))))))), ?_⟩
    have X0 := Px.refl hp
    refine ⟨_, rfl, l, rfl, ⟨_, SqL.of (hid_get hl)⟩, fun R nR => wk_list (K := K) (a := l) (xs := rl.map V.ref) (fun j H' => Px p a H H' ∧ ∃ zs : List Int, hid p H' R = some (.lst (zs.map V.int)) ∧ All2 (fun z r => r.1 ≤ z ∧ z ≤ r.2) zs (prs.take j)) ⟨X0.new nR, [], by rw [hid_ne (hp.ne nR)]; exact upd_same, .nil⟩ (fun j H' _ z => SqL.of (z.1.at_ hl)) ?_ ?_⟩
    · rintro j y H1 hy ⟨X1, zs, hR, hZ⟩
      obtain ⟨b, hb, rfl⟩ := refs_get hy
      obtain ⟨r, hr3, s1⟩ := hA.at_ hb
      have hj : j < prs.length := (List.getElem?_eq_some_iff.mp hr3).1
      obtain ⟨r1, r2⟩ := hr2 r (List.mem_of_getElem? hr3)
      have s2 := px_tup X1 _ _ s1
      refine ⟨rfl, tYes_in ?_⟩
      simp only [wipe, _root_.L2.start, List.map_cons, List.map_nil, List.length_cons, List.length_nil, Nat.reduceAdd, Nat.reduceSub, List.replicate_succ, List.replicate_zero, List.cons_append, List.nil_append, List.set_cons_zero, List.set_cons_succ]
      refine ⟨_, rfl, b, _, _, _, rfl, rfl, SqT.of s2, atI_nat (j := 0) rfl, _, rfl, _, rfl, b, _, _, _, rfl, rfl, SqT.of s2, atI_nat (j := 1) rfl, _, rfl, b, _, _, _, rfl, rfl, SqT.of s2, atI_nat (j := 0) rfl, _, _, rfl, rfl, _, _, rfl, rfl, p, a, _, rfl, by omega, by omega, X1.pool, fun v H2 hv X2 _ => ?_⟩
      have hR2 := X2.get hR
      refine ⟨_, _, rfl, rfl, _, hid_get hR2, sz_lt (by rw [List.length_map, hZ.1, List.length_take]; omega), (X1.trans X2).mut nR, zs ++ [r.1 + (v : Int)], by rw [hid_ne (hp.ne nR), upd_same, List.map_append]; rfl, ?_⟩
      rw [take_snoc1 hr3]
      exact hZ.snoc ⟨by omega, by omega⟩
    rintro H1 ⟨X1, zs, hR, hZ⟩
    rw [List.length_map, hA.1, List.take_length] at hZ
    exact q R H1 zs X1 nR hR hZ
def spRefused (C : Addr) : Sp := fun vs H Q _ => ∃ (x p r c : Addr) (segs : List SegD) (n : Nat) (fa sa uv : V), vs = [.ref x, .int n, fa, sa, uv] ∧ TreeAt C H x p r c segs ∧ ParOk segs ∧ segs.length ≤ 100 ∧ n ≤ segs.length ∧ (∀ s ∈ segs, ∀ j, -(2 ^ 64) < pe_ s.res j ∧ pe_ s.res j < 2 ^ 64) ∧
  ((uv = .non ∧ ∃ (f s : Addr) (fs cs : List Int), fa = .ref f ∧ sa = .ref s ∧ H f = some (.lst (fs.map V.int)) ∧ H s = some (.lst (cs.map V.int)) ∧ (∀ x ∈ fs, -(2 ^ 64) < x ∧ x < 2 ^ 64) ∧ fs.length ≤ 1000 ∧ cs.length ≤ 1000 ∧ ¬ (fs.length = segs.length ∧ cs.length = segs.length)) ∨ ∃ u : Int, uv = .int u ∧ u < 1) ∧ ∀ H', Ex H H' → Q (.bl true) H'
theorem sc_law_refused : FnScope ["tree", "node", "first", "second", "unit", "e"] ["tree", "node", "first", "second", "unit"] (defScope s_law_refused) := ⟨rfl, rfl, rfl, by decide +kernel, rfl, by decide +kernel, by decide +kernel⟩
theorem ok_law_refused {C D_WrongCount D_BadArgument S f1 f2 : Addr} {d1 d2 : FuncData} (D : Dfd K mg "_law_refused" s_law_refused ["tree", "node", "first", "second", "unit"]) (T : TxtS mg) (c_WireTree : Cls K C) (g_WrongCount : mg "WrongCount" = some (.ref D_WrongCount)) (g_BadArgument : mg "BadArgument" = some (.ref D_BadArgument)) (g_SignoffError : mg "SignoffError" = some (.ref S))
    (iW : ExcC K D_WrongCount) (iB : ExcC K D_BadArgument) (ww : PySem.W.kitOne K (.ref D_WrongCount) (.ref D_WrongCount) = some true) (wb : PySem.W.kitOne K (.ref D_WrongCount) (.ref D_BadArgument) = some false) (bw : PySem.W.kitOne K (.ref D_BadArgument) (.ref D_WrongCount) = some false) (bb : PySem.W.kitOne K (.ref D_BadArgument) (.ref D_BadArgument) = some true)
    (hitW : PySem.W.exmOne K (.ref D_WrongCount) (.ref S) = some true) (hitB : PySem.W.exmOne K (.ref D_BadArgument) (.ref S) = some true)
    (M_WireTree_delay : Meth K C "delay" f1) (G_WireTree_delay : FnOk P w K mg base (L2.CX P w) 3 f1 d1 ["self", "node", "resistances", "capacitances"] (spDelay C D_BadArgument D_WrongCount)) (b_WireTree_delay : Binds K d1 ["self", "node", "resistances", "capacitances"] [])
    (M_WireTree_delay_range : Meth K C "delay_range" f2) (G_WireTree_delay_range : FnOk P w K mg base (L2.CX P w) 4 f2 d2 ["self", "node", "unit"] (spRange C D_BadArgument)) (kb_WireTree_delay_range : KBn K d2 ["self", "node", "unit"] 2 ["unit"] (fun us ws => us ++ ws) (fun vs zs => vs ++ zs)) : Has P w K mg base 5 "_law_refused" ["tree", "node", "first", "second", "unit"] (spRefused C) := by
  refine D.has fun f fd F => F.ok sc_law_refused (fun vs H Q E h => ?_) (fun cdv A outer s H vs Q E hr h => ?_)
  · obtain ⟨x, p, r, c, segs, n, fa, sa, uv, rfl, _⟩ := h
    rfl
  · obtain ⟨x, p, r, c, segs, n, fa, sa, uv, rfl, hT, hPar, hsl, hn, hb, hcase, q⟩ := h
    obtain ⟨dx, hob⟩ := hT.ob
    have no : ∀ m : Str, ¬ m = "_capacitances" → ¬ m = "_resistances" → ¬ m = "_parents" → (tfl p r c).lookup m = none := fun m a b d => tfl_no _ _ _ a b d
    refine ⟨_, (pss_cons (ps_try_as (c := .ref S) (i := 5) rfl rfl sc_law_refused.nd rfl rfl ⟨rfl, by decide, .inl g_SignoffError⟩ takes0
      (fun W pn xe tk hp => (pss_one (ps_if (pt_cmpR op_isN (pv 4) pe_non (nomark _))
          (pss_one (ps_expr (pe_methX (pv 0) c_WireTree M_WireTree_delay G_WireTree_delay (hr.mono (by omega)) b_WireTree_delay .nil (fun σ => passAt tk σ) (pa_cons (pv 1) (pa_cons (pv 2) (pa_cons (pv 3) pa_nil))))))
          (pss_one (ps_expr (pe_methK (pv 0) c_WireTree M_WireTree_delay_range G_WireTree_delay_range (hr.mono (by omega)) kb_WireTree_delay_range (fun σ => passAt tk σ) (pa_cons (pv 1) pa_nil) (pk_cons (pv 4) pk_nil)))))))
      (fun a oe cls dd pn hz hf => (pss_one (ps_ret (pe_and (pe_cmpR op_eq (pe_isE hz hf (fun D hz1 ic => pe_callB (call_isE ic hz1 hf) (by rfl) T.isinstance (by decide +kernel) (pa_cons (pv 5) (pa_cons (gRef rfl g_WrongCount) pa_nil)))) (pe_cmpR op_isN (pv 4) pe_non (nomark _)) (nomark _)) (pe_one (pe_cmpR op_eq (pe_isE hz hf (fun D hz1 ic => pe_callB (call_isE ic hz1 hf) (by rfl) T.isinstance (by decide +kernel) (pa_cons (pv 5) (pa_cons (gRef rfl g_BadArgument) pa_nil)))) (pe_cmpR op_notN (pv 4) pe_non (nomark _)) (nomark _))))))))
    (pss_one (ps_ret pe_bl))), ?_⟩
    rcases hcase with ⟨rfl, f, s', fs, cs, rfl, rfl, hf, hs, hfb, l1, l2, hne⟩ | ⟨u, rfl, hu⟩
    · refine ⟨_, rfl, rfl, _, rfl, it1 (by decide) ⟨_, rfl, x, dx, _, rfl, hob, no "delay" (by decide +kernel) (by decide +kernel) (by decide +kernel), _, rfl, _, rfl, _, rfl, x, p, r, c, segs, n, f, s', fs, cs, rfl, hT, hPar, hsl, hn, hf, hs, hfb, l1, l2, fun h1 h2 => (hne ⟨h1, h2⟩).elim, fun _ H1 E1 => ⟨true, hitW, fun _ a na => ?_, fun q => nomatch q⟩⟩⟩
      exact ⟨D_WrongCount, ⟨rfl, rfl, iW⟩, _, rfl, .ref D_WrongCount, .ref D_WrongCount, true, rfl, (fun u hu => hu), ww, _, rfl, rfl, rfl, _, rfl, it1 (by decide) ⟨D_WrongCount, ⟨rfl, rfl, iW⟩, _, rfl, .ref D_BadArgument, .ref D_BadArgument, false, rfl, (fun u hu => hu), wb, _, rfl, rfl, rfl, q H1 E1⟩⟩
    · have eU : decide (V.int u = V.non) = false := decide_eq_false (fun z => by cases z)
      refine ⟨_, rfl, rfl, _, rfl, it0 eU ⟨_, rfl, x, dx, _, rfl, hob, no "delay_range" (by decide +kernel) (by decide +kernel) (by decide +kernel), _, rfl, _, rfl, rfl, rfl, x, p, r, c, segs, n, u, rfl, hT, hPar, hsl, hn, hb, by omega, fun h1 => (by omega : False).elim, fun _ H1 E1 => ⟨true, hitB, fun _ a na => ?_, fun q => nomatch q⟩⟩⟩
      exact ⟨D_BadArgument, ⟨rfl, rfl, iB⟩, _, rfl, .ref D_WrongCount, .ref D_WrongCount, false, rfl, (fun u hu => hu), bw, _, rfl, rfl, rfl, _, rfl, it1 (by rw [eU]; decide) ⟨D_BadArgument, ⟨rfl, rfl, iB⟩, _, rfl, .ref D_BadArgument, .ref D_BadArgument, true, rfl, (fun u hu => hu), bb, _, rfl, rfl, rfl, q H1 E1⟩⟩
/-! ## what a turn of the law works on -/
structure TurnAt (C p a : Addr) (H : Hp) (l x L1 L2 : Addr) (as rs1 rs2 : List Addr) (segs : List SegD) : Prop where
  pool : PoolOk p a H
  hl : hid p H l = some (.lst (as.map V.ref))
  hA : All2 (SegAt H) as segs
  hT : ∃ pp rr cc, pp ≠ p ∧ rr ≠ p ∧ cc ≠ p ∧ TreeAt C H x pp rr cc segs
  h1 : hid p H L1 = some (.lst (rs1.map V.ref))
  a1 : All2 (PrAt H) rs1 (segs.map (·.res))
  h2 : hid p H L2 = some (.lst (rs2.map V.ref))
  a2 : All2 (PrAt H) rs2 (segs.map (·.cap))
theorem TurnAt.px {C p a : Addr} {H H' : Hp} {l x L1 L2 : Addr} {as rs1 rs2 : List Addr} {segs : List SegD} (e : TurnAt C p a H l x L1 L2 as rs1 rs2 segs) (X : Px p a H H') : TurnAt C p a H' l x L1 L2 as rs1 rs2 segs := by
  obtain ⟨pp, rr, cc, j1, j2, j3, ⟨dx, o1⟩, o2, ⟨rl, o3, o4⟩, ⟨cl, o5, o6⟩⟩ := e.hT
  obtain ⟨_, _, _, _, _, hp, _⟩ := X.was
  refine ⟨X.pool, X.get e.hl, e.hA.imp fun _ _ z => z.te (px_tup X), ⟨pp, rr, cc, j1, j2, j3, ⟨dx, X.at_ (by rw [hid_ne (ne_of o1 hp (by intro z; cases z))]; exact o1)⟩, X.at_ (by rw [hid_ne j1]; exact o2), ⟨rl, X.at_ (by rw [hid_ne j2]; exact o3), o4.imp fun _ _ z => px_tup X _ _ z⟩, ⟨cl, X.at_ (by rw [hid_ne j3]; exact o5), o6.imp fun _ _ z => px_tup X _ _ z⟩⟩, X.get e.h1, e.a1.imp fun _ _ z => px_tup X _ _ z, X.get e.h2, e.a2.imp fun _ _ z => px_tup X _ _ z⟩
theorem TurnAt.ex {C p a : Addr} {H H' : Hp} {l x L1 L2 : Addr} {as rs1 rs2 : List Addr} {segs : List SegD} (e : TurnAt C p a H l x L1 L2 as rs1 rs2 segs) (X : Ex H H') : TurnAt C p a H' l x L1 L2 as rs1 rs2 segs := e.px (Px.ofEx e.pool X)
theorem wkPr {K : PySem.W.Frag} {a L : Addr} {rl : List Addr} {prs : List (Int × Int)} {body : (Hp → Prop) → V → Hp → Prop} {H0 : Hp} {Qd : Hp → Prop} (e : Nat) (ha : H0 a = some (.lst (rl.map V.ref))) (hA : All2 (PrAt H0) rl prs) (hn : prs.length ≤ 1000) (nL : H0 L = none)
    (hb : ∀ (N : Hp → Prop) (b : Addr) (r : Int × Int) (H : Hp), PrAt H b r → (∃ xs, H L = some (.lst xs) ∧ xs.length < sizeLine ∧ N (upd H L (.lst (xs ++ [.int (pe_ r e)])))) → body N (.ref b) H)
    (hd : ∀ H', Ex H0 H' → H' L = some (.lst ((prs.map fun r => pe_ r e).map V.int)) → Qd H') :
    ∃ W : Nat → Nat → Hp → Prop, (∃ m, W 0 m (upd H0 L (.lst []))) ∧ ∀ i m H, W i m H → ((Itl K a).stop i H ∧ Qd H) ∨ ((Itl K a).go i H ∧ ∃ Nx : Hp → Prop, (∀ H', Nx H' → ∃ m', m' < m ∧ W (i + 1) m' H') ∧ ∀ x H', (Itl K a).yld i H x H' → body Nx x H') := by
  refine wk_list (K := K) (a := a) (xs := rl.map V.ref) (fun j H' => Ex H0 H' ∧ H' L = some (.lst (((prs.take j).map fun r => pe_ r e).map V.int))) ⟨Ex.new nL, upd_same⟩ (fun j H' _ z => SqL.of (z.1 _ _ ha)) ?_ ?_
  · rintro j y H1 hy ⟨E1, hL⟩
    obtain ⟨b, hb', rfl⟩ := refs_get hy
    obtain ⟨r, hr, s1⟩ := hA.at_ hb'
    refine hb _ b r H1 (E1 _ _ s1) ⟨_, hL, sz_lt (by rw [List.length_map, List.length_map, List.length_take]; omega), E1.mut nL, ?_⟩
    rw [upd_same, take_snoc1 hr, List.map_append, List.map_append]; rfl
  · rintro H1 ⟨E1, hL⟩
    rw [List.length_map, hA.1, List.take_length] at hL
    exact hd H1 E1 hL
theorem all2_getD {zs : List Int} {prs : List (Int × Int)} (h : All2 (fun (z : Int) (r : Int × Int) => r.1 ≤ z ∧ z ≤ r.2) zs prs) (k : Nat) : (prs.map fun r => pe_ r 0).getD k 0 ≤ zs.getD k 0 ∧ zs.getD k 0 ≤ (prs.map fun r => pe_ r 1).getD k 0 := by
  rw [List.getD_eq_getElem?_getD, List.getD_eq_getElem?_getD, List.getD_eq_getElem?_getD, List.getElem?_map, List.getElem?_map]
  cases e : prs[k]? with
  | none =>
    have : zs[k]? = none := by
      rw [List.getElem?_eq_none_iff] at e ⊢
      rw [h.1]; exact e
    rw [this]; exact ⟨Int.le_refl _, Int.le_refl _⟩
  | some r =>
    obtain ⟨z, hz, h1, h2⟩ := h.of e
    rw [hz]; exact ⟨h1, h2⟩
theorem nn_getD {prs : List (Int × Int)} (h : ∀ r ∈ prs, 0 ≤ r.1) (k : Nat) : 0 ≤ (prs.map fun r => pe_ r 0).getD k 0 := by
  rw [List.getD_eq_getElem?_getD, List.getElem?_map]
  cases e : prs[k]? with
  | none => exact Int.le_refl _
  | some r => exact h r (List.mem_of_getElem? e)
theorem rep2 {H : Hp} {a : Addr} {i j : Int} (h : H a = some (.tup [.int i, .int j])) : Rep H (.ref a) (.tup [.int i, .int j]) := .tup h rfl fun k x d h1 h2 => by
  match k, h1, h2 with
  | 0, h1, h2 => cases h1; cases h2; exact .int _
  | 1, h1, h2 => cases h1; cases h2; exact .int _
  | k + 2, h1, h2 => cases h1
theorem okD2 {i j : Int} : okD 1 (.tup [.int i, .int j]) := ⟨(by show 2 < 2 ^ 61; decide), fun d hd => by
  rcases List.mem_cons.mp hd with z | z
  · rw [z]; trivial
  · rw [List.mem_singleton.mp z]; trivial⟩
theorem rep_one : ∀ n : Nat, (List.replicate n [V.int 1]).flatten = (List.replicate n (1 : Int)).map V.int
  | 0 => rfl
  | n + 1 => by rw [List.replicate_succ, List.flatten_cons, rep_one n]; rfl
def spLaw (K : PySem.W.Frag) : Sp := fun vs H Q _ => ∃ (a : Addr) (ns : List Int), vs = [.ref a] ∧ SqL K H a (ns.map V.int) ∧ ns.length ≤ 63 ∧ ∀ H', Q (.bl true) H'
theorem sc_law : FnScope ["script", "pool", "turn", "segments", "tree", "first", "second", "unit", "node", "low", "high", "due", "actual", "k", "some", "other", "delay", "row", "pair"] ["script"] (defScope s_law) := ⟨rfl, rfl, rfl, by decide +kernel, rfl, by decide +kernel, by decide +kernel⟩
theorem fn_law {C B WC R f : Addr} {fd : FuncData} {fi f1 f2 : Addr} {di d1 d2 : FuncData} {ds2 : List Value} (F : Fun K "law" "law" s_law f fd) (T : TxtS mg) (W : Cl_WireTree K mg C) (C1 : Has P w K mg base 1 "_law_pool" ["script"] (spPool K)) (C2 : Has P w K mg base 2 "_law_draw" ["pool", "many"] spDrawX) (C3 : Has P w K mg base 3 "_law_segments" ["pool", "most"] spSegs)
    (C4 : Has P w K mg base 2 "_law_delay" ["segments", "node", "resistances", "capacitances"] spLDelay) (C5 : Has P w K mg base 5 "_law_refused" ["tree", "node", "first", "second", "unit"] (spRefused C)) (C6 : Has P w K mg base 3 "_law_within" ["pool", "pairs"] spWithin) (C7 : Has P w K mg base 2 "_law_same" ["actual", "due"] (spSame 2))
    (Mk_WireTree : Mk K C fi) (G_WireTree_init : FnOk P w K mg base (L2.CX P w) 1 fi di ["self", "segments"] (spTInit C B R)) (b_WireTree_init : Binds K di ["self", "segments"] [])
    (M_WireTree_delay : Meth K C "delay" f1) (G_WireTree_delay : FnOk P w K mg base (L2.CX P w) 3 f1 d1 ["self", "node", "resistances", "capacitances"] (spDelay C B WC)) (b_WireTree_delay : Binds K d1 ["self", "node", "resistances", "capacitances"] [])
    (M_WireTree_delay_range : Meth K C "delay_range" f2) (G_WireTree_delay_range : FnOk P w K mg base (L2.CX P w) 4 f2 d2 ["self", "node", "unit"] (spRange C B)) (kb_WireTree_delay_range : KBn K d2 ["self", "node", "unit"] 2 ["unit"] (fun us ws => us ++ ws) (fun vs zs => vs ++ zs)) (dv_WireTree_delay_range : Vals [V.int 1] ds2) (bd_WireTree_delay_range : Binds K d2 ["self", "node", "unit"] ds2) : FnOk P w K mg base CX0 6 f fd ["script"] (spLaw K) := by
  obtain ⟨f_law_pool, d_law_pool, G_law_pool, g_law_pool, k_law_pool, b_law_pool⟩ := C1
  obtain ⟨f_law_draw, d_law_draw, G_law_draw, g_law_draw, k_law_draw, b_law_draw⟩ := C2
  obtain ⟨f_law_segments, d_law_segments, G_law_segments, g_law_segments, k_law_segments, b_law_segments⟩ := C3
  obtain ⟨f_law_delay, d_law_delay, G_law_delay, g_law_delay, k_law_delay, b_law_delay⟩ := C4
  obtain ⟨f_law_refused, d_law_refused, G_law_refused, g_law_refused, k_law_refused, b_law_refused⟩ := C5
  obtain ⟨f_law_within, d_law_within, G_law_within, g_law_within, k_law_within, b_law_within⟩ := C6
  obtain ⟨f_law_same, d_law_same, G_law_same, g_law_same, k_law_same, b_law_same⟩ := C7
  have g_WireTree := W.gC
  have c_WireTree := W.cl
  refine F.ok sc_law (fun vs H Q E h => ?_) (fun cdv A outer s H vs Q E hr h => ?_)
  · obtain ⟨a, ns, rfl, _⟩ := h
    rfl
  · obtain ⟨sa, ns, rfl, hs, hn, q⟩ := h
    refine ⟨_, (pss_cons (ps_set (i := 1) sc_law.nd rfl (.inl rfl) (pe_call G_law_pool (hr.mono (by omega)) (by rfl) g_law_pool k_law_pool b_law_pool .nil pass0 (pa_cons (pv 0) pa_nil)))
    (pss_cons (ps_for PassesOwn.never rfl (pi_range1 rfl T.range (pa_cons pe_int pa_nil)) (pg_name (i := 2) sc_law.nd rfl (.inl rfl))
      (pss_cons (ps_set (i := 3) sc_law.nd rfl (.inl rfl) (pe_call G_law_segments (hr.mono (by omega)) (by rfl) g_law_segments k_law_segments b_law_segments .nil pass0 (pa_cons (pv 1) (pa_cons pe_int pa_nil))))
      (pss_cons (ps_set (i := 4) sc_law.nd rfl (.inl rfl) (pe_make Mk_WireTree G_WireTree_init (hr.mono (by omega)) (by rfl) g_WireTree b_WireTree_init .nil passX0 (pa_cons (pe_callTy call_list_of (by rfl) T.list (by decide +kernel) (pa_cons (pv 3) pa_nil)) pa_nil)))
      (pss_cons (ps_setLc (i := 5) (own := [("row", 17)]) (g := gName 17) (tt := tYes) rfl sc_law.nd rfl rfl (sw_true rfl rfl rfl (by decide +kernel)) (pi_list (pv 3)) (blkOk_by (N := ["script", "pool", "turn", "segments", "tree", "first", "second", "unit", "node", "low", "high", "due", "actual", "k", "some", "other", "delay", "row", "pair"]) (sc := defScope s_law) (own := [("row", 17)]) (by decide +kernel)) (fun _ _ _ _ _ => (pg_name (i := 17) sc_law.nd rfl (.inl rfl))) (fun _ _ _ _ _ => pts_nil) (fun _ _ _ _ _ => (pe_ix (kIxT (K := K) rfl) (pv 17) pe_int (fun _ _ => rfl))))
      (pss_cons (ps_setLc (i := 6) (own := [("row", 17)]) (g := gName 17) (tt := tYes) rfl sc_law.nd rfl rfl (sw_true rfl rfl rfl (by decide +kernel)) (pi_list (pv 3)) (blkOk_by (N := ["script", "pool", "turn", "segments", "tree", "first", "second", "unit", "node", "low", "high", "due", "actual", "k", "some", "other", "delay", "row", "pair"]) (sc := defScope s_law) (own := [("row", 17)]) (by decide +kernel)) (fun _ _ _ _ _ => (pg_name (i := 17) sc_law.nd rfl (.inl rfl))) (fun _ _ _ _ _ => pts_nil) (fun _ _ _ _ _ => (pe_ix (kIxT (K := K) rfl) (pv 17) pe_int (fun _ _ => rfl))))
      (pss_cons (ps_set (i := 7) sc_law.nd rfl (.inl rfl) (pe_ix ix_list (pe_lst (pa_cons pe_int (pa_cons pe_int (pa_cons (pe_op op_add pe_int (pe_call G_law_draw (hr.mono (by omega)) (by rfl) g_law_draw k_law_draw b_law_draw .nil pass0 (pa_cons (pv 1) (pa_cons pe_int pa_nil)))) pa_nil)))) (pe_call G_law_draw (hr.mono (by omega)) (by rfl) g_law_draw k_law_draw b_law_draw .nil pass0 (pa_cons (pv 1) (pa_cons pe_int pa_nil))) (fun _ _ => rfl)))
      (pss_one (ps_for PassesOwn.never rfl (pi_range1 rfl T.range (pa_cons (pe_op op_add (pe_callB call_len_seq (by rfl) T.len (by decide +kernel) (pa_cons (pv 3) pa_nil)) pe_int) pa_nil)) (pg_name (i := 8) sc_law.nd rfl (.inl rfl))
        (pss_cons (ps_set (i := 9) sc_law.nd rfl (.inl rfl) (pe_call G_law_delay (hr.mono (by omega)) (by rfl) g_law_delay k_law_delay b_law_delay .nil pass0 (pa_cons (pv 3) (pa_cons (pv 8) (pa_cons (pe_lc (own := [("pair", 18)]) (g := gName 18) (tt := tYes) rfl sc_law.nd (pi_list (pv 5)) (blkOk_by (N := ["script", "pool", "turn", "segments", "tree", "first", "second", "unit", "node", "low", "high", "due", "actual", "k", "some", "other", "delay", "row", "pair"]) (sc := defScope s_law) (own := [("pair", 18)]) (by decide +kernel)) (fun _ _ _ _ _ => (pg_name (i := 18) sc_law.nd rfl (.inl rfl))) (fun _ _ _ _ _ => pts_nil) (fun _ _ _ _ _ => (pe_ix (kIxT (K := K) rfl) (pv 18) pe_int (fun _ _ => rfl)))) (pa_cons (pe_lc (own := [("pair", 18)]) (g := gName 18) (tt := tYes) rfl sc_law.nd (pi_list (pv 6)) (blkOk_by (N := ["script", "pool", "turn", "segments", "tree", "first", "second", "unit", "node", "low", "high", "due", "actual", "k", "some", "other", "delay", "row", "pair"]) (sc := defScope s_law) (own := [("pair", 18)]) (by decide +kernel)) (fun _ _ _ _ _ => (pg_name (i := 18) sc_law.nd rfl (.inl rfl))) (fun _ _ _ _ _ => pts_nil) (fun _ _ _ _ _ => (pe_ix (kIxT (K := K) rfl) (pv 18) pe_int (fun _ _ => rfl)))) pa_nil))))))
        (pss_cons (ps_set (i := 10) sc_law.nd rfl (.inl rfl) (pe_call G_law_delay (hr.mono (by omega)) (by rfl) g_law_delay k_law_delay b_law_delay .nil pass0 (pa_cons (pv 3) (pa_cons (pv 8) (pa_cons (pe_lc (own := [("pair", 18)]) (g := gName 18) (tt := tYes) rfl sc_law.nd (pi_list (pv 5)) (blkOk_by (N := ["script", "pool", "turn", "segments", "tree", "first", "second", "unit", "node", "low", "high", "due", "actual", "k", "some", "other", "delay", "row", "pair"]) (sc := defScope s_law) (own := [("pair", 18)]) (by decide +kernel)) (fun _ _ _ _ _ => (pg_name (i := 18) sc_law.nd rfl (.inl rfl))) (fun _ _ _ _ _ => pts_nil) (fun _ _ _ _ _ => (pe_ix (kIxT (K := K) rfl) (pv 18) pe_int (fun _ _ => rfl)))) (pa_cons (pe_lc (own := [("pair", 18)]) (g := gName 18) (tt := tYes) rfl sc_law.nd (pi_list (pv 6)) (blkOk_by (N := ["script", "pool", "turn", "segments", "tree", "first", "second", "unit", "node", "low", "high", "due", "actual", "k", "some", "other", "delay", "row", "pair"]) (sc := defScope s_law) (own := [("pair", 18)]) (by decide +kernel)) (fun _ _ _ _ _ => (pg_name (i := 18) sc_law.nd rfl (.inl rfl))) (fun _ _ _ _ _ => pts_nil) (fun _ _ _ _ _ => (pe_ix (kIxT (K := K) rfl) (pv 18) pe_int (fun _ _ => rfl)))) pa_nil))))))
        (pss_cons (ps_set (i := 11) sc_law.nd rfl (.inl rfl) (pe_tup (pa_cons (pe_op op_fdivW (pv 9) (pv 7)) (pa_cons (pe_op op_fdivW (pe_op op_sub (pe_op op_add (pv 10) (pv 7)) pe_int) (pv 7)) pa_nil))))
        (pss_cons (ps_set (i := 12) sc_law.nd rfl (.inl rfl) (pe_methK (pv 4) c_WireTree M_WireTree_delay_range G_WireTree_delay_range (hr.mono (by omega)) kb_WireTree_delay_range (fun σ => passAt0) (pa_cons (pv 8) pa_nil) (pk_cons (pv 7) pk_nil)))
        (pss_cut (ps_if (PW.pt (pw_or (pt_not (pt_val (pe_call G_law_same (hr.mono (by omega)) (by rfl) g_law_same k_law_same b_law_same .nil pass0 (pa_cons (pv 12) (pa_cons (pv 11) pa_nil))))) (pw_or1 (pt_not (pt_val (pe_call G_law_same (hr.mono (by omega)) (by rfl) g_law_same k_law_same b_law_same .nil pass0 (pa_cons (pe_meth (pv 4) c_WireTree M_WireTree_delay_range G_WireTree_delay_range (hr.mono (by omega)) bd_WireTree_delay_range dv_WireTree_delay_range passX0 (pa_cons (pv 8) pa_nil)) (pa_cons (pe_tup (pa_cons (pv 9) (pa_cons (pv 10) pa_nil))) pa_nil))))))))
          (pss_one (ps_ret pe_bl))
          pss_nil)
        (pss_cons (ps_for PassesOwn.never rfl (pi_range1 rfl T.range (pa_cons pe_int pa_nil)) (pg_name (i := 13) sc_law.nd rfl (.inl rfl))
          (pss_cons (ps_set (i := 14) sc_law.nd rfl (.inl rfl) (pe_call G_law_within (hr.mono (by omega)) (by rfl) g_law_within k_law_within b_law_within .nil pass0 (pa_cons (pv 1) (pa_cons (pv 5) pa_nil))))
          (pss_cons (ps_set (i := 15) sc_law.nd rfl (.inl rfl) (pe_call G_law_within (hr.mono (by omega)) (by rfl) g_law_within k_law_within b_law_within .nil pass0 (pa_cons (pv 1) (pa_cons (pv 6) pa_nil))))
          (pss_cons (ps_set (i := 16) sc_law.nd rfl (.inl rfl) (pe_meth (pv 4) c_WireTree M_WireTree_delay G_WireTree_delay (hr.mono (by omega)) b_WireTree_delay .nil passX0 (pa_cons (pv 8) (pa_cons (pv 14) (pa_cons (pv 15) pa_nil)))))
          (pss_cons (ps_if (pt_not (pt_val (pe_call G_law_same (hr.mono (by omega)) (by rfl) g_law_same k_law_same b_law_same .nil pass0 (pa_cons (pv 16) (pa_cons (pe_call G_law_delay (hr.mono (by omega)) (by rfl) g_law_delay k_law_delay b_law_delay .nil pass0 (pa_cons (pv 3) (pa_cons (pv 8) (pa_cons (pv 14) (pa_cons (pv 15) pa_nil))))) pa_nil)))))
            (pss_one (ps_ret pe_bl))
            pss_nil)
          (pss_one (ps_if (PW.pt (pw_or (pt_cmpR op_gt (pe_op op_mul (pv 7) (pe_ix ix_tup (pv 12) pe_int (fun _ _ => rfl))) (pv 16) (nomark _)) (pw_or1 (pt_cmpR op_lt (pe_op op_mul (pv 7) (pe_ix ix_tup (pv 12) pe_int (fun _ _ => rfl))) (pv 16) (nomark _)))))
            (pss_one (ps_ret pe_bl))
            pss_nil)))))))
        (pss_cons (ps_if (pt_not (pt_val (pe_call G_law_refused (hr.mono (by omega)) (by rfl) g_law_refused k_law_refused b_law_refused .nil pass0 (pa_cons (pv 4) (pa_cons (pv 8) (pa_cons (pe_op op_rep (pe_lst (pa_cons pe_int pa_nil)) (pe_op op_add (pe_callB call_len_seq (by rfl) T.len (by decide +kernel) (pa_cons (pv 3) pa_nil)) pe_int)) (pa_cons (pe_op op_rep (pe_lst (pa_cons pe_int pa_nil)) (pe_callB call_len_seq (by rfl) T.len (by decide +kernel) (pa_cons (pv 3) pa_nil))) (pa_cons pe_non pa_nil))))))))
          (pss_one (ps_ret pe_bl))
          pss_nil)
        (pss_cons (ps_if (pt_not (pt_val (pe_call G_law_refused (hr.mono (by omega)) (by rfl) g_law_refused k_law_refused b_law_refused .nil pass0 (pa_cons (pv 4) (pa_cons (pv 8) (pa_cons (pe_op op_rep (pe_lst (pa_cons pe_int pa_nil)) (pe_callB call_len_seq (by rfl) T.len (by decide +kernel) (pa_cons (pv 3) pa_nil))) (pa_cons (pe_op op_rep (pe_lst (pa_cons pe_int pa_nil)) (pe_op op_add (pe_callB call_len_seq (by rfl) T.len (by decide +kernel) (pa_cons (pv 3) pa_nil)) pe_int)) (pa_cons pe_non pa_nil))))))))
          (pss_one (ps_ret pe_bl))
          pss_nil)
        (pss_one (ps_if (pt_not (pt_val (pe_call G_law_refused (hr.mono (by omega)) (by rfl) g_law_refused k_law_refused b_law_refused .nil pass0 (pa_cons (pv 4) (pa_cons (pv 8) (pa_cons (pe_lst pa_nil) (pa_cons (pe_lst pa_nil) (pa_cons (pe_un un_neg (pe_call G_law_draw (hr.mono (by omega)) (by rfl) g_law_draw k_law_draw b_law_draw .nil pass0 (pa_cons (pv 1) (pa_cons pe_int pa_nil)))) pa_nil))))))))
          (pss_one (ps_ret pe_bl))
          pss_nil))))))))))))))))))
    (pss_one (ps_ret pe_bl)))), ?_⟩
    refine ⟨_, rfl, sa, ns, rfl, hs, by omega, fun p a H0 hp E0 np => ?_⟩
    refine ⟨_, rfl, by decide, by decide, for_range (n := 2) (fun i σ H' => Px p a H0 H' ∧ ∃ x2 x3 x4 x5 x6 x7 x8 x9 x10 x11 x12 x13 x14 x15 x16 : Option V, σ = [some (.ref sa), some (.ref p), x2, x3, x4, x5, x6, x7, x8, x9, x10, x11, x12, x13, x14, x15, x16, none, none])
      ⟨Px.refl hp, _, _, _, _, _, _, _, _, _, _, _, _, _, _, _, rfl⟩ ?_ ?_⟩
    · rintro turn σ H1 _ ⟨X1, x2, x3, x4, x5, x6, x7, x8, x9, x10, x11, x12, x13, x14, x15, x16, rfl⟩
      refine ⟨_, rfl, p, a, 8, rfl, by decide, X1.pool, fun l as segs H2 X2 nl hl hA hlen hPar hRng hBig => ?_⟩
      have lA := hA.1
      have hl2 := hid_get hl
      have hsl : segs.length ≤ 100 := by omega
      -- the tree
      refine ⟨_, rfl, _, _, rfl, .inl (SqL.of hl2), fun gv ngv x dx nx nd ne => ?_⟩
      have P2 := X2.pool
      have E3 : Ex H2 (upd H2 gv (.lst (as.map V.ref))) := Ex.new ngv
      have h3 : upd H2 gv (.lst (as.map V.ref)) gv = some (.lst (as.map V.ref)) := upd_same
      generalize upd H2 gv (.lst (as.map V.ref)) = H3 at *
      have EM : Ex H3 (upd (upd H3 dx (.own x)) x (.ins C dx [])) := (Ex.new nd).trans (Ex.new (by rw [upd_ne ne.symm]; exact nx))
      refine ⟨x, dx, gv, as, segs, rfl, upd_same, made_old nx nd h3, hA.imp fun _ _ z => z.ex (E3.trans EM), by omega, fun _ _ pp rr cc H4 npp nrr ncc eb hT => ⟨rfl, ?_⟩, fun z => absurd hPar z, fun _ z => absurd hRng z⟩
      have E4 := E3.trans (ExBut.made nx nd eb)
      have P3 := P2.kept E3
      have j1 : pp ≠ p := P3.ne (made_free npp)
      have j2 : rr ≠ p := P3.ne (made_free nrr)
      have j3 : cc ≠ p := P3.ne (made_free ncc)
      have X4 := Px.ofEx P2 E4
      have hl4 := X4.get hl
      have hA4 : All2 (SegAt H4) as segs := hA.imp fun _ _ z => z.ex E4
      clear eb E3 h3 EM npp nrr ncc nx nd ne P3
      -- first, second
      refine ⟨_, rfl, l, rfl, ⟨_, SqL.of (hid_get hl4)⟩, fun L1 nL1 => wk_list (K := K) (a := l) (xs := as.map V.ref) (fun j H' => Ex H4 H' ∧ ∃ rs : List Addr, H' L1 = some (.lst (rs.map V.ref)) ∧ All2 (PrAt H4) rs ((segs.take j).map (·.res))) ⟨Ex.new nL1, [], upd_same, .nil⟩ (fun j H' _ z => SqL.of (z.1 _ _ (hid_get hl4))) ?_ ?_⟩
      · rintro j y H5 hy ⟨E5, rs, hL, hR⟩
        obtain ⟨b, hb, rfl⟩ := refs_get hy
        obtain ⟨sg, hsg, ra, ca, s1, s2, s3⟩ := hA4.at_ hb
        have hj : j < segs.length := (List.getElem?_eq_some_iff.mp hsg).1
        refine ⟨rfl, tYes_in ?_⟩
        simp only [wipe, _root_.L2.start, List.map_cons, List.map_nil, List.length_cons, List.length_nil, Nat.reduceAdd, Nat.reduceSub, List.replicate_succ, List.replicate_zero, List.cons_append, List.nil_append, List.set_cons_zero, List.set_cons_succ]
        refine ⟨_, rfl, b, _, _, _, rfl, rfl, SqT.of (E5 _ _ s1), atI_nat (j := 1) rfl, _, hL, sz_lt (by rw [List.length_map, hR.1, List.length_map, List.length_take]; omega), E5.mut nL1, rs ++ [ra], by rw [upd_same, List.map_append]; rfl, ?_⟩
        rw [take_snoc1 hsg, List.map_append]
        exact hR.snoc s2
      rintro H5 ⟨E5, rs1, hL1, hR1⟩
      rw [List.length_map, lA, List.take_length] at hR1
      refine ⟨_, rfl, l, rfl, ⟨_, SqL.of (E5 _ _ (hid_get hl4))⟩, fun L2 nL2 => wk_list (K := K) (a := l) (xs := as.map V.ref) (fun j H' => Ex H5 H' ∧ ∃ rs : List Addr, H' L2 = some (.lst (rs.map V.ref)) ∧ All2 (PrAt H4) rs ((segs.take j).map (·.cap))) ⟨Ex.new nL2, [], upd_same, .nil⟩ (fun j H' _ z => SqL.of ((E5.trans z.1) _ _ (hid_get hl4))) ?_ ?_⟩
      · rintro j y H6 hy ⟨E6, rs, hL, hR⟩
        obtain ⟨b, hb, rfl⟩ := refs_get hy
        obtain ⟨sg, hsg, ra, ca, s1, s2, s3⟩ := hA4.at_ hb
        have hj : j < segs.length := (List.getElem?_eq_some_iff.mp hsg).1
        refine ⟨rfl, tYes_in ?_⟩
        simp only [wipe, _root_.L2.start, List.map_cons, List.map_nil, List.length_cons, List.length_nil, Nat.reduceAdd, Nat.reduceSub, List.replicate_succ, List.replicate_zero, List.cons_append, List.nil_append, List.set_cons_zero, List.set_cons_succ]
        refine ⟨_, rfl, b, _, _, _, rfl, rfl, SqT.of ((E5.trans E6) _ _ s1), atI_nat (j := 2) rfl, _, hL, sz_lt (by rw [List.length_map, hR.1, List.length_map, List.length_take]; omega), E6.mut nL2, rs ++ [ca], by rw [upd_same, List.map_append]; rfl, ?_⟩
        rw [take_snoc1 hsg, List.map_append]
        exact hR.snoc s3
      rintro H6 ⟨E6, rs2, hL2, hR2⟩
      rw [List.length_map, lA, List.take_length] at hR2
      have E46 := E5.trans E6
      have T6 : TurnAt C p a H6 l x L1 L2 as rs1 rs2 segs := by
        have X6 := Px.ofEx X4.pool E46
        have P5 := X4.pool.kept E5
        exact ⟨X6.pool, X6.get hl4, hA4.imp fun _ _ z => z.ex E46, ⟨pp, rr, cc, j1, j2, j3, hT.ex E46⟩, by rw [hid_ne (X4.pool.ne nL1)]; exact E6 _ _ hL1, hR1.imp fun _ _ z => E46 _ _ z, by rw [hid_ne (P5.ne nL2)]; exact hL2, hR2.imp fun _ _ z => E46 _ _ z⟩
      have X06 : Px p a H0 H6 := (X1.trans (X2.trans X4)).more E46
      clear hL1 hL2 hR1 hR2 nL1 nL2 E46 E5 E6 hl4 hA4 hT j1 j2 j3 X4 hl2 hl hA nl ngv E4
      have hb : ∀ s ∈ segs, ∀ j, -(2 ^ 64) < pe_ s.res j ∧ pe_ s.res j < 2 ^ 64 := fun s hs j => by
        have h1 := (hRng s hs).1
        have h2 := (hBig s hs).1
        have h3 : (0 : Int) ≤ s.res.1 := h1.1
        have h4 : s.res.1 ≤ s.res.2 := h1.2
        match j with
        | 0 => exact ⟨by show -(2 ^ 64) < s.res.1; omega, by show s.res.1 < 2 ^ 64; omega⟩
        | 1 => exact ⟨by show -(2 ^ 64) < s.res.2; omega, by show s.res.2 < 2 ^ 64; omega⟩
        | _ + 2 => exact ⟨by show (-(2 ^ 64) : Int) < 0; decide, by show (0 : Int) < 2 ^ 64; decide⟩
      have hb' : ∀ j, ∀ z ∈ (segs.map (·.res)).map fun r => pe_ r j, -(2 ^ 64) < z ∧ z < 2 ^ 64 := fun j z hz => by
        obtain ⟨g, hg, rfl⟩ := List.mem_map.mp hz
        obtain ⟨sg, hsg, rfl⟩ := List.mem_map.mp hg
        exact hb sg hsg j
      -- the unit
      dsimp only [gName, tSeq, tAsg]
      refine tif_by (tt := tOp _ _ _) (fun z H' => Px p a H6 H' ∧ ∃ u : Int, z = .int u ∧ 1 ≤ u ∧ u ≤ 301) (fun Q' k => ?_) ?_
      · refine ⟨_, rfl, p, a, 300, rfl, by decide, by decide, T6.pool, fun v H7 hv X7 _ => ⟨_, _, rfl, rfl, (by show 3 ≤ sizeLine; decide), fun m nm => ⟨_, rfl, p, a, 3, rfl, by decide, by decide, (X7.new nm).pool, fun v2 H8 hv2 X8 kp => ?_⟩⟩⟩
        have hm8 : H8 m = some (.lst [.int 1, .int 2, .int (1 + (v : Int))]) := by rw [kp _ (X7.pool.ne nm)]; exact upd_same
        have X68 := (X7.new nm).trans X8
        obtain rfl | rfl | rfl : v2 = 0 ∨ v2 = 1 ∨ v2 = 2 := by omega
        · exact ⟨_, _, _, _, rfl, rfl, SqL.of hm8, at_of (j := 0) rfl rfl, k _ _ ⟨X68, _, rfl, by omega, by omega⟩⟩
        · exact ⟨_, _, _, _, rfl, rfl, SqL.of hm8, at_of (j := 1) rfl rfl, k _ _ ⟨X68, _, rfl, by omega, by omega⟩⟩
        · exact ⟨_, _, _, _, rfl, rfl, SqL.of hm8, at_of (j := 2) rfl rfl, k _ _ ⟨X68, _, rfl, by omega, by omega⟩⟩
      rintro _ H8 ⟨X8, u, rfl, hu1, hu2⟩
      have T8 := T6.px X8
      have X08 := X06.trans X8
      clear T6 X8 X06
      have hdiv : CDivW 0 u := ⟨by omega, log2_small (by omega) (by omega)⟩
      have eN : (((as.map V.ref).length : Nat) : Int) + 1 = ((segs.length + 1 : Nat) : Int) := by rw [List.length_map, lA]; omega
      have hlen : (segs.map (·.res)).length = segs.length ∧ (segs.map (·.cap)).length = segs.length := ⟨List.length_map _, List.length_map _⟩
      refine ⟨_, rfl, _, _, rfl, .inl (SqL.of (hid_get T8.hl)), _, _, rfl, rfl, _, rfl, by omega, by omega, for_range (n := ((((as.map V.ref).length : Nat) : Int) + 1).toNat) (fun i σ H' => Px p a H8 H' ∧ ∃ x8 x9 x10 x11 x12 x13 x14 x15 x16 : Option V, σ = [some (.ref sa), some (.ref p), some (.int (0 + (turn : Int))), some (.ref l), some (.ref x), some (.ref L1), some (.ref L2), some (.int u), x8, x9, x10, x11, x12, x13, x14, x15, x16, none, none])
        ⟨Px.refl T8.pool, _, _, _, _, _, _, _, _, _, rfl⟩ ?_ ?_⟩
      · rintro i σ H9 hi ⟨X9, y8, y9, y10, y11, y12, y13, y14, y15, y16, rfl⟩
        rw [eN] at hi
        have hil : i ≤ segs.length := by omega
        have T9 := T8.px X9
        rw [Int.zero_add]
        -- low
        refine ⟨_, rfl, _, rfl, _, rfl, L1, rfl, ⟨_, SqL.of (hid_get T9.h1)⟩, fun R1 nR1 => wkPr 0 (hid_get T9.h1) T9.a1 (by omega) nR1 (fun N b r H' hpr hx => ?_) ?_⟩
        · obtain ⟨xs, g1, g2, g3⟩ := hx
          refine ⟨rfl, tYes_in ?_⟩
          simp only [wipe, _root_.L2.start, List.map_cons, List.map_nil, List.length_cons, List.length_nil, Nat.reduceAdd, Nat.reduceSub, List.replicate_succ, List.replicate_zero, List.cons_append, List.nil_append, List.set_cons_zero, List.set_cons_succ]
          exact ⟨_, rfl, b, _, _, _, rfl, rfl, SqT.of hpr, atI_nat (j := 0) rfl, _, g1, g2, g3⟩
        rintro H10 E10 hR1
        have T10 := T9.ex E10
        refine ⟨_, rfl, L2, rfl, ⟨_, SqL.of (hid_get T10.h2)⟩, fun R2 nR2 => wkPr 0 (hid_get T10.h2) T10.a2 (by omega) nR2 (fun N b r H' hpr hx => ?_) ?_⟩
        · obtain ⟨xs, g1, g2, g3⟩ := hx
          refine ⟨rfl, tYes_in ?_⟩
          simp only [wipe, _root_.L2.start, List.map_cons, List.map_nil, List.length_cons, List.length_nil, Nat.reduceAdd, Nat.reduceSub, List.replicate_succ, List.replicate_zero, List.cons_append, List.nil_append, List.set_cons_zero, List.set_cons_succ]
          exact ⟨_, rfl, b, _, _, _, rfl, rfl, SqT.of hpr, atI_nat (j := 0) rfl, _, g1, g2, g3⟩
        rintro H11 E11 hR2
        have T11 := T10.ex E11
        refine ⟨l, as, segs, i, R1, R2, _, _, rfl, hid_get T11.hl, T11.hA, hPar, hsl, hil, E11 _ _ hR1, hR2, hb' 0, by rw [List.length_map, hlen.1], by rw [List.length_map, hlen.2], fun H12 E12 => ?_⟩
        have T12 := T11.ex E12
        have E912 := E10.trans (E11.trans E12)
        clear hR1 hR2 nR1 nR2 T10 T11 E10 E11 E12
        -- high
        refine ⟨_, rfl, _, rfl, _, rfl, L1, rfl, ⟨_, SqL.of (hid_get T12.h1)⟩, fun R1 nR1 => wkPr 1 (hid_get T12.h1) T12.a1 (by omega) nR1 (fun N b r H' hpr hx => ?_) ?_⟩
        · obtain ⟨xs, g1, g2, g3⟩ := hx
          refine ⟨rfl, tYes_in ?_⟩
          simp only [wipe, _root_.L2.start, List.map_cons, List.map_nil, List.length_cons, List.length_nil, Nat.reduceAdd, Nat.reduceSub, List.replicate_succ, List.replicate_zero, List.cons_append, List.nil_append, List.set_cons_zero, List.set_cons_succ]
          exact ⟨_, rfl, b, _, _, _, rfl, rfl, SqT.of hpr, atI_nat (j := 1) rfl, _, g1, g2, g3⟩
        rintro H13 E13 hR1
        have T13 := T12.ex E13
        refine ⟨_, rfl, L2, rfl, ⟨_, SqL.of (hid_get T13.h2)⟩, fun R2 nR2 => wkPr 1 (hid_get T13.h2) T13.a2 (by omega) nR2 (fun N b r H' hpr hx => ?_) ?_⟩
        · obtain ⟨xs, g1, g2, g3⟩ := hx
          refine ⟨rfl, tYes_in ?_⟩
          simp only [wipe, _root_.L2.start, List.map_cons, List.map_nil, List.length_cons, List.length_nil, Nat.reduceAdd, Nat.reduceSub, List.replicate_succ, List.replicate_zero, List.cons_append, List.nil_append, List.set_cons_zero, List.set_cons_succ]
          exact ⟨_, rfl, b, _, _, _, rfl, rfl, SqT.of hpr, atI_nat (j := 1) rfl, _, g1, g2, g3⟩
        rintro H14 E14 hR2
        have T14 := T13.ex E14
        refine ⟨l, as, segs, i, R1, R2, _, _, rfl, hid_get T14.hl, T14.hA, hPar, hsl, hil, E14 _ _ hR1, hR2, hb' 1, by rw [List.length_map, hlen.1], by rw [List.length_map, hlen.2], fun H15 E15 => ?_⟩
        have T15 := T14.ex E15
        have E915 := E912.trans (E13.trans (E14.trans E15))
        clear hR1 hR2 nR1 nR2 T12 T13 T14 E13 E14 E15 E912
        -- due
        refine ⟨_, rfl, _, rfl, _, _, rfl, rfl, hdiv, _, rfl, _, rfl, _, _, rfl, rfl, _, _, rfl, rfl, _, rfl, _, _, rfl, rfl, hdiv, (by show 2 ≤ sizeLine; decide), fun dt ndt => ?_⟩
        dsimp only
        have eA : delayV segs ((segs.map (·.res)).map fun r => pe_ r 0) ((segs.map (·.cap)).map fun r => pe_ r 0) i = endV segs i 0 := rfl
        have eB : delayV segs ((segs.map (·.res)).map fun r => pe_ r 1) ((segs.map (·.cap)).map fun r => pe_ r 1) i = endV segs i 1 := rfl
        have eC := ceil_eq (x := endV segs i 1) (u := u) (by omega)
        rw [eA, eB, eC]
        have E16 : Ex H15 (upd H15 dt (.tup [.int (endV segs i 0 / u), .int (-((-endV segs i 1) / u))])) := Ex.new ndt
        have hdt : upd H15 dt (.tup [.int (endV segs i 0 / u), .int (-((-endV segs i 1) / u))]) dt = some (.tup [.int (endV segs i 0 / u), .int (-((-endV segs i 1) / u))]) := upd_same
        generalize upd H15 dt (.tup [.int (endV segs i 0 / u), .int (-((-endV segs i 1) / u))]) = H16 at *
        have T16 := T15.ex E16
        obtain ⟨pp, rr, cc, _, _, _, hT16⟩ := T16.hT
        obtain ⟨dx6, hob⟩ := hT16.ob
        have no : ∀ m : Str, ¬ m = "_capacitances" → ¬ m = "_resistances" → ¬ m = "_parents" → (tfl pp rr cc).lookup m = none := fun m a b d => tfl_no _ _ _ a b d
        -- actual
        refine ⟨_, rfl, x, dx6, _, rfl, hob, no "delay_range" (by decide +kernel) (by decide +kernel) (by decide +kernel), _, rfl, _, rfl, rfl, rfl, x, pp, rr, cc, segs, i, u, rfl, hT16, hPar, hsl, hil, hb, by omega, fun _ act H17 E17 nact hact => ?_, fun z => (by omega : False).elim⟩
        have T17 := T16.ex E17
        have X917 := X9.more (E915.trans (E16.trans E17))
        have hdt17 := E17 _ _ hdt
        obtain ⟨pp, rr, cc, _, _, _, hT17⟩ := T17.hT
        have hob17 := E17 _ _ hob
        -- both answers
        refine ⟨fun σ' H' => Ex H17 H' ∧ σ' = [some (.ref sa), some (.ref p), some (.int (0 + (turn : Int))), some (.ref l), some (.ref x), some (.ref L1), some (.ref L2), some (.int u), some (.int (i : Int)), some (.int (endV segs i 0)), some (.int (endV segs i 1)), some (.ref dt), some (.ref act), y13, y14, y15, y16, none, none], ?_, ?_⟩
        · refine ⟨_, rfl, _, rfl, _, _, _, rfl, rep2 hact, rep2 hdt17, okD2, _, rfl, it0 rfl ⟨_, rfl, x, dx6, _, rfl, hob17, no "delay_range" (by decide +kernel) (by decide +kernel) (by decide +kernel), _, rfl, x, _, _, _, segs, i, 1, rfl, hT17, hPar, hsl, hil, hb, by decide, fun _ q2 H18 E18 nq2 hq2 => ?_, fun z => absurd z (by decide)⟩⟩
          refine ⟨_, rfl, _, rfl, (by show 2 ≤ sizeLine; decide), fun t1 nt1 => ?_⟩
          rw [Int.ediv_one, Int.ediv_one, Int.neg_neg] at hq2
          exact ⟨_, _, _, rfl, rep2 (Ex.new nt1 _ _ hq2), rep2 upd_same, okD2, _, rfl, it0 rfl ⟨E18.trans (Ex.new nt1), rfl⟩⟩
        rintro σ' H18 ⟨E18, rfl⟩
        have T18 := T17.ex E18
        have X18 := X917.more E18
        have hact18 := E18 _ _ hact
        clear hact hdt17 hdt hT16 hT17 hob hob17 T17 T16 T15 X917 E18 E17 E16 E915 ndt nact no
        -- values within
        refine ⟨_, rfl, by decide, by decide, for_range (n := 3) (fun k σ H' => Px p a H18 H' ∧ ∃ z13 z14 z15 z16 : Option V, σ = [some (.ref sa), some (.ref p), some (.int (0 + (turn : Int))), some (.ref l), some (.ref x), some (.ref L1), some (.ref L2), some (.int u), some (.int (i : Int)), some (.int (endV segs i 0)), some (.int (endV segs i 1)), some (.ref dt), some (.ref act), z13, z14, z15, z16, none, none])
          ⟨Px.refl T18.pool, _, _, _, _, rfl⟩ ?_ ?_⟩
        · rintro k σ H19 hk ⟨X19, z13, z14, z15, z16, rfl⟩
          have T19 := T18.px X19
          refine ⟨_, rfl, _, rfl, p, a, L1, rs1, _, rfl, T19.pool, T19.h1, T19.a1, by omega, fun r hr => ?_, fun q1 H20 zs1 X20 nq1 hq1 hz1 => ?_⟩
          · obtain ⟨sg, hsg, rfl⟩ := List.mem_map.mp hr
            have h1 := (hRng sg hsg).1
            have h2 := (hBig sg hsg).1
            have h3 : (0 : Int) ≤ sg.res.1 := h1.1
            exact ⟨h1.2, by omega⟩
          have T20 := T19.px X20
          refine ⟨_, rfl, _, rfl, p, a, L2, rs2, _, rfl, T20.pool, T20.h2, T20.a2, by omega, fun r hr => ?_, fun q2 H21 zs2 X21 nq2 hq2 hz2 => ?_⟩
          · obtain ⟨sg, hsg, rfl⟩ := List.mem_map.mp hr
            have h1 := (hRng sg hsg).2
            have h2 := (hBig sg hsg).2
            have h3 : (0 : Int) ≤ sg.cap.1 := h1.1
            exact ⟨h1.2, by omega⟩
          have T21 := T20.px X21
          have hq1' := X21.at_ hq1
          have hq2' := hid_get hq2
          have l1 : zs1.length = segs.length := by rw [hz1.1, hlen.1]
          have l2 : zs2.length = segs.length := by rw [hz2.1, hlen.2]
          have hb1 : ∀ z ∈ zs1, -(2 ^ 64) < z ∧ z < 2 ^ 64 := fun z hz => by
            obtain ⟨k, hk, rfl⟩ := List.getElem_of_mem hz
            obtain ⟨r, hr, h1, h2⟩ := hz1.at_ (List.getElem?_eq_some_iff.mpr ⟨hk, rfl⟩)
            obtain ⟨sg, hsg, rfl⟩ := List.mem_map.mp (List.mem_of_getElem? hr)
            have h3 := (hRng sg hsg).1
            have h4 := (hBig sg hsg).1
            have h5 : (0 : Int) ≤ sg.res.1 := h3.1
            omega
          obtain ⟨pp, rr, cc, _, _, _, hT21⟩ := T21.hT
          obtain ⟨dx7, hob⟩ := hT21.ob
          have no : ∀ m : Str, ¬ m = "_capacitances" → ¬ m = "_resistances" → ¬ m = "_parents" → (tfl pp rr cc).lookup m = none := fun m a b d => tfl_no _ _ _ a b d
          -- delay
          refine ⟨_, rfl, x, dx7, _, rfl, hob, no "delay" (by decide +kernel) (by decide +kernel) (by decide +kernel), _, rfl, _, rfl, _, rfl, x, pp, rr, cc, segs, i, q1, q2, zs1, zs2, rfl, hT21, hPar, hsl, hil, hq1', hq2', hb1, by omega, by omega, fun _ _ H22 E22 => ?_, fun z => absurd ⟨l1, l2⟩ z⟩
          have T22 := T21.ex E22
          refine ⟨_, rfl, _, rfl, _, rfl, _, rfl, _, rfl, l, as, segs, i, q1, q2, zs1, zs2, rfl, hid_get T22.hl, T22.hA, hPar, hsl, hil, E22 _ _ hq1', E22 _ _ hq2', hb1, l1, l2, fun H23 E23 => ⟨_, _, _, rfl, .int _, .int _, trivial, _, rfl, it0 rfl ?_⟩⟩
          have X23 := ((X19.trans (X20.trans X21)).more E22).more E23
          have hact23 := px_tup X23 _ _ hact18
          -- between the ends
          have hlo : endV segs i 0 ≤ delayV segs zs1 zs2 i := delayV_le (nn_getD fun r hr => by
            obtain ⟨sg, hsg, rfl⟩ := List.mem_map.mp hr
            exact (hRng sg hsg).1.1) (nn_getD fun r hr => by
            obtain ⟨sg, hsg, rfl⟩ := List.mem_map.mp hr
            exact (hRng sg hsg).2.1) (fun k => (all2_getD hz1 k).1) (fun k => (all2_getD hz2 k).1)
          have hhi : delayV segs zs1 zs2 i ≤ endV segs i 1 := delayV_le (fun k => Int.le_trans (nn_getD (fun r hr => by
            obtain ⟨sg, hsg, rfl⟩ := List.mem_map.mp hr
            exact (hRng sg hsg).1.1) k) (all2_getD hz1 k).1) (fun k => Int.le_trans (nn_getD (fun r hr => by
            obtain ⟨sg, hsg, rfl⟩ := List.mem_map.mp hr
            exact (hRng sg hsg).2.1) k) (all2_getD hz2 k).1) (fun k => (all2_getD hz1 k).2) (fun k => (all2_getD hz2 k).2)
          have f1 := floor_le (x := endV segs i 0) (u := u) (by omega)
          have f2 := ceil_ge (x := endV segs i 1) (u := u) (by omega)
          have c1 : decide (u * (endV segs i 0 / u) > delayV segs zs1 zs2 i) = false := decide_eq_false (by omega)
          have c2 : decide (u * (-((-endV segs i 1) / u)) < delayV segs zs1 zs2 i) = false := decide_eq_false (by omega)
          refine ⟨_, rfl, _, rfl, _, _, _, _, rfl, rfl, SqT.of hact23, atI_nat (j := 0) rfl, _, _, rfl, rfl, .inl ⟨by omega, by omega⟩, _, rfl, _, _, rfl, rfl, _, rfl, it0 c1 ⟨_, rfl, _, rfl, _, _, _, _, rfl, rfl, SqT.of hact23, atI_nat (j := 1) rfl, _, _, rfl, rfl, .inl ⟨by omega, by omega⟩, _, rfl, _, _, rfl, rfl, _, rfl, it0 c2 ?_⟩⟩
          exact ⟨X23, _, _, _, _, rfl⟩
        rintro σ H19 ⟨X19, z13, z14, z15, z16, rfl⟩
        have T19 := T18.px X19
        have hal : (as.map V.ref).length = segs.length := by rw [List.length_map, lA]
        have hones : ∀ n : Nat, ∀ z ∈ List.replicate n (1 : Int), -(2 ^ 64) < z ∧ z < 2 ^ 64 := fun n z hz => by rw [(List.mem_replicate.mp hz).2]; decide
        have e1 : ((((as.map V.ref).length : Nat) : Int) + 1).toNat = segs.length + 1 := by omega
        have e2 : (((as.map V.ref).length : Nat) : Int).toNat = segs.length := by omega
        -- one value too many
        obtain ⟨pp, rr, cc, _, _, _, hT19⟩ := T19.hT
        have hl19 := hid_get T19.hl
        refine ⟨_, rfl, _, rfl, (by show 1 ≤ sizeLine; decide), fun m1 nm1 => ⟨_, rfl, _, _, rfl, .inl (SqL.of (Ex.new nm1 _ _ hl19)), _, _, rfl, rfl, m1, _, [.int 1], rfl, rfl, upd_same, by omega, by omega, (by rw [e1]; exact sz_of (by show 1 * _ ≤ _; omega)), fun m2 nm2 => ?_⟩⟩
        rw [e1, rep_one]
        have E20 := (Ex.new (o := .lst [.int 1]) nm1).trans (Ex.new (o := .lst ((List.replicate (segs.length + 1) (1 : Int)).map V.int)) nm2)
        have hm2 : upd (upd H19 m1 (.lst [.int 1])) m2 (.lst ((List.replicate (segs.length + 1) (1 : Int)).map V.int)) m2 = some (.lst ((List.replicate (segs.length + 1) (1 : Int)).map V.int)) := upd_same
        generalize upd (upd H19 m1 (.lst [.int 1])) m2 (.lst ((List.replicate (segs.length + 1) (1 : Int)).map V.int)) = H20 at *
        have hl20 := E20 _ _ hl19
        refine ⟨(by show 1 ≤ sizeLine; decide), fun m3 nm3 => ⟨_, rfl, _, _, rfl, .inl (SqL.of (Ex.new nm3 _ _ hl20)), m3, _, [.int 1], rfl, rfl, upd_same, by omega, by omega, (by rw [e2]; exact sz_of (by show 1 * _ ≤ _; omega)), fun m4 nm4 => ?_⟩⟩
        rw [e2, rep_one]
        have E21 := (Ex.new (o := .lst [.int 1]) nm3).trans (Ex.new (o := .lst ((List.replicate segs.length (1 : Int)).map V.int)) nm4)
        have hm4 : upd (upd H20 m3 (.lst [.int 1])) m4 (.lst ((List.replicate segs.length (1 : Int)).map V.int)) m4 = some (.lst ((List.replicate segs.length (1 : Int)).map V.int)) := upd_same
        generalize upd (upd H20 m3 (.lst [.int 1])) m4 (.lst ((List.replicate segs.length (1 : Int)).map V.int)) = H21 at *
        have E1921 := E20.trans E21
        refine ⟨x, pp, rr, cc, segs, i, _, _, _, rfl, hT19.ex E1921, hPar, hsl, hil, hb, .inl ⟨rfl, m2, m4, _, _, rfl, rfl, E21 _ _ hm2, hm4, hones _, by rw [List.length_replicate]; omega, by rw [List.length_replicate]; omega, fun z => by have := z.1; rw [List.length_replicate] at this; omega⟩, fun H22 E22 => ⟨_, rfl, it0 rfl ?_⟩⟩
        have E1922 := E1921.trans E22
        have hl22 := E1922 _ _ hl19
        have hT22 := hT19.ex E1922
        clear hm2 hm4 hl20 nm1 nm2 nm3 nm4 E20 E21 E22
        -- the other way round
        refine ⟨_, rfl, _, rfl, (by show 1 ≤ sizeLine; decide), fun m1 nm1 => ⟨_, rfl, _, _, rfl, .inl (SqL.of (Ex.new nm1 _ _ hl22)), m1, _, [.int 1], rfl, rfl, upd_same, by omega, by omega, (by rw [e2]; exact sz_of (by show 1 * _ ≤ _; omega)), fun m2 nm2 => ?_⟩⟩
        rw [e2, rep_one]
        have E23 := (Ex.new (o := .lst [.int 1]) nm1).trans (Ex.new (o := .lst ((List.replicate segs.length (1 : Int)).map V.int)) nm2)
        have hm2 : upd (upd H22 m1 (.lst [.int 1])) m2 (.lst ((List.replicate segs.length (1 : Int)).map V.int)) m2 = some (.lst ((List.replicate segs.length (1 : Int)).map V.int)) := upd_same
        generalize upd (upd H22 m1 (.lst [.int 1])) m2 (.lst ((List.replicate segs.length (1 : Int)).map V.int)) = H23 at *
        have hl23 := E23 _ _ hl22
        refine ⟨(by show 1 ≤ sizeLine; decide), fun m3 nm3 => ⟨_, rfl, _, _, rfl, .inl (SqL.of (Ex.new nm3 _ _ hl23)), _, _, rfl, rfl, m3, _, [.int 1], rfl, rfl, upd_same, by omega, by omega, (by rw [e1]; exact sz_of (by show 1 * _ ≤ _; omega)), fun m4 nm4 => ?_⟩⟩
        rw [e1, rep_one]
        have E24 := (Ex.new (o := .lst [.int 1]) nm3).trans (Ex.new (o := .lst ((List.replicate (segs.length + 1) (1 : Int)).map V.int)) nm4)
        have hm4 : upd (upd H23 m3 (.lst [.int 1])) m4 (.lst ((List.replicate (segs.length + 1) (1 : Int)).map V.int)) m4 = some (.lst ((List.replicate (segs.length + 1) (1 : Int)).map V.int)) := upd_same
        generalize upd (upd H23 m3 (.lst [.int 1])) m4 (.lst ((List.replicate (segs.length + 1) (1 : Int)).map V.int)) = H24 at *
        have E2224 := E23.trans E24
        refine ⟨x, pp, rr, cc, segs, i, _, _, _, rfl, hT22.ex E2224, hPar, hsl, hil, hb, .inl ⟨rfl, m2, m4, _, _, rfl, rfl, E24 _ _ hm2, hm4, hones _, by rw [List.length_replicate]; omega, by rw [List.length_replicate]; omega, fun z => by have := z.2; rw [List.length_replicate] at this; omega⟩, fun H25 E25 => ⟨_, rfl, it0 rfl ?_⟩⟩
        have E1925 := E1922.trans (E2224.trans E25)
        have hT25 := hT19.ex E1925
        have X25 := X19.more E1925
        clear hm2 hm4 hl23 nm1 nm2 nm3 nm4 E23 E24 E25 hl22 hT22 E1922 E2224
        -- a unit below 1
        refine ⟨_, rfl, _, rfl, Nat.zero_le _, fun m1 nm1 => ⟨Nat.zero_le _, fun m2 nm2 => ⟨_, rfl, p, a, 3, rfl, by decide, by decide, ((X25.new nm1).new nm2).pool, fun v H26 hv X26 _ => ⟨_, rfl, ?_⟩⟩⟩⟩
        have X1926 := ((X19.more E1925).new (o := .lst []) nm1).new (o := .lst []) nm2
        have X27 := X1926.trans X26
        obtain ⟨p3, r3, c3, _, _, _, hT26⟩ := (T18.px X27).hT
        refine ⟨x, p3, r3, c3, segs, i, _, _, _, rfl, hT26, hPar, hsl, hil, hb, .inr ⟨_, rfl, by omega⟩, fun H28 E28 => ⟨_, rfl, it0 rfl ?_⟩⟩
        exact ⟨X18.trans (X27.more E28), _, _, _, _, _, _, _, _, _, rfl⟩
      · rintro σ H9 ⟨X9, y8, y9, y10, y11, y12, y13, y14, y15, y16, rfl⟩
        exact ⟨X08.trans X9, _, _, _, _, _, _, _, _, _, _, _, _, _, _, _, rfl⟩
    · rintro σ H1 ⟨X1, x2, x3, x4, x5, x6, x7, x8, x9, x10, x11, x12, x13, x14, x15, x16, rfl⟩
      exact q H1
end
end G
namespace G
open PySem PySem.Spec PyProof.Rows L2
/-- the defs and the built-in names as the top has left them -/
structure All (K : PySem.W.Frag) (mg : Str → Option Value) : Prop where
  d_wall : Dfd K mg "_wall" s_wall ["k"]
  d_law_pool : Dfd K mg "_law_pool" s_law_pool ["script"]
  d_law_spread : Dfd K mg "_law_spread" s_law_spread ["cell"]
  d_law_draw : Dfd K mg "_law_draw" s_law_draw ["pool", "many"]
  d_law_same : Dfd K mg "_law_same" s_law_same ["actual", "due"]
  d_law_segments : Dfd K mg "_law_segments" s_law_segments ["pool", "most"]
  d_law_path : Dfd K mg "_law_path" s_law_path ["segments", "node"]
  d_law_delay : Dfd K mg "_law_delay" s_law_delay ["segments", "node", "resistances", "capacitances"]
  d_law_refused : Dfd K mg "_law_refused" s_law_refused ["tree", "node", "first", "second", "unit"]
  d_law_within : Dfd K mg "_law_within" s_law_within ["pool", "pairs"]
  z_tuple : mg "tuple" = none
  z_list : mg "list" = none
  z_enumerate : mg "enumerate" = none
  z_len : mg "len" = none
  z_range : mg "range" = none
  z_sum : mg "sum" = none
  z_int : mg "int" = none
  z_isinstance : mg "isinstance" = none
  z_bool : mg "bool" = none
  z_str : mg "str" = none
  z_ValueError : mg "ValueError" = none
  k_WireTree : ∃ C : Addr, Cl_WireTree K mg C
  i_WrongCount : ∃ C : Addr, ExcI K mg "WrongCount" C ∧ IsK K mg C "WrongCount" true ∧ IsK K mg C "BadArgument" false ∧ CatchK K mg C "SignoffError"
  i_BadArgument : ∃ C : Addr, ExcI K mg "BadArgument" C ∧ IsK K mg C "WrongCount" false ∧ IsK K mg C "BadArgument" true ∧ CatchK K mg C "SignoffError"
  i_BadRange : ∃ C : Addr, ExcI K mg "BadRange" C ∧ IsK K mg C "BadRange" true
end G
namespace G
open PySem PySem.Spec PyProof.Rows L2
theorem glue {P : Program} {w : World} {K : PySem.W.Frag} {mg : Str → Option Value} {base : Heap} (A : All K mg) {f : Addr} {fd : FuncData} (F : Fun K "law" "law" s_law f fd) : FnOk P w K mg base CX0 6 f fd ["script"] (spLaw K) := by
  have TL : TxtL mg := ⟨A.z_int, A.z_len, A.z_list, A.z_range⟩
  have TS : TxtS mg := ⟨A.z_isinstance, A.z_tuple, A.z_list, A.z_len, A.z_range, A.z_bool, A.z_int, A.z_str⟩
  have TT : TxtT mg := ⟨A.z_len, A.z_list, A.z_tuple, A.z_range, A.z_enumerate⟩
  have TD : TxtD mg := ⟨A.z_len, A.z_range, A.z_sum⟩
  obtain ⟨WC, UW, w1, w2, w3⟩ := A.i_WrongCount
  obtain ⟨Bc, UB, b1, b2, b3⟩ := A.i_BadArgument
  obtain ⟨R, UR, _⟩ := A.i_BadRange
  obtain ⟨S, gS, hS⟩ := id w3
  obtain ⟨C, W⟩ := A.k_WireTree
  obtain ⟨fi, di, Mi, Fi, bi⟩ := W.m_init
  obtain ⟨fc, dc, Mc, Fc, bc⟩ := W.m_check_node
  obtain ⟨f0, d0, M0, F0, k0⟩ := W.m_path
  obtain ⟨f1, d1, M1, F1, k1⟩ := W.m_delay
  obtain ⟨f2, d2, M2, F2, k2, ds, dv, bd⟩ := W.m_delay_range
  have hd := drawX (P := P) (w := w) (base := base) (ok_law_draw A.d_law_draw TL (ok_law_spread A.d_law_spread TL))
  have gc := ok_WireTree_check_node (P := P) (w := w) (base := base) Fc W TT UB.u
  have gi := ok_WireTree_init (P := P) (w := w) (base := base) Fi W TT UB.u UR.u
  have g0 := ok_WireTree_path (P := P) (w := w) (base := base) F0 W Mc gc bc
  have g1 := ok_WireTree_delay (P := P) (w := w) (base := base) F1 W TD UW.u Mc gc bc M0 g0 k0
  have g2 := ok_WireTree_delay_range (P := P) (w := w) (base := base) F2 W UB.u Mc gc bc M1 g1 k1
  exact fn_law F TS W (ok_law_pool A.d_law_pool TL) hd (ok_law_segments A.d_law_segments TS hd) (ok_law_delay A.d_law_delay TS (ok_law_path A.d_law_path TS))
    (ok_law_refused A.d_law_refused TS W.cl UW.u.gC UB.u.gC gS UW.isc UB.isc (w1.at_ UW.u.gC) (w2.at_ UB.u.gC) (b1.at_ UW.u.gC) (b2.at_ UB.u.gC) hS (b3.at_ gS) M1 g1 k1 M2 g2 k2)
    (ok_law_within A.d_law_within hd) (ok_law_same A.d_law_same TS 2) Mi gi bi M1 g1 k1 M2 g2 k2 dv bd
end G
namespace G
open PySem PySem.Spec PyProof.Rows L2
theorem all_mk {l : PySem.W.OpenLaw} {w : World} {K : PySem.W.Frag} {h : Heap} {mg : Str → Option Value} {fa f0 f1 f2 f3 f4 f5 f6 f7 f8 f9 f10 : Addr} (X : K.In h) (G : h.Ns mainGlobals mg) (hfa : mg "law" = some (.ref fa))
    {od0 an0 od1 an1 od2 an2 od3 an3 od4 an4 od5 an5 od6 an6 od7 an7 od8 an8 od9 an9 od10 an10 : Option Addr} {sl0 sl1 sl2 sl3 sl4 sl5 sl6 sl7 sl8 sl9 sl10 : Array (Option Value)} {oc0 kv0 dc0 pm0 cd0 ct0 oc1 kv1 dc1 pm1 cd1 ct1 oc2 kv2 dc2 pm2 cd2 ct2 oc3 kv3 dc3 pm3 cd3 ct3 oc4 kv4 dc4 pm4 cd4 ct4 oc5 kv5 dc5 pm5 cd5 ct5 oc6 kv6 dc6 pm6 cd6 ct6 oc7 kv7 dc7 pm7 cd7 ct7 oc8 kv8 dc8 pm8 cd8 ct8 oc9 kv9 dc9 pm9 cd9 ct9 oc10 kv10 dc10 pm10 cd10 ct10 : Value}
    (a0 : PySem.W.nsIn K mainGlobals "_wall" = some (some (.ref f0))) (l0 : K.lookup f0 = some ⟨oc0, od0, .func (PySem.W.fnOf "_wall" "_wall" (defArgs s_wall) (defBody s_wall) (defScope s_wall) .none kv0 dc0 pm0 an0 cd0 ct0), sl0⟩) (c0 : PySem.W.codeIn K cd0 "_wall" = true) (k0 : PySem.W.keepIn K (.ref f0) = true)
    (a1 : PySem.W.nsIn K mainGlobals "_law_pool" = some (some (.ref f1))) (l1 : K.lookup f1 = some ⟨oc1, od1, .func (PySem.W.fnOf "_law_pool" "_law_pool" (defArgs s_law_pool) (defBody s_law_pool) (defScope s_law_pool) .none kv1 dc1 pm1 an1 cd1 ct1), sl1⟩) (c1 : PySem.W.codeIn K cd1 "_law_pool" = true) (k1 : PySem.W.keepIn K (.ref f1) = true)
    (a2 : PySem.W.nsIn K mainGlobals "_law_spread" = some (some (.ref f2))) (l2 : K.lookup f2 = some ⟨oc2, od2, .func (PySem.W.fnOf "_law_spread" "_law_spread" (defArgs s_law_spread) (defBody s_law_spread) (defScope s_law_spread) .none kv2 dc2 pm2 an2 cd2 ct2), sl2⟩) (c2 : PySem.W.codeIn K cd2 "_law_spread" = true) (k2 : PySem.W.keepIn K (.ref f2) = true)
    (a3 : PySem.W.nsIn K mainGlobals "_law_draw" = some (some (.ref f3))) (l3 : K.lookup f3 = some ⟨oc3, od3, .func (PySem.W.fnOf "_law_draw" "_law_draw" (defArgs s_law_draw) (defBody s_law_draw) (defScope s_law_draw) .none kv3 dc3 pm3 an3 cd3 ct3), sl3⟩) (c3 : PySem.W.codeIn K cd3 "_law_draw" = true) (k3 : PySem.W.keepIn K (.ref f3) = true)
    (a4 : PySem.W.nsIn K mainGlobals "_law_same" = some (some (.ref f4))) (l4 : K.lookup f4 = some ⟨oc4, od4, .func (PySem.W.fnOf "_law_same" "_law_same" (defArgs s_law_same) (defBody s_law_same) (defScope s_law_same) .none kv4 dc4 pm4 an4 cd4 ct4), sl4⟩) (c4 : PySem.W.codeIn K cd4 "_law_same" = true) (k4 : PySem.W.keepIn K (.ref f4) = true)
    (a5 : PySem.W.nsIn K mainGlobals "_law_segments" = some (some (.ref f5))) (l5 : K.lookup f5 = some ⟨oc5, od5, .func (PySem.W.fnOf "_law_segments" "_law_segments" (defArgs s_law_segments) (defBody s_law_segments) (defScope s_law_segments) .none kv5 dc5 pm5 an5 cd5 ct5), sl5⟩) (c5 : PySem.W.codeIn K cd5 "_law_segments" = true) (k5 : PySem.W.keepIn K (.ref f5) = true)
    (a6 : PySem.W.nsIn K mainGlobals "_law_path" = some (some (.ref f6))) (l6 : K.lookup f6 = some ⟨oc6, od6, .func (PySem.W.fnOf "_law_path" "_law_path" (defArgs s_law_path) (defBody s_law_path) (defScope s_law_path) .none kv6 dc6 pm6 an6 cd6 ct6), sl6⟩) (c6 : PySem.W.codeIn K cd6 "_law_path" = true) (k6 : PySem.W.keepIn K (.ref f6) = true)
    (a7 : PySem.W.nsIn K mainGlobals "_law_delay" = some (some (.ref f7))) (l7 : K.lookup f7 = some ⟨oc7, od7, .func (PySem.W.fnOf "_law_delay" "_law_delay" (defArgs s_law_delay) (defBody s_law_delay) (defScope s_law_delay) .none kv7 dc7 pm7 an7 cd7 ct7), sl7⟩) (c7 : PySem.W.codeIn K cd7 "_law_delay" = true) (k7 : PySem.W.keepIn K (.ref f7) = true)
    (a8 : PySem.W.nsIn K mainGlobals "_law_refused" = some (some (.ref f8))) (l8 : K.lookup f8 = some ⟨oc8, od8, .func (PySem.W.fnOf "_law_refused" "_law_refused" (defArgs s_law_refused) (defBody s_law_refused) (defScope s_law_refused) .none kv8 dc8 pm8 an8 cd8 ct8), sl8⟩) (c8 : PySem.W.codeIn K cd8 "_law_refused" = true) (k8 : PySem.W.keepIn K (.ref f8) = true)
    (a9 : PySem.W.nsIn K mainGlobals "_law_within" = some (some (.ref f9))) (l9 : K.lookup f9 = some ⟨oc9, od9, .func (PySem.W.fnOf "_law_within" "_law_within" (defArgs s_law_within) (defBody s_law_within) (defScope s_law_within) .none kv9 dc9 pm9 an9 cd9 ct9), sl9⟩) (c9 : PySem.W.codeIn K cd9 "_law_within" = true) (k9 : PySem.W.keepIn K (.ref f9) = true)
    (a10 : PySem.W.nsIn K mainGlobals "law" = some (some (.ref f10))) (l10 : K.lookup f10 = some ⟨oc10, od10, .func (PySem.W.fnOf "law" "law" (defArgs s_law) (defBody s_law) (defScope s_law) .none kv10 dc10 pm10 an10 cd10 ct10), sl10⟩) (c10 : PySem.W.codeIn K cd10 "law" = true) (k10 : PySem.W.keepIn K (.ref f10) = true)
    {iC0 iD0_0 iD0_1 iD0_2 : Addr} (w0_0 : PySem.W.nsIn K mainGlobals "WrongCount" = some (some (.ref iC0))) (w0_1 : PySem.W.excIn K iC0 [.type "ValueError", .type "Exception", .type "BaseException", .type "object"] "ValueError.__new__" = true) (w0_2 : PySem.W.keepIn K (.ref iC0) = true) (w0_3 : PySem.W.subIn K (.ref iC0) (.type "BaseException") = some true) (w0_4 : PySem.W.typeIn K (.ref iC0) = some (.type "type")) (w0_5 : PySem.W.hasDictIn K iC0 = true) (w0_6 : PySem.W.subIn K (.ref iC0) (.ref iC0) = some true) (w0_7 : PySem.W.findIn K (.ref iC0) "__getattribute__" = some (some (.builtin "BaseException.__getattribute__"))) (w0_8 : PySem.W.findIn K (.ref iC0) "__getattr__" = some none) (w0_9 : PySem.W.findIn K (.ref iC0) "__class__" = some (some (.builtin "object.__class__"))) (w0_10 : PySem.W.specialIn K (.builtin "object.__class__") "__get__" = some (some (.builtin "getset_descriptor.__get__"))) (w0_11 : PySem.W.takesIn K (.builtin "object.__class__") = some true) (w0_12 : PySem.W.mroIn K iC0 (.type "object") = some true) (w0_13 : PySem.W.nsIn K mainGlobals "WrongCount" = some (some (.ref iD0_0))) (w0_14 : PySem.W.kitOne K (.ref iC0) (.ref iD0_0) = some true) (w0_15 : PySem.W.nsIn K mainGlobals "BadArgument" = some (some (.ref iD0_1))) (w0_16 : PySem.W.kitOne K (.ref iC0) (.ref iD0_1) = some false) (w0_17 : PySem.W.nsIn K mainGlobals "SignoffError" = some (some (.ref iD0_2))) (w0_18 : PySem.W.subIn K (.ref iD0_2) (.type "BaseException") = some true) (w0_19 : PySem.W.hasDictIn K iD0_2 = true) (w0_20 : PySem.W.typeIn K (.ref iD0_2) = some (.type "type")) (w0_21 : PySem.W.subIn K (.ref iC0) (.ref iD0_2) = some true)
    {iC1 iD1_0 iD1_1 iD1_2 : Addr} (w1_0 : PySem.W.nsIn K mainGlobals "BadArgument" = some (some (.ref iC1))) (w1_1 : PySem.W.excIn K iC1 [.type "ValueError", .type "Exception", .type "BaseException", .type "object"] "ValueError.__new__" = true) (w1_2 : PySem.W.keepIn K (.ref iC1) = true) (w1_3 : PySem.W.subIn K (.ref iC1) (.type "BaseException") = some true) (w1_4 : PySem.W.typeIn K (.ref iC1) = some (.type "type")) (w1_5 : PySem.W.hasDictIn K iC1 = true) (w1_6 : PySem.W.subIn K (.ref iC1) (.ref iC1) = some true) (w1_7 : PySem.W.findIn K (.ref iC1) "__getattribute__" = some (some (.builtin "BaseException.__getattribute__"))) (w1_8 : PySem.W.findIn K (.ref iC1) "__getattr__" = some none) (w1_9 : PySem.W.findIn K (.ref iC1) "__class__" = some (some (.builtin "object.__class__"))) (w1_10 : PySem.W.specialIn K (.builtin "object.__class__") "__get__" = some (some (.builtin "getset_descriptor.__get__"))) (w1_11 : PySem.W.takesIn K (.builtin "object.__class__") = some true) (w1_12 : PySem.W.mroIn K iC1 (.type "object") = some true) (w1_13 : PySem.W.nsIn K mainGlobals "WrongCount" = some (some (.ref iD1_0))) (w1_14 : PySem.W.kitOne K (.ref iC1) (.ref iD1_0) = some false) (w1_15 : PySem.W.nsIn K mainGlobals "BadArgument" = some (some (.ref iD1_1))) (w1_16 : PySem.W.kitOne K (.ref iC1) (.ref iD1_1) = some true) (w1_17 : PySem.W.nsIn K mainGlobals "SignoffError" = some (some (.ref iD1_2))) (w1_18 : PySem.W.subIn K (.ref iD1_2) (.type "BaseException") = some true) (w1_19 : PySem.W.hasDictIn K iD1_2 = true) (w1_20 : PySem.W.typeIn K (.ref iD1_2) = some (.type "type")) (w1_21 : PySem.W.subIn K (.ref iC1) (.ref iD1_2) = some true)
    {iC2 iD2_0 : Addr} (w2_0 : PySem.W.nsIn K mainGlobals "BadRange" = some (some (.ref iC2))) (w2_1 : PySem.W.excIn K iC2 [.type "ValueError", .type "Exception", .type "BaseException", .type "object"] "ValueError.__new__" = true) (w2_2 : PySem.W.keepIn K (.ref iC2) = true) (w2_3 : PySem.W.subIn K (.ref iC2) (.type "BaseException") = some true) (w2_4 : PySem.W.typeIn K (.ref iC2) = some (.type "type")) (w2_5 : PySem.W.hasDictIn K iC2 = true) (w2_6 : PySem.W.subIn K (.ref iC2) (.ref iC2) = some true) (w2_7 : PySem.W.findIn K (.ref iC2) "__getattribute__" = some (some (.builtin "BaseException.__getattribute__"))) (w2_8 : PySem.W.findIn K (.ref iC2) "__getattr__" = some none) (w2_9 : PySem.W.findIn K (.ref iC2) "__class__" = some (some (.builtin "object.__class__"))) (w2_10 : PySem.W.specialIn K (.builtin "object.__class__") "__get__" = some (some (.builtin "getset_descriptor.__get__"))) (w2_11 : PySem.W.takesIn K (.builtin "object.__class__") = some true) (w2_12 : PySem.W.mroIn K iC2 (.type "object") = some true) (w2_13 : PySem.W.nsIn K mainGlobals "BadRange" = some (some (.ref iD2_0))) (w2_14 : PySem.W.kitOne K (.ref iC2) (.ref iD2_0) = some true)
    {yC0 : Addr} {f0m0 : Addr} {od0m0 an0m0 : Option Addr} {sl0m0 : Array (Option Value)} {oc0m0 kv0m0 dc0m0 pm0m0 cd0m0 ct0m0 : Value} {f0m1 : Addr} {od0m1 an0m1 : Option Addr} {sl0m1 : Array (Option Value)} {oc0m1 kv0m1 dc0m1 pm0m1 cd0m1 ct0m1 : Value} {f0m2 : Addr} {od0m2 an0m2 : Option Addr} {sl0m2 : Array (Option Value)} {oc0m2 kv0m2 dc0m2 pm0m2 cd0m2 ct0m2 : Value} {f0m3 kd0m3 : Addr} {kt0m3 : Tok} {od0m3 an0m3 : Option Addr} {sl0m3 : Array (Option Value)} {oc0m3 dc0m3 pm0m3 cd0m3 ct0m3 : Value} {f0m4 : Addr} {od0m4 an0m4 : Option Addr} {sl0m4 : Array (Option Value)} {oc0m4 kv0m4 dc0m4 pm0m4 cd0m4 ct0m4 : Value}
    (y0_0 : PySem.W.nsIn K mainGlobals "WireTree" = some (some (.ref yC0))) (y0_4 : PySem.W.findIn K (.ref yC0) "__setattr__" = some (some (.builtin "object.__setattr__"))) (y0_10 : PySem.W.findIn K (.ref yC0) "__init__" = some (some (.ref f0m0))) (y0_15 : PySem.W.findIn K (.ref yC0) "path" = some (some (.ref f0m1))) (y0_20 : PySem.W.findIn K (.ref yC0) "delay" = some (some (.ref f0m2))) (y0_26 : PySem.W.findIn K (.ref yC0) "delay_range" = some (some (.ref f0m3))) (y0_31 : PySem.W.findIn K (.ref yC0) "_check_node" = some (some (.ref f0m4))) (y0_33 : PySem.W.findIn K (.ref yC0) "_parents" = some none) (y0_34 : PySem.W.findIn K (.ref yC0) "_resistances" = some none) (y0_35 : PySem.W.findIn K (.ref yC0) "_capacitances" = some none) (y0_1 : PySem.W.plainGet K yC0 Str.empty = true) (y0_2 : PySem.W.hasDictIn K yC0 = true) (y0_3 : PySem.W.plainOver K yC0 = true) (y0_5 : PySem.W.makesIn K yC0 = true) (y0_6 : PySem.W.keepIn K (.ref yC0) = true) (y0_7 : K.lookup f0m0 = some ⟨oc0m0, od0m0, .func (PySem.W.fnOf "__init__" "WireTree.__init__" (defArgs s_WireTree_init) (defBody s_WireTree_init) (defScope s_WireTree_init) .none kv0m0 dc0m0 pm0m0 an0m0 cd0m0 ct0m0), sl0m0⟩) (y0_8 : PySem.W.codeIn K cd0m0 "WireTree.__init__" = true) (y0_9 : PySem.W.keepIn K (.ref f0m0) = true) (y0_11 : PySem.W.isFn K (.ref f0m0) = true) (y0_12 : K.lookup f0m1 = some ⟨oc0m1, od0m1, .func (PySem.W.fnOf "path" "WireTree.path" (defArgs s_WireTree_path) (defBody s_WireTree_path) (defScope s_WireTree_path) .none kv0m1 dc0m1 pm0m1 an0m1 cd0m1 ct0m1), sl0m1⟩) (y0_13 : PySem.W.codeIn K cd0m1 "WireTree.path" = true) (y0_14 : PySem.W.keepIn K (.ref f0m1) = true) (y0_16 : PySem.W.isFn K (.ref f0m1) = true) (y0_17 : K.lookup f0m2 = some ⟨oc0m2, od0m2, .func (PySem.W.fnOf "delay" "WireTree.delay" (defArgs s_WireTree_delay) (defBody s_WireTree_delay) (defScope s_WireTree_delay) .none kv0m2 dc0m2 pm0m2 an0m2 cd0m2 ct0m2), sl0m2⟩) (y0_18 : PySem.W.codeIn K cd0m2 "WireTree.delay" = true) (y0_19 : PySem.W.keepIn K (.ref f0m2) = true) (y0_21 : PySem.W.isFn K (.ref f0m2) = true) (y0_22 : K.lookup f0m3 = some ⟨oc0m3, od0m3, .func (PySem.W.fnOf "delay_range" "WireTree.delay_range" (defArgs s_WireTree_delay_range) (defBody s_WireTree_delay_range) (defScope s_WireTree_delay_range) .none (.ref kd0m3) dc0m3 pm0m3 an0m3 cd0m3 ct0m3), sl0m3⟩) (y0_23 : PySem.W.codeIn K cd0m3 "WireTree.delay_range" = true) (y0_24 : PySem.W.keepIn K (.ref f0m3) = true) (y0_25 : PySem.W.nsIn K kd0m3 "unit" = some (some (.int 1 kt0m3))) (y0_27 : PySem.W.isFn K (.ref f0m3) = true) (y0_28 : K.lookup f0m4 = some ⟨oc0m4, od0m4, .func (PySem.W.fnOf "_check_node" "WireTree._check_node" (defArgs s_WireTree_check_node) (defBody s_WireTree_check_node) (defScope s_WireTree_check_node) .none kv0m4 dc0m4 pm0m4 an0m4 cd0m4 ct0m4), sl0m4⟩) (y0_29 : PySem.W.codeIn K cd0m4 "WireTree._check_node" = true) (y0_30 : PySem.W.keepIn K (.ref f0m4) = true) (y0_32 : PySem.W.isFn K (.ref f0m4) = true)
    (z0 : PySem.W.nsIn K mainGlobals "tuple" = some none) (z1 : PySem.W.nsIn K mainGlobals "list" = some none) (z2 : PySem.W.nsIn K mainGlobals "enumerate" = some none) (z3 : PySem.W.nsIn K mainGlobals "len" = some none) (z4 : PySem.W.nsIn K mainGlobals "range" = some none) (z5 : PySem.W.nsIn K mainGlobals "sum" = some none) (z6 : PySem.W.nsIn K mainGlobals "int" = some none) (z7 : PySem.W.nsIn K mainGlobals "isinstance" = some none) (z8 : PySem.W.nsIn K mainGlobals "bool" = some none) (z9 : PySem.W.nsIn K mainGlobals "str" = some none) (z10 : PySem.W.nsIn K mainGlobals "ValueError" = some none) :
    ∃ fd : FuncData, (∀ (s : Shared) (v : Value), BindsTo s fd ⟨[v], []⟩ [("script", v)]) ∧ ∀ base : Heap, K.In base → base.Ns mainGlobals mg → FnOk l.prog w K mg base CX0 6 fa fd ["script"] (spLaw K) := by
  have e := hfa.symm.trans (PySem.W.mg_of X G a10)
  cases e
  have F0 := fun_mk (st := s_wall) l0 c0 k0
  have F1 := fun_mk (st := s_law_pool) l1 c1 k1
  have F2 := fun_mk (st := s_law_spread) l2 c2 k2
  have F3 := fun_mk (st := s_law_draw) l3 c3 k3
  have F4 := fun_mk (st := s_law_same) l4 c4 k4
  have F5 := fun_mk (st := s_law_segments) l5 c5 k5
  have F6 := fun_mk (st := s_law_path) l6 c6 k6
  have F7 := fun_mk (st := s_law_delay) l7 c7 k7
  have F8 := fun_mk (st := s_law_refused) l8 c8 k8
  have F9 := fun_mk (st := s_law_within) l9 c9 k9
  have F10 := fun_mk (st := s_law) l10 c10 k10
  have A : All K mg := ⟨⟨f0, _, F0, PySem.W.mg_of X G a0, F0.binds (ps := ["k"]) fun _ _ _ _ _ _ us hl => match us, hl with | [_], _ => rfl⟩,
    ⟨f1, _, F1, PySem.W.mg_of X G a1, F1.binds (ps := ["script"]) fun _ _ _ _ _ _ us hl => match us, hl with | [_], _ => rfl⟩,
    ⟨f2, _, F2, PySem.W.mg_of X G a2, F2.binds (ps := ["cell"]) fun _ _ _ _ _ _ us hl => match us, hl with | [_], _ => rfl⟩,
    ⟨f3, _, F3, PySem.W.mg_of X G a3, F3.binds (ps := ["pool", "many"]) fun _ _ _ _ _ _ us hl => match us, hl with | [_, _], _ => rfl⟩,
    ⟨f4, _, F4, PySem.W.mg_of X G a4, F4.binds (ps := ["actual", "due"]) fun _ _ _ _ _ _ us hl => match us, hl with | [_, _], _ => rfl⟩,
    ⟨f5, _, F5, PySem.W.mg_of X G a5, F5.binds (ps := ["pool", "most"]) fun _ _ _ _ _ _ us hl => match us, hl with | [_, _], _ => rfl⟩,
    ⟨f6, _, F6, PySem.W.mg_of X G a6, F6.binds (ps := ["segments", "node"]) fun _ _ _ _ _ _ us hl => match us, hl with | [_, _], _ => rfl⟩,
    ⟨f7, _, F7, PySem.W.mg_of X G a7, F7.binds (ps := ["segments", "node", "resistances", "capacitances"]) fun _ _ _ _ _ _ us hl => match us, hl with | [_, _, _, _], _ => rfl⟩,
    ⟨f8, _, F8, PySem.W.mg_of X G a8, F8.binds (ps := ["tree", "node", "first", "second", "unit"]) fun _ _ _ _ _ _ us hl => match us, hl with | [_, _, _, _, _], _ => rfl⟩,
    ⟨f9, _, F9, PySem.W.mg_of X G a9, F9.binds (ps := ["pool", "pairs"]) fun _ _ _ _ _ _ us hl => match us, hl with | [_, _], _ => rfl⟩,
    PySem.W.mg_none_of X G z0,
    PySem.W.mg_none_of X G z1,
    PySem.W.mg_none_of X G z2,
    PySem.W.mg_none_of X G z3,
    PySem.W.mg_none_of X G z4,
    PySem.W.mg_none_of X G z5,
    PySem.W.mg_none_of X G z6,
    PySem.W.mg_none_of X G z7,
    PySem.W.mg_none_of X G z8,
    PySem.W.mg_none_of X G z9,
    PySem.W.mg_none_of X G z10,
    ⟨yC0, ⟨PySem.W.mg_of X G y0_0, ⟨y0_1, y0_2, y0_3, y0_4⟩, ⟨f0m0, _, ⟨y0_5, y0_10, y0_11, y0_6⟩, (fun_mk (st := s_WireTree_init) y0_7 y0_8 y0_9), (fun_mk (st := s_WireTree_init) y0_7 y0_8 y0_9).binds (ps := ["self", "segments"]) fun _ _ _ _ _ _ us hl => match us, hl with | [_, _], _ => rfl⟩, ⟨f0m1, _, ⟨y0_15, y0_16, y0_14⟩, (fun_mk (st := s_WireTree_path) y0_12 y0_13 y0_14), (fun_mk (st := s_WireTree_path) y0_12 y0_13 y0_14).binds (ps := ["self", "node"]) fun _ _ _ _ _ _ us hl => match us, hl with | [_, _], _ => rfl⟩, ⟨f0m2, _, ⟨y0_20, y0_21, y0_19⟩, (fun_mk (st := s_WireTree_delay) y0_17 y0_18 y0_19), (fun_mk (st := s_WireTree_delay) y0_17 y0_18 y0_19).binds (ps := ["self", "node", "resistances", "capacitances"]) fun _ _ _ _ _ _ us hl => match us, hl with | [_, _, _, _], _ => rfl⟩, ⟨f0m3, _, ⟨y0_26, y0_27, y0_24⟩, (fun_mk (st := s_WireTree_delay_range) y0_22 y0_23 y0_24), Fun.kbn1 (n := 2) (ps := ["self", "node", "unit"]) (fun_mk (st := s_WireTree_delay_range) y0_22 y0_23 y0_24) fun _ _ _ _ _ _ _ us hl => match us, hl with | [_, _], _ => rfl, kwd1 (y := "unit") (n := 2) (ps := ["self", "node", "unit"]) (st := s_WireTree_delay_range) y0_22 y0_23 y0_24 ⟨_, y0_25, ⟨_, rfl⟩⟩ fun _ _ _ _ _ _ us ks h1 h2 => match us, ks, h1, h2 with | [_, _], [_], _, _ => ⟨_, _, _, _, _, _, rfl, rfl, rfl⟩⟩, ⟨f0m4, _, ⟨y0_31, y0_32, y0_30⟩, (fun_mk (st := s_WireTree_check_node) y0_28 y0_29 y0_30), (fun_mk (st := s_WireTree_check_node) y0_28 y0_29 y0_30).binds (ps := ["self", "node"]) fun _ _ _ _ _ _ us hl => match us, hl with | [_, _], _ => rfl⟩, y0_33, y0_34, y0_35⟩⟩,
    ⟨iC0, ⟨⟨PySem.W.mg_of X G w0_0, w0_1, w0_2, w0_3, w0_4⟩, w0_5, w0_6, ⟨w0_7, w0_8, w0_3, w0_5, w0_9, w0_10, w0_11, w0_12⟩⟩, ⟨iD0_0, PySem.W.mg_of X G w0_13, w0_14⟩, ⟨iD0_1, PySem.W.mg_of X G w0_15, w0_16⟩, ⟨iD0_2, PySem.W.mg_of X G w0_17, PySem.W.exm_ref w0_18 w0_19 w0_20 w0_21⟩⟩,
    ⟨iC1, ⟨⟨PySem.W.mg_of X G w1_0, w1_1, w1_2, w1_3, w1_4⟩, w1_5, w1_6, ⟨w1_7, w1_8, w1_3, w1_5, w1_9, w1_10, w1_11, w1_12⟩⟩, ⟨iD1_0, PySem.W.mg_of X G w1_13, w1_14⟩, ⟨iD1_1, PySem.W.mg_of X G w1_15, w1_16⟩, ⟨iD1_2, PySem.W.mg_of X G w1_17, PySem.W.exm_ref w1_18 w1_19 w1_20 w1_21⟩⟩,
    ⟨iC2, ⟨⟨PySem.W.mg_of X G w2_0, w2_1, w2_2, w2_3, w2_4⟩, w2_5, w2_6, ⟨w2_7, w2_8, w2_3, w2_5, w2_9, w2_10, w2_11, w2_12⟩⟩, ⟨iD2_0, PySem.W.mg_of X G w2_13, w2_14⟩⟩⟩
  exact ⟨_, fun s v => .of_eq rfl, fun base _ _ => glue A F10⟩
end G
open PySem PySem.W PyProof.Rows
set_option maxRecDepth 100000 in
set_option maxHeartbeats 0 in
theorem PySem.Challenge.cw_signoff_k29_whole_delays_of_wires_holds : PySem.Challenge.rw_signoff_k29_whole_delays_of_wires.Holds := by
  w_on; o_law; k_head; (case hw => w_witness2)
  k_fill
  refine L2.walk_of (l := PySem.Challenge.rw_signoff_k29_whole_delays_of_wires) (n := 63) (k := 6) (x := "script") (CX := fun _ => L2.CX0) (sp := fun w => G.spLaw _) rfl (by decide) rfl ⟨rfl, by decide, by decide⟩ (fun w h Y => PySem.W.kIn_of Y) ?F (fun _ _ a ns hl _ hS => ⟨a, ns, rfl, hS, hl, fun _ => rfl⟩) (fun _ _ _ _ _ h => h)
  case F =>
    intro w mg fa h KX GN hmg
    refine' G.all_mk KX GN hmg ?a0 ?l0 ?c0 ?k0 ?a1 ?l1 ?c1 ?k1 ?a2 ?l2 ?c2 ?k2 ?a3 ?l3 ?c3 ?k3 ?a4 ?l4 ?c4 ?k4 ?a5 ?l5 ?c5 ?k5 ?a6 ?l6 ?c6 ?k6 ?a7 ?l7 ?c7 ?k7 ?a8 ?l8 ?c8 ?k8 ?a9 ?l9 ?c9 ?k9 ?a10 ?l10 ?c10 ?k10 ?xw0_0 ?xw0_1 ?xw0_2 ?xw0_3 ?xw0_4 ?xw0_5 ?xw0_6 ?xw0_7 ?xw0_8 ?xw0_9 ?xw0_10 ?xw0_11 ?xw0_12 ?xw0_13 ?xw0_14 ?xw0_15 ?xw0_16 ?xw0_17 ?xw0_18 ?xw0_19 ?xw0_20 ?xw0_21 ?xw1_0 ?xw1_1 ?xw1_2 ?xw1_3 ?xw1_4 ?xw1_5 ?xw1_6 ?xw1_7 ?xw1_8 ?xw1_9 ?xw1_10 ?xw1_11 ?xw1_12 ?xw1_13 ?xw1_14 ?xw1_15 ?xw1_16 ?xw1_17 ?xw1_18 ?xw1_19 ?xw1_20 ?xw1_21 ?xw2_0 ?xw2_1 ?xw2_2 ?xw2_3 ?xw2_4 ?xw2_5 ?xw2_6 ?xw2_7 ?xw2_8 ?xw2_9 ?xw2_10 ?xw2_11 ?xw2_12 ?xw2_13 ?xw2_14 ?vy0_0 ?vy0_4 ?vy0_10 ?vy0_15 ?vy0_20 ?vy0_26 ?vy0_31 ?vy0_33 ?vy0_34 ?vy0_35 ?vy0_1 ?vy0_2 ?vy0_3 ?vy0_5 ?vy0_6 ?vy0_7 ?vy0_8 ?vy0_9 ?vy0_11 ?vy0_12 ?vy0_13 ?vy0_14 ?vy0_16 ?vy0_17 ?vy0_18 ?vy0_19 ?vy0_21 ?vy0_22 ?vy0_23 ?vy0_24 ?vy0_25 ?vy0_27 ?vy0_28 ?vy0_29 ?vy0_30 ?vy0_32 ?z0 ?z1 ?z2 ?z3 ?z4 ?z5 ?z6 ?z7 ?z8 ?z9 ?z10
    (case a0 => k_is)
    (case l0 => k_is)
    (case c0 => k_is)
    (case k0 => k_is)
    (case a1 => k_is)
    (case l1 => k_is)
    (case c1 => k_is)
    (case k1 => k_is)
    (case a2 => k_is)
    (case l2 => k_is)
    (case c2 => k_is)
    (case k2 => k_is)
    (case a3 => k_is)
    (case l3 => k_is)
    (case c3 => k_is)
    (case k3 => k_is)
    (case a4 => k_is)
    (case l4 => k_is)
    (case c4 => k_is)
    (case k4 => k_is)
    (case a5 => k_is)
    (case l5 => k_is)
    (case c5 => k_is)
    (case k5 => k_is)
    (case a6 => k_is)
    (case l6 => k_is)
    (case c6 => k_is)
    (case k6 => k_is)
    (case a7 => k_is)
    (case l7 => k_is)
    (case c7 => k_is)
    (case k7 => k_is)
    (case a8 => k_is)
    (case l8 => k_is)
    (case c8 => k_is)
    (case k8 => k_is)
    (case a9 => k_is)
    (case l9 => k_is)
    (case c9 => k_is)
    (case k9 => k_is)
    (case a10 => k_is)
    (case l10 => k_is)
    (case c10 => k_is)
    (case k10 => k_is)
    (case xw0_0 => first | k_exc | k_is | rfl)
    (case xw0_1 => first | k_exc | k_is | rfl)
    (case xw0_2 => first | k_exc | k_is | rfl)
    (case xw0_3 => first | k_exc | k_is | rfl)
    (case xw0_4 => first | k_exc | k_is | rfl)
    (case xw0_5 => first | k_exc | k_is | rfl)
    (case xw0_6 => first | k_exc | k_is | rfl)
    (case xw0_7 => first | k_exc | k_is | rfl)
    (case xw0_8 => first | k_exc | k_is | rfl)
    (case xw0_9 => first | k_exc | k_is | rfl)
    (case xw0_10 => first | k_exc | k_is | rfl)
    (case xw0_11 => first | k_exc | k_is | rfl)
    (case xw0_12 => first | k_exc | k_is | rfl)
    (case xw0_13 => first | k_exc | k_is | rfl)
    (case xw0_14 => first | k_exc | k_is | rfl)
    (case xw0_15 => first | k_exc | k_is | rfl)
    (case xw0_16 => first | k_exc | k_is | rfl)
    (case xw0_17 => first | k_exc | k_is | rfl)
    (case xw0_18 => first | k_exc | k_is | rfl)
    (case xw0_19 => first | k_exc | k_is | rfl)
    (case xw0_20 => first | k_exc | k_is | rfl)
    (case xw0_21 => first | k_exc | k_is | rfl)
    (case xw1_0 => first | k_exc | k_is | rfl)
    (case xw1_1 => first | k_exc | k_is | rfl)
    (case xw1_2 => first | k_exc | k_is | rfl)
    (case xw1_3 => first | k_exc | k_is | rfl)
    (case xw1_4 => first | k_exc | k_is | rfl)
    (case xw1_5 => first | k_exc | k_is | rfl)
    (case xw1_6 => first | k_exc | k_is | rfl)
    (case xw1_7 => first | k_exc | k_is | rfl)
    (case xw1_8 => first | k_exc | k_is | rfl)
    (case xw1_9 => first | k_exc | k_is | rfl)
    (case xw1_10 => first | k_exc | k_is | rfl)
    (case xw1_11 => first | k_exc | k_is | rfl)
    (case xw1_12 => first | k_exc | k_is | rfl)
    (case xw1_13 => first | k_exc | k_is | rfl)
    (case xw1_14 => first | k_exc | k_is | rfl)
    (case xw1_15 => first | k_exc | k_is | rfl)
    (case xw1_16 => first | k_exc | k_is | rfl)
    (case xw1_17 => first | k_exc | k_is | rfl)
    (case xw1_18 => first | k_exc | k_is | rfl)
    (case xw1_19 => first | k_exc | k_is | rfl)
    (case xw1_20 => first | k_exc | k_is | rfl)
    (case xw1_21 => first | k_exc | k_is | rfl)
    (case xw2_0 => first | k_exc | k_is | rfl)
    (case xw2_1 => first | k_exc | k_is | rfl)
    (case xw2_2 => first | k_exc | k_is | rfl)
    (case xw2_3 => first | k_exc | k_is | rfl)
    (case xw2_4 => first | k_exc | k_is | rfl)
    (case xw2_5 => first | k_exc | k_is | rfl)
    (case xw2_6 => first | k_exc | k_is | rfl)
    (case xw2_7 => first | k_exc | k_is | rfl)
    (case xw2_8 => first | k_exc | k_is | rfl)
    (case xw2_9 => first | k_exc | k_is | rfl)
    (case xw2_10 => first | k_exc | k_is | rfl)
    (case xw2_11 => first | k_exc | k_is | rfl)
    (case xw2_12 => first | k_exc | k_is | rfl)
    (case xw2_13 => first | k_exc | k_is | rfl)
    (case xw2_14 => first | k_exc | k_is | rfl)
    (case vy0_0 => k_is)
    (case vy0_4 => k_is)
    (case vy0_10 => k_is)
    (case vy0_15 => k_is)
    (case vy0_20 => k_is)
    (case vy0_26 => k_is)
    (case vy0_31 => k_is)
    (case vy0_33 => k_is)
    (case vy0_34 => k_is)
    (case vy0_35 => k_is)
    (case vy0_1 => k_is)
    (case vy0_2 => k_is)
    (case vy0_3 => k_is)
    (case vy0_5 => k_is)
    (case vy0_6 => k_is)
    (case vy0_7 => k_is)
    (case vy0_8 => k_is)
    (case vy0_9 => k_is)
    (case vy0_11 => k_is)
    (case vy0_12 => k_is)
    (case vy0_13 => k_is)
    (case vy0_14 => k_is)
    (case vy0_16 => k_is)
    (case vy0_17 => k_is)
    (case vy0_18 => k_is)
    (case vy0_19 => k_is)
    (case vy0_21 => k_is)
    (case vy0_22 => k_is)
    (case vy0_23 => k_is)
    (case vy0_24 => k_is)
    (case vy0_25 => k_is)
    (case vy0_27 => k_is)
    (case vy0_28 => k_is)
    (case vy0_29 => k_is)
    (case vy0_30 => k_is)
    (case vy0_32 => k_is)
    (case z0 => k_is)
    (case z1 => k_is)
    (case z2 => k_is)
    (case z3 => k_is)
    (case z4 => k_is)
    (case z5 => k_is)
    (case z6 => k_is)
    (case z7 => k_is)
    (case z8 => k_is)
    (case z9 => k_is)
    (case z10 => k_is)
#print axioms PySem.Challenge.cw_signoff_k29_whole_delays_of_wires_holds
