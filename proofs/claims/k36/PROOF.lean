import PyProof.Rows.All
import Wide.All
import OpenK.AllK
import Wide.FinOn
import HandS.ForMost
import HandS.Evl
import HandS.Wide
import HandS.WideBits
import HandS.Flow
import HandS.IsInst
import HandS.TupAny
import HandS.Walk
import HandS.Zip
import HandS.Steps
import KE.GoesMore
import KE.GoesEnum
import KE.KEqSeq
import HandS.ForExc
import HandS.ExcIs
import HandS.Property
import HandS.Style
import HandS.Small
import HandS.CallSlots
import HandS.ClsMeth
import HandS.ExcOwn
import HandS.Defaults
import HandS.SortKw
import KE.KOpsOwn
import KE.GoesEnumKw
import HandS.Strs
import HandS.SetTxt0
import HandS.Set
import HandS.SetFor
import HandS.SetKeys
import HandS.Star
import HandS.Conv
import HandS.FStr
import PySem.Challenge.RW_signoff_k36_waveforms_combined
set_option Elab.async false
set_option linter.all false
set_option maxRecDepth 100000
set_option maxHeartbeats 4000000
set_option Elab.async false
set_option linter.all false
set_option maxRecDepth 100000
set_option maxHeartbeats 4000000
namespace G
open PySem PySem.Spec PyProof.Rows L2 Evl
/-! ## defs by name -/
def Dfd (K : PySem.W.Frag) (mg : Str → Option Value) (x : Str) (st : Stmt) (ps : List Str) : Prop := ∃ (f : Addr) (fd : FuncData), Fun K x x st f fd ∧ mg x = some (.ref f) ∧ Binds K fd ps []
def Has (P : Program) (w : World) (K : PySem.W.Frag) (mg : Str → Option Value) (base : Heap) (k : Nat) (x : Str) (ps : List Str) (sp : Sp) : Prop :=
  ∃ (f : Addr) (fd : FuncData), FnOk P w K mg base CX0 k f fd ps sp ∧ mg x = some (.ref f) ∧ PySem.W.keepIn K (.ref f) = true ∧ Binds K fd ps []
section
variable {P : Program} {w : World} {K : PySem.W.Frag} {mg : Str → Option Value} {base : Heap}
theorem Dfd.has {x : Str} {st : Stmt} {ps : List Str} {k : Nat} {sp : Sp} (d : Dfd K mg x st ps) (h : ∀ f fd, Fun K x x st f fd → FnOk P w K mg base CX0 k f fd ps sp) : Has P w K mg base k x ps sp := by
  obtain ⟨f, fd, F, g, b⟩ := d
  exact ⟨f, fd, h f fd F, g, F.kp, b⟩
theorem Has.mono {x : Str} {ps : List Str} {j k : Nat} {sp : Sp} (h : Has P w K mg base j x ps sp) (l : j ≤ k) : Has P w K mg base k x ps sp := by
  obtain ⟨f, fd, F, g⟩ := h
  exact ⟨f, fd, F.mono l, g⟩
theorem Has.imp {x : Str} {ps : List Str} {k : Nat} {sp sp' : Sp} (h : Has P w K mg base k x ps sp) (i : ∀ vs H Q E, sp' vs H Q E → sp vs H Q E) : Has P w K mg base k x ps sp' := by
  obtain ⟨f, fd, F, g⟩ := h
  exact ⟨f, fd, F.imp i, g⟩
end
/-! ## heaps -/
theorem sq_ex {K : PySem.W.Frag} {H H' : Hp} {a : Addr} {xs : List V} (e : Ex H H') (h : SqL K H a xs) : SqL K H' a xs := ex_l e h
/-- the heap without what stands at p -/
def hid (p : Addr) (H : Hp) : Hp := fun b => if b = p then none else H b
theorem hid_self {p : Addr} {H : Hp} : hid p H p = none := by unfold hid; rw [if_pos rfl]
theorem hid_ne {p b : Addr} {H : Hp} (h : b ≠ p) : hid p H b = H b := by unfold hid; rw [if_neg h]
theorem hid_get {p b : Addr} {H : Hp} {o : HO} (h : hid p H b = some o) : H b = some o := by
  by_cases e : b = p
  · subst e; rw [hid_self] at h; cases h
  · rw [hid_ne e] at h; exact h
theorem hid_neq {p b : Addr} {H : Hp} {o : HO} (h : hid p H b = some o) : b ≠ p := by
  intro e; subst e; rw [hid_self] at h; cases h
theorem hid_ex {p : Addr} {H : Hp} : Ex (hid p H) H := fun _ _ h => hid_get h
theorem hid_upd {p : Addr} {H : Hp} {o : HO} : hid p (upd H p o) = hid p H := by
  funext b
  by_cases e : b = p
  · subst e; rw [hid_self, hid_self]
  · rw [hid_ne e, hid_ne e, upd_ne e]
theorem hid_upd_ne {p q : Addr} {H : Hp} {o : HO} (h : q ≠ p) : hid p (upd H q o) = upd (hid p H) q o := by
  funext b
  by_cases e2 : b = q
  · subst e2; rw [hid_ne h, upd_same, upd_same]
  · rw [upd_ne e2]
    by_cases e : b = p
    · subst e; rw [hid_self, hid_self]
    · rw [hid_ne e, hid_ne e, upd_ne e2]
theorem hid_none {p b : Addr} {H : Hp} (h : H b = none) : hid p H b = none := by
  unfold hid; split
  · rfl
  · exact h
/-! ## the pool of draws: the list at p, the script's copy at a -/
def PoolOk (p a : Addr) (H : Hp) : Prop := ∃ (ns : List Int) (i : Nat) (c k s : Int), H p = some (.lst [.ref a, .int i, .int c, .int k, .int s]) ∧ hid p H a = some (.lst (ns.map V.int)) ∧ ns.length ≤ 1000
/-- from H to H' all but the pool is kept, and the pool is a pool -/
structure Px (p a : Addr) (H H' : Hp) : Prop where
  was : PoolOk p a H
  pool : PoolOk p a H'
  ex : Ex (hid p H) (hid p H')
section
variable {p a : Addr} {H H1 H2 H' : Hp}
theorem Px.refl (h : PoolOk p a H) : Px p a H H := ⟨h, h, Ex.refl _⟩
theorem Px.trans (x : Px p a H H1) (y : Px p a H1 H2) : Px p a H H2 := ⟨x.was, y.pool, x.ex.trans y.ex⟩
theorem PoolOk.ne {b : Addr} (h : PoolOk p a H) (n : H b = none) : b ≠ p := by
  obtain ⟨_, _, _, _, _, e, _⟩ := h
  exact (ne_of_none e n).symm
theorem PoolOk.ne2 {b : Addr} (h : PoolOk p a H) (n : H b = none) : a ≠ b := by
  obtain ⟨_, _, _, _, _, _, e, _⟩ := h
  exact ne_of_none (hid_get e) n
theorem PoolOk.kept (h : PoolOk p a H) (e : Ex H H') : PoolOk p a H' := by
  obtain ⟨ns, i, c, k, s, h1, h2, h3⟩ := h
  exact ⟨ns, i, c, k, s, e _ _ h1, by rw [hid_ne (hid_neq h2)]; exact e _ _ (hid_get h2), h3⟩
theorem Px.ofEx (h : PoolOk p a H) (e : Ex H H') : Px p a H H' := ⟨h, h.kept e, fun b o hb => by rw [hid_ne (hid_neq hb)]; exact e _ _ (hid_get hb)⟩
theorem Px.more (x : Px p a H H1) (e : Ex H1 H2) : Px p a H H2 := x.trans (Px.ofEx x.pool e)
theorem Px.draw {o : HO} (w : PoolOk p a H) (h : PoolOk p a (upd H p o)) : Px p a H (upd H p o) := ⟨w, h, by rw [hid_upd]; exact Ex.refl _⟩
theorem Px.new (x : Px p a H H1) {l : Addr} {o : HO} (n : H1 l = none) : Px p a H (upd H1 l o) := x.more (Ex.new n)
/-- what H has is kept -/
theorem Px.get (x : Px p a H H1) {b : Addr} {o : HO} (h : hid p H b = some o) : hid p H1 b = some o := x.ex _ _ h
theorem Px.at_ (x : Px p a H H1) {b : Addr} {o : HO} (h : hid p H b = some o) : H1 b = some o := hid_get (x.ex _ _ h)
theorem Px.free (x : Px p a H H1) {b : Addr} (n : H1 b = none) : H b = none := by
  cases e : H b with
  | none => rfl
  | some o =>
    have hb : b ≠ p := x.pool.ne n
    have := x.ex b o (by rw [hid_ne hb]; exact e)
    rw [hid_get this] at n; cases n
/-- an object that H does not have may change -/
theorem Px.mut (x : Px p a H H1) {l : Addr} {o : HO} (n : H l = none) : Px p a H (upd H1 l o) := by
  have hl : l ≠ p := x.was.ne n
  have ha : a ≠ l := x.was.ne2 n
  refine ⟨x.was, ?_, ?_⟩
  · obtain ⟨ns, i, c, k, s, h1, h2, h3⟩ := x.pool
    exact ⟨ns, i, c, k, s, by rw [upd_ne hl.symm]; exact h1, by rw [hid_upd_ne hl, upd_ne ha]; exact h2, h3⟩
  · rw [hid_upd_ne hl]; exact Ex.mut x.ex (hid_none n)
/-- a fresh object stands apart from the pool -/
theorem Px.seen (x : Px p a H H1) {l : Addr} {o : HO} (n : H l = none) (e : H1 l = some o) : hid p H1 l = some o := by
  rw [hid_ne (x.was.ne n)]; exact e
end
end G
namespace G
open PySem PySem.Spec PyProof.Rows L2 Evl
/-! ## comprehensions whose elements are plain values -/
theorem given_all {n : Nat} {v : Nat → V} : given n (fun _ => true) v = (List.range n).map v := by
  unfold given
  rw [List.filter_eq_self.mpr (fun _ _ => rfl)]
section
variable {lo : Int} {n j : Nat} {tt : TT} {te : TE} {vs : List Nat} {σ : L2.St} {H1 : Hp} {D : Addr} {Qd : Hp → Prop} {K : PySem.W.Frag} {a : Addr} {xs : List V}
theorem lc_turn {f : Nat → Bool} {v : Nat → V} {i : Nat} {H : Hp} {σ2 : L2.St} (e : H = upd H1 D (.lst (given i f v))) (hi : i < 100000) (ht : Ans tt σ2 H (f i)) (he : f i = true → Val te σ2 H (v i)) :
    tt σ2 H fun b H3 => if b = true then te σ2 H3 fun y H4 => ∃ acc, H4 D = some (.lst acc) ∧ acc.length < sizeLine ∧ (upd H4 D (.lst (acc ++ [y]))) = upd H1 D (.lst (given (i + 1) f v)) else H3 = upd H1 D (.lst (given (i + 1) f v)) := by
  refine ht _ ?_
  subst e
  cases hf : f i with
  | true =>
    refine iteT (he hf _ ⟨_, upd_same, sz_lt (by have := given_len i f v; omega), ?_⟩)
    rw [given_yes hf, upd_upd]
  | false =>
    refine iteF ?_
    rw [given_no hf]
theorem lcR (f : Nat → Bool) (v : Nat → V) (hn : n ≤ 100000) (hw : ∀ x, wipe ((wipe σ vs).set j (some x)) vs = wipe σ vs)
    (ht : ∀ (i : Nat) (H : Hp), i < n → H = upd H1 D (.lst (given i f v)) → Ans tt ((wipe σ vs).set j (some (.int (lo + i)))) H (f i))
    (he : ∀ (i : Nat) (H : Hp), i < n → H = upd H1 D (.lst (given i f v)) → f i = true → Val te ((wipe σ vs).set j (some (.int (lo + i)))) H (v i)) (q : Qd (upd H1 D (.lst (given n f v)))) :
    ∃ W : Nat → Nat → Hp → Prop, (∃ m, W 0 m (upd H1 D (.lst []))) ∧ ∀ i m H, W i m H →
      ((Itr lo n).stop i H ∧ Qd H) ∨ ((Itr lo n).go i H ∧ ∃ Nx : Hp → Prop, (∀ H', Nx H' → ∃ m', m' < m ∧ W (i + 1) m' H') ∧ ∀ x H', (Itr lo n).yld i H x H' → gName j x (wipe σ vs) H' fun σ2 H2 => wipe σ2 vs = wipe σ vs ∧ tt σ2 H2 fun b H3 =>
        if b = true then te σ2 H3 fun y H4 => ∃ acc, H4 D = some (.lst acc) ∧ acc.length < sizeLine ∧ Nx (upd H4 D (.lst (acc ++ [y]))) else Nx H3) :=
  lc_range (fun i H => H = upd H1 D (.lst (given i f v))) rfl (fun i H hi e => ⟨hw _, lc_turn e (by omega) (ht i H hi e) (he i H hi e)⟩) (fun H e => by rw [e]; exact q)
theorem lcRv (v : Nat → V) (hn : n ≤ 100000) (hw : ∀ x, wipe ((wipe σ vs).set j (some x)) vs = wipe σ vs)
    (he : ∀ (i : Nat) (H : Hp), i < n → H = upd H1 D (.lst (given i (fun _ => true) v)) → Val te ((wipe σ vs).set j (some (.int (lo + i)))) H (v i)) (q : Qd (upd H1 D (.lst ((List.range n).map v)))) :
    ∃ W : Nat → Nat → Hp → Prop, (∃ m, W 0 m (upd H1 D (.lst []))) ∧ ∀ i m H, W i m H →
      ((Itr lo n).stop i H ∧ Qd H) ∨ ((Itr lo n).go i H ∧ ∃ Nx : Hp → Prop, (∀ H', Nx H' → ∃ m', m' < m ∧ W (i + 1) m' H') ∧ ∀ x H', (Itr lo n).yld i H x H' → gName j x (wipe σ vs) H' fun σ2 H2 => wipe σ2 vs = wipe σ vs ∧ tYes σ2 H2 fun b H3 =>
        if b = true then te σ2 H3 fun y H4 => ∃ acc, H4 D = some (.lst acc) ∧ acc.length < sizeLine ∧ Nx (upd H4 D (.lst (acc ++ [y]))) else Nx H3) :=
  lcR (fun _ => true) v hn hw (fun _ _ _ _ => fun _ q => q) (fun i H hi e _ => he i H hi e) (by rw [given_all]; exact q)
theorem lcL (f : Nat → Bool) (v : Nat → V) (hx : SqL K H1 a xs) (hD : H1 D = none) (hn : xs.length ≤ 100000) (hw : ∀ x, wipe ((wipe σ vs).set j (some x)) vs = wipe σ vs)
    (ht : ∀ (i : Nat) (x : V) (H : Hp), xs[i]? = some x → H = upd H1 D (.lst (given i f v)) → Ans tt ((wipe σ vs).set j (some x)) H (f i))
    (he : ∀ (i : Nat) (x : V) (H : Hp), xs[i]? = some x → H = upd H1 D (.lst (given i f v)) → f i = true → Val te ((wipe σ vs).set j (some x)) H (v i)) (q : Qd (upd H1 D (.lst (given xs.length f v)))) :
    ∃ W : Nat → Nat → Hp → Prop, (∃ m, W 0 m (upd H1 D (.lst []))) ∧ ∀ i m H, W i m H →
      ((Itl K a).stop i H ∧ Qd H) ∨ ((Itl K a).go i H ∧ ∃ Nx : Hp → Prop, (∀ H', Nx H' → ∃ m', m' < m ∧ W (i + 1) m' H') ∧ ∀ x H', (Itl K a).yld i H x H' → gName j x (wipe σ vs) H' fun σ2 H2 => wipe σ2 vs = wipe σ vs ∧ tt σ2 H2 fun b H3 =>
        if b = true then te σ2 H3 fun y H4 => ∃ acc, H4 D = some (.lst acc) ∧ acc.length < sizeLine ∧ Nx (upd H4 D (.lst (acc ++ [y]))) else Nx H3) :=
  lc_list (fun i H => H = upd H1 D (.lst (given i f v))) rfl (fun i H hi e => by rw [e]; exact ex_l (Ex.new hD) hx) (fun i x H hi e => ⟨hw _, lc_turn e (by have := (List.getElem?_eq_some_iff.mp hi).1; omega) (ht i x H hi e) (he i x H hi e)⟩) (fun H e => by rw [e]; exact q)
theorem lcT (f : Nat → Bool) (v : Nat → V) (hx : SqT K H1 a xs) (hD : H1 D = none) (hn : xs.length ≤ 100000) (hw : ∀ x, wipe ((wipe σ vs).set j (some x)) vs = wipe σ vs)
    (ht : ∀ (i : Nat) (x : V) (H : Hp), xs[i]? = some x → H = upd H1 D (.lst (given i f v)) → Ans tt ((wipe σ vs).set j (some x)) H (f i))
    (he : ∀ (i : Nat) (x : V) (H : Hp), xs[i]? = some x → H = upd H1 D (.lst (given i f v)) → f i = true → Val te ((wipe σ vs).set j (some x)) H (v i)) (q : Qd (upd H1 D (.lst (given xs.length f v)))) :
    ∃ W : Nat → Nat → Hp → Prop, (∃ m, W 0 m (upd H1 D (.lst []))) ∧ ∀ i m H, W i m H →
      ((Itt K a).stop i H ∧ Qd H) ∨ ((Itt K a).go i H ∧ ∃ Nx : Hp → Prop, (∀ H', Nx H' → ∃ m', m' < m ∧ W (i + 1) m' H') ∧ ∀ x H', (Itt K a).yld i H x H' → gName j x (wipe σ vs) H' fun σ2 H2 => wipe σ2 vs = wipe σ vs ∧ tt σ2 H2 fun b H3 =>
        if b = true then te σ2 H3 fun y H4 => ∃ acc, H4 D = some (.lst acc) ∧ acc.length < sizeLine ∧ Nx (upd H4 D (.lst (acc ++ [y]))) else Nx H3) :=
  lc_tup (fun i H => H = upd H1 D (.lst (given i f v))) rfl (fun i H hi e => by rw [e]; exact ex_t (Ex.new hD) hx) (fun i x H hi e => ⟨hw _, lc_turn e (by have := (List.getElem?_eq_some_iff.mp hi).1; omega) (ht i x H hi e) (he i x H hi e)⟩) (fun H e => by rw [e]; exact q)
theorem lcLm (g : V → V) (hx : SqL K H1 a xs) (hD : H1 D = none) (hn : xs.length ≤ 100000) (hw : ∀ x, wipe ((wipe σ vs).set j (some x)) vs = wipe σ vs)
    (he : ∀ (i : Nat) (x : V) (H : Hp), xs[i]? = some x → H = upd H1 D (.lst ((xs.take i).map g)) → Val te ((wipe σ vs).set j (some x)) H (g x)) (q : Qd (upd H1 D (.lst (xs.map g)))) :
    ∃ W : Nat → Nat → Hp → Prop, (∃ m, W 0 m (upd H1 D (.lst []))) ∧ ∀ i m H, W i m H →
      ((Itl K a).stop i H ∧ Qd H) ∨ ((Itl K a).go i H ∧ ∃ Nx : Hp → Prop, (∀ H', Nx H' → ∃ m', m' < m ∧ W (i + 1) m' H') ∧ ∀ x H', (Itl K a).yld i H x H' → gName j x (wipe σ vs) H' fun σ2 H2 => wipe σ2 vs = wipe σ vs ∧ tYes σ2 H2 fun b H3 =>
        if b = true then te σ2 H3 fun y H4 => ∃ acc, H4 D = some (.lst acc) ∧ acc.length < sizeLine ∧ Nx (upd H4 D (.lst (acc ++ [y]))) else Nx H3) :=
  lc_list (fun i H => H = upd H1 D (.lst ((xs.take i).map g))) (by rw [List.take_zero]; rfl) (fun i H hi e => by rw [e]; exact ex_l (Ex.new hD) hx)
    (fun i x H hi e => ⟨hw _, by
      refine iteT (B := H = upd H1 D (.lst ((xs.take (i + 1)).map g))) ?_
      refine he i x H hi e _ ?_
      subst e
      refine ⟨_, upd_same, sz_lt ?_, ?_⟩
      · rw [List.length_map, List.length_take]; have := (List.getElem?_eq_some_iff.mp hi).1; omega
      · rw [upd_upd, List.take_add_one, hi, List.map_append]; rfl⟩) (fun H e => by rw [e, List.take_length]; exact q)
theorem lcTm (g : V → V) (hx : SqT K H1 a xs) (hD : H1 D = none) (hn : xs.length ≤ 100000) (hw : ∀ x, wipe ((wipe σ vs).set j (some x)) vs = wipe σ vs)
    (he : ∀ (i : Nat) (x : V) (H : Hp), xs[i]? = some x → H = upd H1 D (.lst ((xs.take i).map g)) → Val te ((wipe σ vs).set j (some x)) H (g x)) (q : Qd (upd H1 D (.lst (xs.map g)))) :
    ∃ W : Nat → Nat → Hp → Prop, (∃ m, W 0 m (upd H1 D (.lst []))) ∧ ∀ i m H, W i m H →
      ((Itt K a).stop i H ∧ Qd H) ∨ ((Itt K a).go i H ∧ ∃ Nx : Hp → Prop, (∀ H', Nx H' → ∃ m', m' < m ∧ W (i + 1) m' H') ∧ ∀ x H', (Itt K a).yld i H x H' → gName j x (wipe σ vs) H' fun σ2 H2 => wipe σ2 vs = wipe σ vs ∧ tYes σ2 H2 fun b H3 =>
        if b = true then te σ2 H3 fun y H4 => ∃ acc, H4 D = some (.lst acc) ∧ acc.length < sizeLine ∧ Nx (upd H4 D (.lst (acc ++ [y]))) else Nx H3) :=
  lc_tup (fun i H => H = upd H1 D (.lst ((xs.take i).map g))) (by rw [List.take_zero]; rfl) (fun i H hi e => by rw [e]; exact ex_t (Ex.new hD) hx)
    (fun i x H hi e => ⟨hw _, by
      refine iteT (B := H = upd H1 D (.lst ((xs.take (i + 1)).map g))) ?_
      refine he i x H hi e _ ?_
      subst e
      refine ⟨_, upd_same, sz_lt ?_, ?_⟩
      · rw [List.length_map, List.length_take]; have := (List.getElem?_eq_some_iff.mp hi).1; omega
      · rw [upd_upd, List.take_add_one, hi, List.map_append]; rfl⟩) (fun H e => by rw [e, List.take_length]; exact q)
end
end G
namespace G
open PySem PySem.Spec PyProof.Rows L2 Evl
/-! ## rules within a comprehension's block: the written part by its letter -/
section
variable {X : Cx} {K : PySem.W.Frag}
theorem kIxT (h : X.K = K) : IxR X (rIxT K) := by subst h; exact ix_tup
theorem kIxL (h : X.K = K) : IxR X (rIxL K) := by subst h; exact ix_list
theorem kIx (h : X.K = K) : IxR X (rIx K) := by subst h; exact ix_seq
theorem kIn (h : X.K = K) : OpR X (compareOp .In) (rIn K false) := by subst h; exact op_in_seq
theorem kNotIn (h : X.K = K) : OpR X (compareOp .NotIn) (rIn K true) := by subst h; exact op_notIn_seq
theorem kLen (h : X.K = K) : CallR X (.builtin "len") (rLenS K) := by subst h; exact call_len_seq
theorem gStr {x s : Str} {t : Tok} {pos : Pos} (hg : Gl X x) (h : X.mg x = some (.str s t)) (hd : (x == ("__debug__" : Str)) = false := by decide) : PE X (.Name x pos) (tC (.str s)) := pe_glob (v := .str s) hg h ⟨t, rfl⟩ hd
theorem gInt {x : Str} {i : Int} {t : Tok} {pos : Pos} (hg : Gl X x) (h : X.mg x = some (.int i t)) (hd : (x == ("__debug__" : Str)) = false := by decide) : PE X (.Name x pos) (tC (.int i)) := pe_glob (v := .int i) hg h ⟨t, rfl⟩ hd
theorem gRef {x : Str} {a : Addr} {pos : Pos} (hg : Gl X x) (h : X.mg x = some (.ref a)) (hd : (x == ("__debug__" : Str)) = false := by decide) : PE X (.Name x pos) (tC (.ref a)) := pe_glob (v := .ref a) hg h rfl hd
theorem kSlL (h : X.K = K) : SlR X (rSlL K) := by subst h; exact sl_list
theorem kCatA (h : X.K = K) : OpR X (binaryOp .Add) (rCatA K) := by subst h; exact op_catA
theorem kAny (h : X.K = K) (hc : X.calm = true) : CallR X (.builtin "any") (rAny K) := by subst h; exact cr_any hc
theorem kAll (h : X.K = K) (hc : X.calm = true) : CallR X (.builtin "all") (rAll K) := by subst h; exact cr_all hc
theorem kLtT (h : X.K = K) (hu : X.A.units < cLine) : OpR X (compareOp .Lt) (rLtT K) := by subst h; exact op_ltT hu
theorem kPiT {e tg : Expr} {te : TE} (h : X.K = K) (he : PE X e te) : PI X tg e (iTup K te) := by subst h; exact pi_tup he
theorem kPiL {e tg : Expr} {te : TE} (h : X.K = K) (he : PE X e te) : PI X tg e (iList K te) := by subst h; exact pi_list he
theorem kSlA (h : X.K = K) : SlR X (rSlA K) := by subst h; exact sl_tupA
end
end G
namespace G
open PySem PySem.Spec PyProof.Rows L2 Evl
theorem dpAll_map {α : Type} {K : PySem.W.Frag} {H : Hp} {f : α → V} {g : α → PyData} (h : ∀ x, Dp K H (f x) (g x)) : ∀ l : List α, DpAll K H (l.map f) (l.map g)
  | [] => .nil
  | x :: r => .cons (h x) (dpAll_map h r)
theorem dp_ints {K : PySem.W.Frag} {H : Hp} {a : Addr} {ns : List Int} (h : SqL K H a (ns.map V.int)) : Dp K H (.ref a) (.list (ns.map PyData.int)) := .lst h (dpAll_map (fun i => .int i) ns)
theorem dp_nil {K : PySem.W.Frag} {H : Hp} {a : Addr} (h : SqL K H a []) : Dp K H (.ref a) (.list []) := .lst h .nil
theorem eqv_nil (l : List PyData) : PyData.eqv (.list l) (.list []) = l.isEmpty := by cases l <;> rfl
theorem shaped_nil : SeqAt.shaped (.list []) = true := by decide +kernel
end G
/-! enumerate over a tuple -/
namespace PySem
section
variable {prog : Program} {w : World} {A : Around} {E : Value → Shared → Prop} {s : Shared}
theorem G_tupOf {h : Heap} {a : Addr} {xs : Array Value} (p : PyProof.Rows.IsTup h a xs) : h.IsTuple a xs := p
set_option maxHeartbeats 2000000 in
theorem G_enumNew {v : Value} {o : Obj} {Hh : Heap → Prop} (B : Begins v o Hh) :
    Meets (Builtin.«enumerate.__new__» ⟨[.type "enumerate", v], []⟩) (fun _ R s => Hh s.heap ∧
      R (.ok (.ret (.ref (s.heap.push o).objs.size))) { s with heap := (s.heap.push o).push { cls := .type "enumerate", data := .fields #[.none, .bool false, .ref s.heap.objs.size, rawInt 0, .none, .none] } }) :=
  .of_wp fun pr wo ar rr sh hh => by
    obtain ⟨hp, gg, dd, tk, os⟩ := sh; obtain ⟨h1, h2⟩ := hh
    have sub0 := sub_enumerate
    have qq : ∀ {A' : Around} {E : Value → Shared → Prop} {Q : Value → Shared → Prop}, Q (.ref hp.objs.size) ⟨hp.push o, gg, dd, tk, os⟩ → wpAny (model pr wo) A' (pyIter v) Q E ⟨hp, gg, dd, tk, os⟩ :=
      fun z => B.iter pr wo _ _ ⟨hp, gg, dd, tk, os⟩ _ h1 z
    wp_walk using qq
    refine wpAny_stack_any fun _ => wpAny_pure ?_
    split
    · rename_i cc _ _ _ _ _
      cases (cc == Value.type "enumerate") <;> (wp_walk using qq; exact ⟨_, rfl, h2⟩)
    · wp_walk using qq
      exact ⟨_, rfl, h2⟩
theorem G_enumCall {v : Value} {o : Obj} {Hh : Heap → Prop} {Q : Value → Shared → Prop} (B : Begins v o Hh) (h1 : Hh s.heap)
    (k : ∀ h', IsEnum h' (s.heap.objs.size + 1) s.heap.objs.size 0 .none → h'.get? s.heap.objs.size = some o → (∀ b u, s.heap.get? b = some u → h'.get? b = some u) → Q (.ref (s.heap.objs.size + 1)) { s with heap := h' }) :
    wpAny (model prog w) A (call (.type "enumerate") [v]) Q E s := by
  refine callType_new F.called_enumerate (by decide) (F.typeCall_enumerate_1 _) (F.newCall_enumerate_1 _) (fun y => F.args_object_init_2 y _) F.entry_enumerate_new (G_enumNew B) ⟨h1, ?_⟩
  have hz : (s.heap.push o).objs.size = s.heap.objs.size + 1 := Heap.size_push ..
  show _ ∧ _
  rw [hz]
  have he : IsEnum ((s.heap.push o).push { cls := .type "enumerate", data := .fields #[.none, .bool false, .ref s.heap.objs.size, rawInt 0, .none, .none] }) (s.heap.objs.size + 1) s.heap.objs.size 0 .none := by
    have hs := Heap.get?_push_size (s.heap.push o) (o := { cls := .type "enumerate", data := .fields #[.none, .bool false, .ref s.heap.objs.size, rawInt 0, .none, .none] }) rfl
    rw [hz] at hs; exact hs
  exact ⟨⟨_, he, rfl⟩, k _ he (Heap.get?_push_of_some _ (Heap.get?_push_size _ B.free)) fun b u x => Heap.get?_push_of_some _ (Heap.get?_push_of_some _ x)⟩
end
end PySem
namespace G
open PySem PySem.Spec PyProof.Rows L2 Evl
/-- the tuple at a at each turn, each item in a new pair -/
def IteT (K : PySem.W.Frag) (a : Addr) : It :=
  ⟨fun i H => ∃ (xs : List V) (x : V), SqT K H a xs ∧ xs[i]? = some x,
   fun i H v H' => ∃ T x, v = .ref T ∧ H T = none ∧ H' = upd H T (.tup [.int (i : Nat), x]) ∧ ∀ xs, SqT K H a xs → xs[i]? = some x,
   fun i H => ∃ xs : List V, SqT K H a xs ∧ xs.length = i⟩
theorem turn_enumT {P : Program} {w : World} {K : PySem.W.Frag} {elts : List Expr} {kk : Nat} {tpos : Pos} (a e it : Addr) :
    Turn P w K (.Tuple elts kk tpos) (IteT K a) [e, it] e (fun i h => (∃ old, IsEnum h e it ((i : Nat) : Int) old) ∧ h.IsTupleIter it a i ∧ e ≠ it ∧ a ≠ it ∧ a ≠ e) where
  mem := by simp
  obj := fun i h st b hb => by
    obtain ⟨⟨old, he⟩, ⟨o, ho, hc, hd⟩, _⟩ := st
    have hb' : b = e ∨ b = it := by simpa using hb
    rcases hb' with z | z
    · rw [z]; exact ⟨_, he, fun v q => nomatch q⟩
    · rw [z]; exact ⟨o, ho, fun v q => by rw [hd] at q; cases q⟩
  keep := fun i h h' st k => by
    obtain ⟨⟨old, he⟩, hi, hne⟩ := st
    exact ⟨⟨old, k e (by simp) _ he⟩, hi.at fun o q => k it (by simp) o q, hne⟩
  item := by
    intro X hP hw hK hc i pins s σ H E I hf st hg
    subst hP hw hK
    obtain ⟨⟨old, he⟩, hit, hne, hai, hae⟩ := st
    obtain ⟨xs, x, hq, hx⟩ := hg
    obtain ⟨its, rv, p, hz⟩ := I.tuple hq
    obtain ⟨u, hu, ru⟩ := rv.get hx
    have hel : e < s.heap.objs.size := Heap.lt_size he
    have hil : it < s.heap.objs.size := by obtain ⟨_, q, _⟩ := hit; exact Heap.lt_size q
    have hh : X.A.handled = none := I.ok.hd hc
    refine wpAny_pyNext_enum_itemD (Draws.tuple (A := X.A.in1) hh it a hai its.toArray) he ⟨hit, p⟩ ?_ hne ?_ fun y h' tk hy ho hst hT hsz hk => ?_
    · have := (List.getElem?_eq_some_iff.mp hu).1
      simpa using this
    · intro hm
      have hm' : e = it ∨ e = a := by simpa using hm
      rcases hm' with z | z
      · exact hne z
      · exact hae z.symm
    · have ey : y = u := by
        have hy' : its[i]? = some y := by simpa using hy
        exact Option.some.inj (hy'.symm.trans hu)
      subst ey
      refine ⟨_, rfl, wpAny_letOwnedTupleGo_enum (s := { s with heap := h', toks := tk + 1 }) ho fun h'' he' sb => ?_⟩
      have hT2 : h''.get? s.heap.objs.size = some { cls := .type "tuple", data := .seq #[.int i tk, y] } := (sb.2 _ (Nat.ne_of_gt hel)).trans hT
      have new : ObjOk X.prog X.w (upd H s.heap.objs.size (.tup [.int (i : Nat), x])) h'' s.heap.objs.size (.tup [.int (i : Nat), x]) :=
        ⟨by show 2 ≤ sizeLine; decide, [.int i tk, y], .cons ⟨_, rfl⟩ (.cons ru .nil), ⟨_, hT2, rfl, _, rfl⟩⟩
      have I1 : Inv X pins σ (upd H s.heap.objs.size (.tup [.int (i : Nat), x])) { s with heap := h'', toks := tk + 1 } :=
        I.turnedNew (ch := [e, it]) (fun b ob hb q => (sb.2 b (fun z => hb (by simp [z]))).trans (hk b ob (fun z => hb (by simp [z])) (fun z => hb (by simp [z])) q)) hf (Nat.le_refl _) new
      refine ⟨.ref s.heap.objs.size, _, I1, rfl, ⟨_, x, rfl, I.hok.fresh (Nat.le_refl _), rfl, fun ys hy => by rw [I.tuple_inj hy hq]; exact hx⟩, ⟨⟨y, ?_⟩, hst.1.at fun o q => (sb.2 it (Ne.symm hne)).trans q, hne, hai, hae⟩, fun b hb => ?_⟩
      · have e1 : ((i + 1 : Nat) : Int) = (i : Int) + 1 := by omega
        rw [e1]; exact he'
      · have hb' : b < s.heap.objs.size := by
          have hb2 : b = e ∨ b = it := by simpa using hb
          rcases hb2 with z | z
          · rw [z]; exact hel
          · rw [z]; exact hil
        rw [upd_ne (Nat.ne_of_lt hb')]
        exact (hf b hb).1
  done := by
    intro X hP hw hK hc i pins s σ H E I hf st hg
    subst hP hw hK
    obtain ⟨⟨old, he⟩, hit, hne, hai, hae⟩ := st
    obtain ⟨xs, hq, hx⟩ := hg
    obtain ⟨its, rv, p, hz⟩ := I.tuple hq
    obtain ⟨f0, f1, f2, f3, f4, f5⟩ := hf it (by simp)
    have hl := rv.length
    have hh : X.A.handled = none := I.ok.hd hc
    have ei : its.toArray.size = i := by rw [List.size_toArray, ← hl]; exact hx
    have st2 : s.heap.IsTupleIter it a its.toArray.size ∧ s.heap.IsTuple a its.toArray := by rw [ei]; exact ⟨hit, p⟩
    exact wpAny_pyNext_enum_endD (Draws.tuple (A := X.A.in1) hh it a hai its.toArray) he st2 fun h' eb => ⟨rfl, I.turned (t' := s.toks) (fun b o hb q => eb b o hb q) f0 f1 f3 f4 f5⟩
  self := fun A i s Q E st h => by
    obtain ⟨⟨_, he⟩, _⟩ := st
    exact wpAny_pyIter_enum he h
def iEnumT (K : PySem.W.Frag) (ta : TA) : TI := fun σ H R => ta σ H fun vs H1 => ∃ a xs, vs = [.ref a] ∧ SqT K H1 a xs ∧ R (IteT K a) H1
theorem pi_enumT {X : Cx} {e : Expr} {ta : TA} {p pos tpos : Pos} {elts : List Expr} {kk : Nat} (hg : Gl X "enumerate") (hm : X.mg "enumerate" = none) (ha : PA X [e] ta) (hs : starEach [e] X.env = [(false, eval e X.env)] := by rfl) :
    PI X (.Tuple elts kk tpos) (.Call (.Name "enumerate" p) [e] [] pos) (iEnumT X.K ta) := by
  refine ⟨fun pins s σ H R I h => Call_ (ld_blt I hg hm boot_enumerate (PyProof.Rows.callWith_type1 (thn (ha.run pos pins s σ H _ I h) fun us s1 ⟨vs, H1, I1, r1, q1⟩ => ?_) hs rfl))⟩
  obtain ⟨a, xs, rfl, hq, q⟩ := q1
  cases r1 with
  | cons r rr =>
    cases rr
    cases r
    obtain ⟨its, rv, p', hz⟩ := I1.tuple hq
    have hal : a < s1.heap.objs.size := by obtain ⟨o, ho, _⟩ := p'; exact Heap.lt_size ho
    refine G_enumCall (begins_tuple a its.toArray) p' fun h' he hit hk => wpAny_pyIter_enum he ?_
    have I2 : Inv X pins σ H1 { s1 with heap := h' } := I1.kept (t' := s1.toks) hk
    refine ⟨s1.heap.objs.size + 1, [s1.heap.objs.size + 1, s1.heap.objs.size], _, _, H1, rfl, I2, turn_enumT a (s1.heap.objs.size + 1) s1.heap.objs.size,
      ⟨⟨.none, he⟩, ⟨_, hit, rfl, rfl⟩, Nat.succ_ne_self _, Nat.ne_of_lt hal, Nat.ne_of_lt (Nat.lt_succ_of_lt hal)⟩, fun b hb => ?_, q⟩
    have hb' : b = s1.heap.objs.size + 1 ∨ b = s1.heap.objs.size := by simpa using hb
    have hle : s1.heap.objs.size ≤ b := by
      rcases hb' with z | z
      · rw [z]; exact Nat.le_add_right _ _
      · rw [z]; exact Nat.le_refl _
    exact I1.fpOk hle (I1.hok.fresh hle)
theorem walk_enumT {K : PySem.W.Frag} {a : Addr} {xs : List V} : Walk (IteT K a) xs.length (fun H => SqT K H a xs) (YPair (fun i => some (.int (i : Nat))) (fun i => xs[i]?)) := by
  refine ⟨fun i _ hi q => ⟨xs, xs[i], q, by simp [hi]⟩, fun _ q => ⟨xs, q, rfl⟩, fun i H v H' _ q y => ?_⟩
  obtain ⟨T, x, h1, h2, h3, h4⟩ := y
  exact ⟨T, .int (i : Nat), x, h1, h2, h3, rfl, h4 xs q⟩
theorem kPiEnumT {X : Cx} {K : PySem.W.Frag} {e : Expr} {ta : TA} {p pos tpos : Pos} {elts : List Expr} {kk : Nat} (h : X.K = K) (hg : Gl X "enumerate") (hm : X.mg "enumerate" = none) (ha : PA X [e] ta) (hs : starEach [e] X.env = [(false, eval e X.env)] := by rfl) :
    PI X (.Tuple elts kk tpos) (.Call (.Name "enumerate" p) [e] [] pos) (iEnumT K ta) := by subst h; exact pi_enumT hg hm ha hs
end G
/-! t[a::2], t a tuple -/
namespace HT
open PySem PySem.Spec PyProof.Rows L2
section
variable {prog : Program} {w : World} {A : Around} {E : Value → Shared → Prop} {s : Shared}
theorem g_applied {sl : Addr} {vl vu vs : Value} {lo hi : Option Int} {st : Int} {n : Nat} {Q : Int × Int × Nat → Shared → Prop} (hs : s.heap.IsSliceOf sl vl vu vs) (pl : IsPart vl lo) (pu : IsPart vu hi) (ps : IsPart vs (some st)) (h0 : st ≠ 0)
    (h : Q ((Builtin.Slice.sliceAdjust lo hi st (n : Int)).1, st, Builtin.Slice.slicePlaces (Builtin.Slice.sliceAdjust lo hi st (n : Int)).1 (Builtin.Slice.sliceAdjust lo hi st (n : Int)).2 st) s) :
    wpAny (model prog w) A (Builtin.Slice.sliceApplied (.ref sl) (pure (n : Int))) Q E s := by
  obtain ⟨ob, hob, _, hd⟩ := id hs
  unfold Builtin.Slice.sliceApplied Builtin.Slice.sliceFields
  refine wpAny_bind (wpAny_bind (wpAny_field hob hd (x := vl) rfl (wpAny_bind (wpAny_field hob hd (x := vu) rfl (wpAny_bind (wpAny_field hob hd (x := vs) rfl (wpAny_pure ?_)))))))
  refine wpAny_bind (slicePart_ ps ?_)
  show wpAny _ _ (if (st == 0) = true then _ else _) _ _ s
  rw [if_neg (by intro q; exact h0 (eq_of_beq q))]
  exact wpAny_bind (slicePart_ pl (wpAny_bind (slicePart_ pu (wpAny_bind (wpAny_pure (wpAny_pure h))))))
def stepped (xs : List Value) (lo st : Int) (n : Nat) : List Value := (List.range n).filterMap fun (k : Nat) => xs.toArray[(lo + (k : Int) * st).toNat]?
theorem g_getStep {t sl : Addr} {its : List Value} {vl vu vs : Value} {lo hi : Option Int} {st : Int} {Q : Value → Shared → Prop} (ht : IsTup s.heap t its.toArray) (hs : s.heap.IsSliceOf sl vl vu vs) (pl : IsPart vl lo) (pu : IsPart vu hi) (ps : IsPart vs (some st)) (h0 : st ≠ 0) (h1 : st ≠ 1)
    (hz : (stepped its (Builtin.Slice.sliceAdjust lo hi st (its.toArray.size : Int)).1 st (Builtin.Slice.slicePlaces (Builtin.Slice.sliceAdjust lo hi st (its.toArray.size : Int)).1 (Builtin.Slice.sliceAdjust lo hi st (its.toArray.size : Int)).2 st)).length ≤ sizeLine)
    (h : Q (.ref s.heap.objs.size) { s with heap := s.heap.push { cls := .type "tuple", data := .seq (stepped its (Builtin.Slice.sliceAdjust lo hi st (its.toArray.size : Int)).1 st (Builtin.Slice.slicePlaces (Builtin.Slice.sliceAdjust lo hi st (its.toArray.size : Int)).1 (Builtin.Slice.sliceAdjust lo hi st (its.toArray.size : Int)).2 st)).toArray } }) :
    wpAny (model prog w) A (getItem (.ref t) (.ref sl)) Q E s := by
  have ok : sizeOk (.seq (stepped its (Builtin.Slice.sliceAdjust lo hi st (its.toArray.size : Int)).1 st (Builtin.Slice.slicePlaces (Builtin.Slice.sliceAdjust lo hi st (its.toArray.size : Int)).1 (Builtin.Slice.sliceAdjust lo hi st (its.toArray.size : Int)).2 st)).toArray) := by
    show (stepped its _ st _).toArray.size ≤ sizeLine
    rw [List.size_toArray]; exact hz
  obtain ⟨ob, hob, hc, hd⟩ := id hs
  have hTs : s.TypeIs (.ref sl) "slice" := ⟨ob, hob, hc⟩
  unfold getItem
  try with_reducible refine wpAny_holding ?_
  first | refine wpAny_bind (wpAny_pure ?_) | skip
  refine wpAny_bind (wpAny_sequenceKey ht.typeIs (by decide) ?_)
  refine wpAny_bind (wpAny_callSpecial?_slot (name := Str.ofString "__getitem__") ht.typeIs slot_tuple_getitem (wpAny_call_entry slot_tuple_getitem ht.typeIs entry_tuple_getitem ?_ (args_tuple_getitem _ _)))
  show wpAny _ _ (Builtin.Tuple.tupleItemsOf (.ref t) >>= _) _ _ s
  refine wpAny_bind (tupleItemsOf_ ht (wpAny_bind (wpAny_typeOf hTs ?_)))
  rw [if_pos (by decide)]
  refine wpAny_bind (g_applied hs pl pu ps h0 ?_)
  generalize (Builtin.Slice.sliceAdjust lo hi st (its.toArray.size : Int)).1 = l0 at *
  generalize Builtin.Slice.slicePlaces l0 (Builtin.Slice.sliceAdjust lo hi st (its.toArray.size : Int)).2 st = n0 at *
  have hno : ¬ ((l0 == 0 && st == 1 && n0 == its.toArray.size) = true) := by
    intro q
    rw [Bool.and_eq_true, Bool.and_eq_true] at q
    exact h1 (eq_of_beq q.1.2)
  show wpAny _ _ (if (l0 == 0 && st == 1 && n0 == its.toArray.size) = true then _ else _) _ _ s
  rw [if_neg hno]
  first
    | exact wpAny_bind (m := Builtin.Tuple.tupleExact _) (wpAny_newObj_type (wpAny_pure ⟨_, rfl, wpAny_pure h⟩) ok)
    | exact wpAny_bind (m := Builtin.Tuple.tupleExact _) (wpAny_newObj_type (wpAny_bind (wpAny_pure (wpAny_pure ⟨_, rfl, wpAny_pure h⟩))) ok)
    | exact wpAny_bind (wpAny_bind (m := Builtin.Tuple.tupleExact _) (wpAny_newObj_type (wpAny_pure (wpAny_pure ⟨_, rfl, wpAny_pure h⟩)) ok))
    | exact wpAny_bind (wpAny_bind (m := Builtin.Tuple.tupleExact _) (wpAny_newObj_type (wpAny_pure ⟨_, rfl, wpAny_pure h⟩) ok))
end
end HT
namespace G
open PySem PySem.Spec PyProof.Rows L2 Evl
/-- every second item from a on -/
def halfL {α : Type} (a : Nat) (xs : List α) : List α := (List.range ((xs.length - a + 1) / 2)).filterMap fun k => xs[a + 2 * k]?
theorem halfL_len {α : Type} (a : Nat) (xs : List α) : (halfL a xs).length ≤ xs.length + 1 := by
  unfold halfL
  refine Nat.le_trans (List.length_filterMap_le _ _) ?_
  rw [List.length_range]; omega
theorem vals_filterMap {f : Nat → Option V} {g : Nat → Option Value} : ∀ {l : List Nat}, (∀ k, k ∈ l → RelO (f k) (g k)) → Vals (l.filterMap f) (l.filterMap g)
  | [], _ => .nil
  | k :: r, h => by
    have hk := h k (List.mem_cons_self ..)
    have ih := vals_filterMap (l := r) fun j hj => h j (List.mem_cons_of_mem _ hj)
    rw [List.filterMap_cons, List.filterMap_cons]
    cases e : f k with
    | none =>
      cases e2 : g k with
      | none => exact ih
      | some u => rw [e, e2] at hk; exact hk.elim
    | some v =>
      cases e2 : g k with
      | none => rw [e, e2] at hk; exact hk.elim
      | some u => rw [e, e2] at hk; exact .cons hk ih
def tHalf (K : PySem.W.Frag) (a : Nat) (te : TE) : TE := fun σ H Q => te σ H fun x H1 => ∃ t xs, x = .ref t ∧ SqT K H1 t xs ∧ xs.length ≤ 100000 ∧ ∀ p, H1 p = none → Q (.ref p) (upd H1 p (.tup (halfL a xs)))
theorem half_places {a n : Nat} (h : a ≤ 1) : (Builtin.Slice.sliceAdjust (some (a : Int)) none 2 (n : Int)).1 = ((min a n : Nat) : Int) ∧
    Builtin.Slice.slicePlaces (Builtin.Slice.sliceAdjust (some (a : Int)) none 2 (n : Int)).1 (Builtin.Slice.sliceAdjust (some (a : Int)) none 2 (n : Int)).2 2 = (n - a + 1) / 2 := by
  have h2 : ¬ ((2 : Int) < 0) := by omega
  have h3 : (2 : Int) > 0 := by omega
  have ha : ¬ ((a : Int) < 0) := by omega
  have e : Builtin.Slice.sliceAdjust (some (a : Int)) none 2 (n : Int) = (((min a n : Nat) : Int), (n : Int)) := by
    unfold Builtin.Slice.sliceAdjust
    simp only [h2, if_false, ha]
    refine Prod.ext ?_ rfl
    show min (a : Int) (n : Int) = ((min a n : Nat) : Int)
    omega
  rw [e]
  refine ⟨rfl, ?_⟩
  show Builtin.Slice.slicePlaces ((min a n : Nat) : Int) (n : Int) 2 = (n - a + 1) / 2
  unfold Builtin.Slice.slicePlaces
  simp only [h3, if_true]
  split <;> omega
section
variable {X : Cx}
theorem pe_half {e : Expr} {te : TE} {a : Nat} {k1 k2 : Nat} {p1 p2 p3 pos : Pos} (ha : a ≤ 1) (he : PE X e te) : PE X (.Subscript e (.Slice (some (.Constant (.int (a : Int)) k1 p1)) none (some (.Constant (.int 2) k2 p2)) p3) pos) (tHalf X.K a te) := by
  refine ⟨fun pins s σ H Q I h => Subscript_ (thn (he.run pins s σ H _ I h) fun v s1 ⟨x, H1, I1, r1, q1⟩ => ?_)⟩
  obtain ⟨t, xs, rfl, hx, hlen, q⟩ := q1
  cases r1
  have hlo : PO X (some (.Constant (.int (a : Int)) k1 p1)) (tPart (tC (.int (a : Int)))) := po_some pe_int
  have hst : PO X (some (.Constant (.int 2) k2 p2)) (tPart (tC (.int 2))) := po_some pe_int
  refine wpAny_Slice (thn (hlo.run pins s1 σ H1 (fun o H2 => o = some (a : Int) ∧ H2 = H1) I1 ⟨_, rfl, rfl, rfl⟩) fun vl s2 ⟨l, H2, I2, pl, el, e2⟩ => ?_)
  subst el e2
  refine thn (po_none.run pins s2 σ H2 (fun o H3 => o = none ∧ H3 = H2) I2 ⟨rfl, rfl⟩) fun vu s3 ⟨u, H3, I3, pu, eu, e3⟩ => ?_
  subst eu e3
  refine thn (hst.run pins s3 σ H3 (fun o H4 => o = some 2 ∧ H4 = H3) I3 ⟨_, rfl, rfl, rfl⟩) fun vs s4 ⟨o, H4, I4, ps, eo, e4⟩ => ?_
  subst eo e4
  have I5 : Inv X pins σ H4 { s4 with heap := s4.heap.push { cls := .type "slice", data := .fields #[vl, vu, vs] } } := I4.kept (t' := s4.toks) fun b ob q => Heap.get?_push_of_some _ q
  obtain ⟨its, r, ht, hz⟩ := I5.tuple hx
  have hl : its.toArray.size = xs.length := by rw [List.size_toArray]; exact r.length.symm
  obtain ⟨hp1, hp2⟩ := half_places (n := xs.length) ha
  have hrel : Vals (halfL a xs) (HT.stepped its ((min a xs.length : Nat) : Int) 2 ((xs.length - a + 1) / 2)) := by
    unfold halfL HT.stepped
    refine vals_filterMap fun k hk => ?_
    have hk' := List.mem_range.mp hk
    have hi : a + 2 * k < xs.length := by omega
    have en : (((min a xs.length : Nat) : Int) + (k : Int) * 2).toNat = a + 2 * k := by omega
    rw [en, List.getElem?_eq_getElem hi]
    obtain ⟨u, hu, ru⟩ := r.get (List.getElem?_eq_getElem hi)
    rw [List.getElem?_toArray, hu]
    exact ru
  have hsz : (halfL a xs).length ≤ sizeLine := sz_of (by
    unfold halfL
    refine Nat.le_trans (List.length_filterMap_le _ _) ?_
    rw [List.length_range]
    omega)
  show wpAny (model X.prog X.w) X.A (subscriptTail e (.Slice (some (.Constant (.int (a : Int)) k1 p1)) none (some (.Constant (.int 2) k2 p2)) p3) (.ref t) (.ref s4.heap.objs.size)) (EP X pins σ Q) X.xe { s4 with heap := s4.heap.push { cls := .type "slice", data := .fields #[vl, vu, vs] } }
  refine tail_any (ops := [.ref t, .ref s4.heap.objs.size]) ht.typeIs PyProof.Rows.slot_tuple_getitem.lookup ?_ (by with_unfolding_all rfl)
  refine HT.g_getStep ht (Heap.IsSliceOf.new _ vl vu vs) pl pu ps (by decide) (by decide) ?_ ?_
  · rw [hl, hp2, hp1, ← hrel.length]; exact hsz
  · rw [hl, hp2, hp1]
    refine ⟨.ref _, _, I5.laid (t' := s4.toks) (o := .tup (halfL a xs)) (fun b ob q => Heap.get?_push_of_some _ q) (Nat.le_refl _) ?_, rfl, q _ (I5.hok.fresh (Nat.le_refl _))⟩
    exact ⟨hsz, _, hrel, ⟨_, Heap.get?_push_size _ rfl, rfl, _, rfl⟩⟩
end
end G
namespace G
open PySem PySem.Spec PyProof.Rows L2 Evl
/-! ## two lists side by side -/
def All2 {α β : Type} (R : α → β → Prop) (as : List α) (bs : List β) : Prop := as.length = bs.length ∧ ∀ (i : Nat) (a : α) (b : β), as[i]? = some a → bs[i]? = some b → R a b
theorem All2.nil {α β : Type} {R : α → β → Prop} : All2 R [] [] := ⟨rfl, fun _ _ _ h => nomatch h⟩
theorem All2.imp {α β : Type} {R S : α → β → Prop} {as : List α} {bs : List β} (h : All2 R as bs) (f : ∀ a b, R a b → S a b) : All2 S as bs := ⟨h.1, fun i a b h1 h2 => f _ _ (h.2 i a b h1 h2)⟩
theorem All2.snoc {α β : Type} {R : α → β → Prop} {as : List α} {bs : List β} {a : α} {b : β} (h : All2 R as bs) (r : R a b) : All2 R (as ++ [a]) (bs ++ [b]) := by
  refine ⟨by rw [List.length_append, List.length_append, h.1]; rfl, fun i x y h1 h2 => ?_⟩
  by_cases hi : i < as.length
  · rw [List.getElem?_append_left hi] at h1
    rw [List.getElem?_append_left (h.1 ▸ hi)] at h2
    exact h.2 i x y h1 h2
  · rw [List.getElem?_append_right (by omega)] at h1
    rw [List.getElem?_append_right (by rw [← h.1]; omega), ← h.1] at h2
    cases e : i - as.length with
    | zero =>
      rw [e] at h1 h2
      cases h1; cases h2; exact r
    | succ n => rw [e] at h1; exact nomatch h1
theorem All2.at_ {α β : Type} {R : α → β → Prop} {as : List α} {bs : List β} (h : All2 R as bs) {i : Nat} {a : α} (e : as[i]? = some a) : ∃ b, bs[i]? = some b ∧ R a b := by
  have hi : i < bs.length := by rw [← h.1]; exact (List.getElem?_eq_some_iff.mp e).1
  exact ⟨bs[i], List.getElem?_eq_getElem hi, h.2 i a _ e (List.getElem?_eq_getElem hi)⟩
theorem All2.of {α β : Type} {R : α → β → Prop} {as : List α} {bs : List β} (h : All2 R as bs) {i : Nat} {b : β} (e : bs[i]? = some b) : ∃ a, as[i]? = some a ∧ R a b := by
  have hi : i < as.length := by rw [h.1]; exact (List.getElem?_eq_some_iff.mp e).1
  exact ⟨as[i], List.getElem?_eq_getElem hi, h.2 i _ b (List.getElem?_eq_getElem hi) e⟩
theorem All2.cons {α β : Type} {R : α → β → Prop} {as : List α} {bs : List β} {a : α} {b : β} (r : R a b) (h : All2 R as bs) : All2 R (a :: as) (b :: bs) := by
  refine ⟨by rw [List.length_cons, List.length_cons, h.1], fun i x y h1 h2 => ?_⟩
  cases i with
  | zero => cases h1; cases h2; exact r
  | succ i => exact h.2 i x y h1 h2
theorem take_snoc1 {α : Type} {l : List α} {j : Nat} {x : α} (h : l[j]? = some x) : l.take (j + 1) = l.take j ++ [x] := by rw [List.take_add_one, h]; rfl
theorem refs_get {as : List Addr} {k : Nat} {x : V} (hx : (as.map V.ref)[k]? = some x) : ∃ a, as[k]? = some a ∧ x = .ref a := by
  rw [List.getElem?_map] at hx
  cases e : as[k]? with
  | none => rw [e] at hx; cases hx
  | some a => rw [e] at hx; cases hx; exact ⟨a, rfl, rfl⟩
/-! ## walks: any body -/
theorem wk_list {K : PySem.W.Frag} {a : Addr} {xs : List V} {body : (Hp → Prop) → V → Hp → Prop} {H0 : Hp} {Qd : Hp → Prop} (Pv : Nat → Hp → Prop) (h0 : Pv 0 H0) (hl : ∀ i H, i ≤ xs.length → Pv i H → SqL K H a xs)
    (hs : ∀ i x H, xs[i]? = some x → Pv i H → body (Pv (i + 1)) x H) (hd : ∀ H, Pv xs.length H → Qd H) :
    ∃ W : Nat → Nat → Hp → Prop, (∃ m, W 0 m H0) ∧ ∀ i m H, W i m H → ((Itl K a).stop i H ∧ Qd H) ∨ ((Itl K a).go i H ∧ ∃ Nx : Hp → Prop, (∀ H', Nx H' → ∃ m', m' < m ∧ W (i + 1) m' H') ∧ ∀ x H', (Itl K a).yld i H x H' → body Nx x H') := by
  refine ⟨fun i m H => m = xs.length - i ∧ i ≤ xs.length ∧ Pv i H, ⟨xs.length, by simp, Nat.zero_le _, h0⟩, ?_⟩
  rintro i m H ⟨rfl, hi, p⟩
  have q := hl i H hi p
  rcases Nat.lt_or_ge i xs.length with lt | ge
  · have e : xs[i]? = some xs[i] := List.getElem?_eq_getElem lt
    refine .inr ⟨⟨xs, xs[i], q, e⟩, Pv (i + 1), fun H' p' => ⟨xs.length - (i + 1), by omega, rfl, lt, p'⟩, fun x H' y => ?_⟩
    obtain ⟨rfl, y⟩ := y
    exact hs i x _ (y xs q) p
  · have e : i = xs.length := by omega
    subst e
    exact .inl ⟨⟨xs, q, Nat.le_refl _⟩, hd H p⟩
theorem wk_tup {K : PySem.W.Frag} {a : Addr} {xs : List V} {body : (Hp → Prop) → V → Hp → Prop} {H0 : Hp} {Qd : Hp → Prop} (Pv : Nat → Hp → Prop) (h0 : Pv 0 H0) (hl : ∀ i H, i ≤ xs.length → Pv i H → SqT K H a xs)
    (hs : ∀ i x H, xs[i]? = some x → Pv i H → body (Pv (i + 1)) x H) (hd : ∀ H, Pv xs.length H → Qd H) :
    ∃ W : Nat → Nat → Hp → Prop, (∃ m, W 0 m H0) ∧ ∀ i m H, W i m H → ((Itt K a).stop i H ∧ Qd H) ∨ ((Itt K a).go i H ∧ ∃ Nx : Hp → Prop, (∀ H', Nx H' → ∃ m', m' < m ∧ W (i + 1) m' H') ∧ ∀ x H', (Itt K a).yld i H x H' → body Nx x H') := by
  refine ⟨fun i m H => m = xs.length - i ∧ i ≤ xs.length ∧ Pv i H, ⟨xs.length, by simp, Nat.zero_le _, h0⟩, ?_⟩
  rintro i m H ⟨rfl, hi, p⟩
  have q := hl i H hi p
  rcases Nat.lt_or_ge i xs.length with lt | ge
  · have e : xs[i]? = some xs[i] := List.getElem?_eq_getElem lt
    refine .inr ⟨⟨xs, xs[i], q, e⟩, Pv (i + 1), fun H' p' => ⟨xs.length - (i + 1), by omega, rfl, lt, p'⟩, fun x H' y => ?_⟩
    obtain ⟨rfl, y⟩ := y
    exact hs i x _ (y xs q) p
  · have e : i = xs.length := by omega
    subst e
    exact .inl ⟨⟨xs, q, Nat.le_refl _⟩, hd H p⟩
theorem wk_it {J : It} {n : Nat} {Gd : Hp → Prop} {Y : Nat → Hp → V → Hp → Prop} (w : Walk J n Gd Y) {body : (Hp → Prop) → V → Hp → Prop} {H0 : Hp} {Qd : Hp → Prop} (Pv : Nat → Hp → Prop) (h0 : Pv 0 H0) (hG : ∀ i H, i ≤ n → Pv i H → Gd H)
    (hs : ∀ i x H H', i < n → Pv i H → Y i H x H' → body (Pv (i + 1)) x H') (hd : ∀ H, Pv n H → Qd H) :
    ∃ W : Nat → Nat → Hp → Prop, (∃ m, W 0 m H0) ∧ ∀ i m H, W i m H → (J.stop i H ∧ Qd H) ∨ (J.go i H ∧ ∃ Nx : Hp → Prop, (∀ H', Nx H' → ∃ m', m' < m ∧ W (i + 1) m' H') ∧ ∀ x H', J.yld i H x H' → body Nx x H') := by
  refine ⟨fun i m H => m = n - i ∧ i ≤ n ∧ Pv i H, ⟨n, by simp, Nat.zero_le _, h0⟩, ?_⟩
  rintro i m H ⟨rfl, hi, p⟩
  rcases Nat.lt_or_ge i n with lt | ge
  · exact .inr ⟨w.goes i H lt (hG i H hi p), Pv (i + 1), fun H' p' => ⟨n - (i + 1), by omega, rfl, lt, p'⟩, fun x H' y => hs i x H H' lt p (w.yields i H x H' lt (hG i H hi p) y)⟩
  · have e : i = n := by omega
    subst e
    exact .inl ⟨w.stops H (hG i H hi p), hd H p⟩
/-! ## tuples joined and cut, whatever object that is -/
theorem cat_tup {K : PySem.W.Frag} {H : Hp} {a b : Addr} {xs ys : List V} {Q : VK} (ha : H a = some (.tup xs)) (hb : H b = some (.tup ys)) (hl : xs.length + ys.length ≤ sizeLine) (q : ∀ c H', Ex H H' → H' c = some (.tup (xs ++ ys)) → Q (.ref c) H') : rCatA K (.ref a) (.ref b) H Q := by
  refine ⟨a, b, xs, ys, rfl, rfl, SqT.of ha, SqT.of hb, hl, fun e => ?_, fun _ e => ?_, fun _ _ p np => ?_⟩
  · subst e; exact q b H (Ex.refl _) hb
  · subst e; exact q a H (Ex.refl _) (by rw [List.append_nil]; exact ha)
  · exact q p _ (Ex.new np) upd_same
theorem cut_tup {K : PySem.W.Frag} {H : Hp} {a : Addr} {xs : List V} {lo hi : Option Int} {Q : VK} (ha : H a = some (.tup xs)) (q : ∀ c H', Ex H H' → H' c = some (.tup (cutV xs lo hi)) → Q (.ref c) H') : rSlA K (.ref a) lo hi H Q := by
  refine ⟨a, xs, rfl, SqT.of ha, fun e => ?_, fun _ p np => q p _ (Ex.new np) upd_same⟩
  refine q a H (Ex.refl _) ?_
  rw [ha]
  unfold cutV
  rw [e.1, e.2, List.drop_zero, Nat.sub_zero, List.take_length]
theorem cutV_head {xs : List V} {k : Nat} (h : k ≤ xs.length) : cutV xs none (some (k : Int)) = xs.take k := by
  unfold cutV
  rw [HT.sIx_none, HT.sIx_nat, List.drop_zero, Nat.sub_zero, Nat.min_eq_left h]
theorem cutV_tail {xs : List V} {k : Nat} (h : k ≤ xs.length) : cutV xs (some (k : Int)) none = xs.drop k := by
  unfold cutV
  rw [HT.sIx_none, HT.sIx_nat, Nat.min_eq_left h, List.take_of_length_le]
  rw [List.length_drop]; exact Nat.le_refl _
end G
namespace G
open PySem PySem.Spec PyProof.Rows L2 Evl
theorem tYes_in {σ : L2.St} {H : Hp} {A B : Hp → Prop} (h : A H) : tYes σ H (fun b H3 => if b = true then A H3 else B H3) := by
  show if true = true then A H else B H
  exact iteT h
def tabV (bs : List Bool) : HO := .tup (bs.map V.bl)
theorem inV_ints {k : Int} {l : List Int} : inV (.int k) (l.map V.int) = l.contains k := by
  unfold inV
  rw [List.any_map, List.contains_eq_any_beq]
  congr 1
  funext y
  show (y == k) = (k == y)
  rw [Bool.eq_iff_iff]; simp; exact eq_comm
theorem inV_bls {k : Bool} {l : List Bool} : inV (.bl k) (l.map V.bl) = l.contains k := by
  unfold inV
  rw [List.any_map, List.contains_eq_any_beq]
  congr 1
  funext y
  show (y == k) = (k == y)
  cases y <;> cases k <;> rfl
theorem flat_map {α : Type} {f : α → V} (h : ∀ x, flatV (f x) = true) (l : List α) : (l.map f).all flatV = true := by
  rw [List.all_map]
  exact List.all_eq_true.mpr fun x _ => h x
theorem tif_by {tt : TE} {σ : L2.St} {H : Hp} {Q : VK} (R : V → Hp → Prop) (h : ∀ Q' : VK, (∀ v H', R v H' → Q' v H') → tt σ H Q') (rest : ∀ v H', R v H' → Q v H') : tt σ H Q := h Q rest
theorem bl_eq (a b : Bool) : decide (V.bl a = V.bl b) = decide (a = b) := by cases a <;> cases b <;> rfl
end G
namespace G
open PySem PySem.Spec PyProof.Rows L2
def topS (i : Nat) : Stmt := PySem.Challenge.pw_signoff_k36_waveforms_combined.main.body.getD i (.Pass ⟨0, 0, 0, 0⟩)
abbrev s_wall : Stmt := topS 0
abbrev s_is_ascending : Stmt := topS 2
abbrev s_look_up : Stmt := topS 7
abbrev s_Waveform_init : Stmt := inClass (topS 12) 0
abbrev s_Waveform_start : Stmt := inClass (topS 12) 1
abbrev s_Waveform_changes : Stmt := inClass (topS 12) 2
abbrev s_Waveform_value_at : Stmt := inClass (topS 12) 3
abbrev s_Waveform_shows : Stmt := inClass (topS 12) 4
abbrev s_Waveform_is_steady : Stmt := inClass (topS 12) 5
abbrev s_Waveform_shifted : Stmt := inClass (topS 12) 6
abbrev s_Waveform_invert : Stmt := inClass (topS 12) 7
abbrev s_Waveform_and : Stmt := inClass (topS 12) 8
abbrev s_Waveform_or : Stmt := inClass (topS 12) 9
abbrev s_Waveform_xor : Stmt := inClass (topS 12) 10
abbrev s_Waveform_same_as : Stmt := inClass (topS 12) 11
abbrev s_Waveform_of_bits : Stmt := inClass (topS 12) 12
abbrev s_Waveform_combined : Stmt := inClass (topS 12) 13
abbrev s_law_same : Stmt := topS 14
abbrev s_law_pool : Stmt := topS 15
abbrev s_law_spread : Stmt := topS 16
abbrev s_law_draw : Stmt := topS 17
abbrev s_law_changes : Stmt := topS 18
abbrev s_law_wave_value : Stmt := topS 19
abbrev s_law_is : Stmt := topS 20
abbrev s_law : Stmt := topS 21
end G
namespace G
open PySem PySem.Spec PyProof.Rows L2 Evl
structure TxtL (mg : Str → Option Value) : Prop where
  int : mg "int" = none
  len : mg "len" = none
  list : mg "list" = none
  range : mg "range" = none
section
variable {P : Program} {w : World} {K : PySem.W.Frag} {mg : Str → Option Value} {base : Heap}
def spSpread : Sp := fun vs H Q _ => ∃ (c : Int), vs = [.int c] ∧ ∀ v : Int, Q (.int v) H
theorem sc_law_spread : FnScope ["cell", "mixed", "total", "k"] ["cell"] (defScope s_law_spread) := ⟨rfl, rfl, rfl, by decide +kernel, rfl, by decide +kernel, by decide +kernel⟩
theorem ok_law_spread (D : Dfd K mg "_law_spread" s_law_spread ["cell"]) (T : TxtL mg) : Has P w K mg base 1 "_law_spread" ["cell"] spSpread := by
  refine D.has fun f fd F => F.ok sc_law_spread (fun vs H Q E h => ?_) (fun cdv A outer s H vs Q E hr h => ?_)
  · obtain ⟨c, rfl, _⟩ := h
    rfl
  · obtain ⟨c, rfl, q⟩ := h
    refine ⟨_, (pss_cons (ps_set (i := 1) sc_law_spread.nd rfl (.inl rfl) (pe_op op_mod (pe_callTy call_int1 (by rfl) T.int (by decide +kernel) (pa_cons (pv 0) pa_nil)) pe_int))
      (pss_cons (ps_set (i := 2) sc_law_spread.nd rfl (.inl rfl) pe_int)
      (pss_cons (ps_for PassesOwn.never rfl (pi_range1 rfl T.range (pa_cons pe_int pa_nil)) (pg_name (i := 3) sc_law_spread.nd rfl (.inl rfl))
        (pss_cons (ps_set (i := 1) sc_law_spread.nd rfl (.inl rfl) (pe_op op_mod (pe_callTy call_int1 (by rfl) T.int (by decide +kernel) (pa_cons (pe_op op_add (pe_op op_add (pe_op op_mul (pv 1) pe_int) pe_int) (pv 3)) pa_nil)) pe_int))
        (pss_one (ps_set (i := 2) sc_law_spread.nd rfl (.inl rfl) (pe_op op_add (pe_op op_mul (pv 2) pe_int) (pv 1))))))
      (pss_one (ps_ret (pv 2)))))), ?_⟩
    refine ⟨_, rfl, .inl ⟨_, rfl, _, _, rfl, rfl, (by show (0 : Int) < 2147483647; decide), 4, rfl, by decide, by decide, for_range (n := 4) (fun _ σ H' => H' = H ∧ ∃ (x y : Int) (z : Option V), σ = [some (.int c), some (.int x), some (.int y), z]) ⟨rfl, _, _, _, rfl⟩ ?_ ?_⟩⟩
    · rintro i σ H' hi ⟨rfl, x, y, z, rfl⟩
      refine ⟨_, rfl, _, _, rfl, rfl, .inr ⟨by decide, by decide⟩, _, _, rfl, rfl, _, rfl, _, _, rfl, rfl, .inl ⟨_, rfl, _, _, rfl, rfl, (by show (0 : Int) < 2147483647; decide), _, rfl, _, _, rfl, rfl, .inr ⟨by decide, by decide⟩, _, rfl, _, _, rfl, rfl, rfl, _, _, _, rfl⟩⟩
    · rintro σ H' ⟨rfl, x, y, z, rfl⟩
      exact ⟨_, rfl, q y⟩
/-- a draw below n -/
def spDraw : Sp := fun vs H Q _ => ∃ (p a : Addr) (n : Int), vs = [.ref p, .int n] ∧ 0 < n ∧ n.natAbs.log2 < 9000 ∧ PoolOk p a H ∧ ∀ (v : Int) (o : HO), 0 ≤ v → v < n → PoolOk p a (upd H p o) → Q (.int v) (upd H p o)
theorem sc_law_draw : FnScope ["pool", "many", "cell", "mixed", "value"] ["pool", "many"] (defScope s_law_draw) := ⟨rfl, rfl, rfl, by decide +kernel, rfl, by decide +kernel, by decide +kernel⟩
theorem ok_law_draw (D : Dfd K mg "_law_draw" s_law_draw ["pool", "many"]) (T : TxtL mg) (C : Has P w K mg base 1 "_law_spread" ["cell"] spSpread) : Has P w K mg base 2 "_law_draw" ["pool", "many"] spDraw := by
  obtain ⟨f_law_spread, d_law_spread, G_law_spread, g_law_spread, k_law_spread, b_law_spread⟩ := C
  refine D.has fun f fd F => F.ok sc_law_draw (fun vs H Q E h => ?_) (fun cdv A outer s H vs Q E hr h => ?_)
  · obtain ⟨p, a, n, rfl, _⟩ := h
    rfl
  · obtain ⟨p, a, n, rfl, n0, n9, hp, q⟩ := h
    refine ⟨_, (pss_cut (ps_if (PW.pt (pw_and (pt_cmpR op_le (pe_ix ix_list (pv 0) pe_int (fun _ _ => rfl)) pe_int (nomark _)) (pw_and1 (pt_cmpR op_lt (pe_ix ix_list (pv 0) pe_int (fun _ _ => rfl)) (pe_callB call_len_seq (by rfl) T.len (by decide +kernel) (pa_cons (pe_ix ix_list (pv 0) pe_int (fun _ _ => rfl)) pa_nil)) (nomark _)))))
      (pss_cons (ps_set (i := 2) sc_law_draw.nd rfl (.inl rfl) (pe_ix ix_list (pe_ix ix_list (pv 0) pe_int (fun _ _ => rfl)) (pe_ix ix_list (pv 0) pe_int (fun _ _ => rfl)) (fun _ _ => rfl)))
      (pss_cons (ps_asg (pe_op op_add (pe_ix ix_list (pv 0) pe_int (fun _ _ => rfl)) pe_int) (pg_sub (pv 0) pe_int set_list))
      (pss_cons (ps_asg (pv 2) (pg_sub (pv 0) pe_int set_list))
      (pss_one (ps_if (pt_cmpR op_lt (pv 2) pe_int (nomark _))
        (pss_one (ps_asg (pe_call G_law_spread hr (by rfl) g_law_spread k_law_spread b_law_spread .nil pass0 (pa_cons (pv 2) pa_nil)) (pg_sub (pv 0) pe_int set_list)))
        pss_nil)))))
      pss_nil)
    (pss_cons (ps_asg (pe_op op_add (pe_ix ix_list (pv 0) pe_int (fun _ _ => rfl)) pe_int) (pg_sub (pv 0) pe_int set_list))
    (pss_cons (ps_if (pt_cmpR op_le (pe_ix ix_list (pv 0) pe_int (fun _ _ => rfl)) pe_int (nomark _))
      (pss_cons (ps_set (i := 3) sc_law_draw.nd rfl (.inl rfl) (pe_op op_mod (pe_callTy call_int1 (by rfl) T.int (by decide +kernel) (pa_cons (pe_op op_add (pe_op op_add (pe_op op_mul (pe_ix ix_list (pv 0) pe_int (fun _ _ => rfl)) pe_int) (pe_op op_mul (pe_ix ix_list (pv 0) pe_int (fun _ _ => rfl)) pe_int)) pe_int) pa_nil)) pe_int))
      (pss_cons (ps_set (i := 3) sc_law_draw.nd rfl (.inl rfl) (pe_op op_mod (pe_callTy call_int1 (by rfl) T.int (by decide +kernel) (pa_cons (pe_op op_add (pe_op op_mul (pv 3) pe_int) (pe_ix ix_list (pv 0) pe_int (fun _ _ => rfl))) pa_nil)) pe_int))
      (pss_one (ps_ret (pe_op op_mod (pe_op op_fdiv (pv 3) pe_int) (pv 1))))))
      pss_nil)
    (pss_cons (ps_set (i := 4) sc_law_draw.nd rfl (.inl rfl) (pe_op op_mod (pe_callTy call_int1 (by rfl) T.int (by decide +kernel) (pa_cons (pe_ix ix_list (pv 0) pe_int (fun _ _ => rfl)) pa_nil)) (pv 1)))
    (pss_cons (ps_asg (pe_op op_fdivW (pe_ix ix_list (pv 0) pe_int (fun _ _ => rfl)) (pv 1)) (pg_sub (pv 0) pe_int set_list))
    (pss_one (ps_ret (pv 4)))))))), ?_⟩
    obtain ⟨ns, i, c, k, s5, hl, ha, hn⟩ := hp
    have hap : a ≠ p := hid_neq ha
    have haH := hid_get ha
    -- the pool as it stands after writes
    have pk : ∀ (i' : Nat) (c' k' s' : Int), PoolOk p a (upd H p (.lst [.ref a, .int i', .int c', .int k', .int s'])) := fun i' c' k' s' =>
      ⟨ns, i', c', k', s', upd_same, by rw [hid_upd]; exact ha, hn⟩
    refine ⟨fun σ H' => ∃ (i' : Nat) (c' k' s' : Int) (o1 : Option V), σ = [some (.ref p), some (.int n), o1, none, none] ∧ H' p = some (.lst [.ref a, .int i', .int c', .int k', .int s']) ∧ (∀ o, upd H' p o = upd H p o), ?_, ?_⟩
    · refine ⟨_, rfl, _, _, _, _, rfl, rfl, SqL.of hl, atI_nat (j := 2) rfl, _, _, rfl, rfl, _, rfl, ite2 (fun e1 => ?_) (fun e1 => ?_)⟩
      · refine ⟨_, rfl, _, _, _, _, rfl, rfl, SqL.of hl, atI_nat (j := 1) rfl, _, rfl, _, _, _, _, rfl, rfl, SqL.of hl, atI_nat (j := 0) rfl, _, _, rfl, .inl (SqL.of haH), _, _, rfl, rfl, _, rfl, ite2 (fun e2 => ?_) (fun e2 => ?_)⟩
        · have hi : i < (ns.map V.int).length := by have := of_decide_eq_true e2; omega
          have hi' : i < ns.length := by rw [List.length_map] at hi; exact hi
          have gi : (ns.map V.int)[i]? = some (.int ns[i]) := by rw [List.getElem?_map, List.getElem?_eq_getElem hi']; rfl
          refine ⟨_, rfl, _, _, _, _, rfl, rfl, SqL.of hl, atI_nat (j := 0) rfl, _, rfl, _, _, _, _, rfl, rfl, SqL.of hl, atI_nat (j := 1) rfl, _, _, _, _, rfl, rfl, SqL.of haH, atI_nat gi, ?_⟩
          refine ⟨_, rfl, _, _, _, _, rfl, rfl, SqL.of hl, atI_nat (j := 1) rfl, _, _, rfl, rfl, _, rfl, _, _, _, 1, rfl, rfl, hl, rfl, ?_⟩
          refine ⟨_, rfl, _, rfl, _, _, _, 2, rfl, rfl, upd_same, rfl, ?_⟩
          refine ⟨_, rfl, _, _, rfl, rfl, _, rfl, ite2 (fun e3 => ?_) (fun e3 => ?_)⟩
          · refine ⟨_, rfl, _, rfl, fun v => ⟨_, rfl, _, _, _, 2, rfl, rfl, upd_same, rfl, ?_⟩⟩
            exact ⟨i + 1, v, k, s5, _, rfl, upd_same, fun o => by rw [upd_upd, upd_upd, upd_upd]⟩
          · exact ⟨i + 1, ns[i], k, s5, _, rfl, upd_same, fun o => by rw [upd_upd, upd_upd]⟩
        · exact ⟨i, c, k, s5, _, rfl, hl, fun _ => rfl⟩
      · exact iteF ⟨i, c, k, s5, _, rfl, hl, fun _ => rfl⟩
    · rintro σ H' ⟨i, c, k, s5, o1, rfl, hl', hu⟩
      refine ⟨_, rfl, _, _, _, _, rfl, rfl, SqL.of hl', atI_nat (j := 3) rfl, _, _, rfl, rfl, _, rfl, _, _, _, 3, rfl, rfl, hl', rfl, ?_⟩
      refine ⟨_, rfl, _, _, _, _, rfl, rfl, SqL.of upd_same, atI_nat (j := 2) rfl, _, _, rfl, rfl, _, rfl, ite2 (fun e1 => ?_) (fun e1 => ?_)⟩
      · refine ⟨_, rfl, _, _, _, _, rfl, rfl, SqL.of upd_same, atI_nat (j := 4) rfl, _, _, rfl, rfl, .inr ⟨by decide, by decide⟩, _, rfl, _, _, _, _, rfl, rfl, SqL.of upd_same, atI_nat (j := 3) rfl, _, _, rfl, rfl, .inr ⟨by decide, by decide⟩, _, _, rfl, rfl, _, _, rfl, rfl, .inl ⟨_, rfl, _, _, rfl, rfl, (by show (0 : Int) < 2147483647; decide), ?_⟩⟩
        refine ⟨_, rfl, _, _, rfl, rfl, .inr ⟨by decide, by decide⟩, _, rfl, _, _, _, _, rfl, rfl, SqL.of upd_same, atI_nat (j := 3) rfl, _, _, rfl, rfl, .inl ⟨_, rfl, _, _, rfl, rfl, (by show (0 : Int) < 2147483629; decide), ?_⟩⟩
        refine ⟨_, rfl, _, _, rfl, rfl, ⟨by decide, by decide⟩, _, rfl, _, _, rfl, rfl, n0, ?_⟩
        show Q _ _
        rw [hu]
        exact q _ _ (Int.emod_nonneg _ (by omega)) (Int.emod_lt_of_pos _ n0) (pk i c (k + 1) s5)
      · refine ⟨_, rfl, _, _, _, _, rfl, rfl, SqL.of upd_same, atI_nat (j := 2) rfl, .inl ⟨_, rfl, _, rfl, _, _, rfl, rfl, n0, ?_⟩⟩
        refine ⟨_, rfl, _, _, _, _, rfl, rfl, SqL.of upd_same, atI_nat (j := 2) rfl, _, rfl, _, _, rfl, rfl, ⟨n0, n9⟩, _, rfl, _, _, _, 2, rfl, rfl, upd_same, rfl, _, rfl, ?_⟩
        show Q _ _
        rw [upd_upd, hu]
        exact q _ _ (Int.emod_nonneg _ (by omega)) (Int.emod_lt_of_pos _ n0) (pk i (c / n) (k + 1) s5)
/-- the same, the heap behind it a letter -/
def spDrawX : Sp := fun vs H Q _ => ∃ (p a : Addr) (n : Int), vs = [.ref p, .int n] ∧ 0 < n ∧ n ≤ 2 ^ 70 ∧ PoolOk p a H ∧ ∀ (v : Nat) (H' : Hp), (v : Int) < n → Px p a H H' → (∀ b, b ≠ p → H' b = H b) → Q (.int v) H'
theorem log2_small {n : Int} (h0 : 0 < n) (h : n ≤ 2 ^ 70) : n.natAbs.log2 < 9000 := by
  have h1 : n.natAbs < 2 ^ 71 := by omega
  have := PySem.Flt.log2_lt_of (by decide : 0 < 71) h1
  omega
theorem drawX (C : Has P w K mg base 2 "_law_draw" ["pool", "many"] spDraw) : Has P w K mg base 2 "_law_draw" ["pool", "many"] spDrawX :=
  C.imp fun vs H Q E h => by
    obtain ⟨p, a, n, rfl, h0, h1, hp, q⟩ := h
    refine ⟨p, a, n, rfl, h0, log2_small h0 h1, hp, fun v o v0 v1 hq => ?_⟩
    have e : v = ((v.toNat : Nat) : Int) := by omega
    rw [e]
    exact q v.toNat _ (by omega) (Px.draw hp hq) fun b hb => upd_ne hb
end
end G
namespace G
open PySem PySem.Spec PyProof.Rows L2 Evl
section
variable {P : Program} {w : World} {K : PySem.W.Frag} {mg : Str → Option Value} {base : Heap}
theorem cutV_mem {xs : List V} {lo hi : Option Int} {i : Nat} {x : V} (h : (cutV xs lo hi)[i]? = some x) : x ∈ xs := by
  unfold cutV at h
  exact List.mem_of_mem_drop (List.mem_of_mem_take (List.mem_of_getElem? h))
theorem int_of {ns : List Int} {x : V} (h : x ∈ ns.map V.int) : ∃ z, x = .int z := by
  obtain ⟨z, _, e⟩ := List.mem_map.mp h
  exact ⟨z, e.symm⟩
def spPool (K : PySem.W.Frag) : Sp := fun vs H Q _ => ∃ (s : Addr) (ns : List Int), vs = [.ref s] ∧ SqL K H s (ns.map V.int) ∧ ns.length ≤ 1000 ∧ ∀ (p a : Addr) (H' : Hp), PoolOk p a H' → Ex H H' → H p = none → Q (.ref p) H'
theorem sc_law_pool : FnScope ["script", "salt", "cell"] ["script"] (defScope s_law_pool) := ⟨rfl, rfl, rfl, by decide +kernel, rfl, by decide +kernel, by decide +kernel⟩
theorem ok_law_pool (D : Dfd K mg "_law_pool" s_law_pool ["script"]) (T : TxtL mg) : Has P w K mg base 1 "_law_pool" ["script"] (spPool K) := by
  refine D.has fun f fd F => F.ok sc_law_pool (fun vs H Q E h => ?_) (fun cdv A outer s H vs Q E hr h => ?_)
  · obtain ⟨c, _, rfl, _⟩ := h
    rfl
  · obtain ⟨sa, ns, rfl, hs, hn, q⟩ := h
    refine ⟨_, (pss_cons (ps_set (i := 1) sc_law_pool.nd rfl (.inl rfl) pe_int)
      (pss_cons (ps_for PassesOwn.never rfl (pi_list (pe_slice sl_list (pv 0) po_none (po_some pe_int))) (pg_name (i := 2) sc_law_pool.nd rfl (.inl rfl))
        (pss_one (ps_set (i := 1) sc_law_pool.nd rfl (.inl rfl) (pe_op op_mod (pe_callTy call_int1 (by rfl) T.int (by decide +kernel) (pa_cons (pe_op op_add (pe_op op_mul (pv 1) pe_int) (pv 2)) pa_nil)) pe_int))))
      (pss_one (ps_ret (pe_lst (pa_cons (pe_callTy call_list_of (by rfl) T.list (by decide +kernel) (pa_cons (pv 0) pa_nil)) (pa_cons pe_int (pa_cons pe_int (pa_cons pe_int (pa_cons (pv 1) pa_nil)))))))))), ?_⟩
    refine ⟨_, rfl, _, rfl, sa, _, rfl, hs, fun c nc => ⟨c, rfl, ⟨_, SqL.of upd_same⟩, for_list (K := K) (a := c) (xs := cutV (ns.map V.int) none (some 63)) (fun _ σ H' => H' = upd H c (.lst (cutV (ns.map V.int) none (some 63))) ∧ ∃ (x : Int) (z : Option V), σ = [some (.ref sa), some (.int x), z]) ⟨rfl, _, _, rfl⟩ ?_ ?_ ?_⟩⟩
    · rintro i σ H' _ ⟨rfl, _⟩
      exact SqL.of upd_same
    · rintro i x σ H' hi ⟨rfl, y, z, rfl⟩
      obtain ⟨m, rfl⟩ := int_of (cutV_mem hi)
      exact ⟨_, rfl, _, _, rfl, rfl, .inr ⟨by decide, by decide⟩, _, rfl, _, _, rfl, rfl, .inl ⟨_, rfl, _, _, rfl, rfl, (by show (0 : Int) < 1000003; decide), rfl, _, _, rfl⟩⟩
    · rintro σ H' ⟨rfl, y, z, rfl⟩
      have e1 : Ex H (upd H c (.lst (cutV (ns.map V.int) none (some 63)))) := Ex.new nc
      refine ⟨_, rfl, _, _, rfl, .inl (ex_l e1 hs), fun l nl => ⟨_, rfl, (by show 5 ≤ sizeLine; decide), fun p np => ?_⟩⟩
      have e2 := e1.trans (Ex.new (o := .lst (ns.map V.int)) nl)
      have npl : l ≠ p := ne_of_none upd_same np
      exact q p l _ ⟨ns, 0, 0, 0, y, upd_same, by rw [hid_ne npl, upd_ne npl]; exact upd_same, hn⟩ (e2.trans (Ex.new np)) (fresh_back e2 np)
end
end G
namespace G
open PySem PySem.Spec PyProof.Rows L2 Evl
/-! ## data -/
inductive D where
  | non | bl (b : Bool) | int (i : Int) | str (s : Str) | tup (l : List D) | lst (l : List D)
def okD : Nat → D → Prop
  | 0, .tup _ => False
  | 0, .lst _ => False
  | n + 1, .tup l => l.length < 2 ^ 61 ∧ ∀ d ∈ l, okD n d
  | n + 1, .lst l => l.length < 2 ^ 61 ∧ ∀ d ∈ l, okD n d
  | _, _ => True
inductive Rep (H : Hp) : V → D → Prop where
  | non : Rep H .non .non
  | bl (b : Bool) : Rep H (.bl b) (.bl b)
  | int (i : Int) : Rep H (.int i) (.int i)
  | str (s : Str) : Rep H (.str s) (.str s)
  | tup {a : Addr} {xs : List V} {ds : List D} (h : H a = some (.tup xs)) (hl : xs.length = ds.length) (hr : ∀ (i : Nat) (x : V) (d : D), xs[i]? = some x → ds[i]? = some d → Rep H x d) : Rep H (.ref a) (.tup ds)
  | lst {a : Addr} {xs : List V} {ds : List D} (h : H a = some (.lst xs)) (hl : xs.length = ds.length) (hr : ∀ (i : Nat) (x : V) (d : D), xs[i]? = some x → ds[i]? = some d → Rep H x d) : Rep H (.ref a) (.lst ds)
theorem Rep.ex {H H' : Hp} (e : Ex H H') {x : V} {d : D} (r : Rep H x d) : Rep H' x d := by
  induction r with
  | non => exact .non
  | bl b => exact .bl b
  | int i => exact .int i
  | str s => exact .str s
  | tup h hl _ ih => exact .tup (e _ _ h) hl ih
  | lst h hl _ ih => exact .lst (e _ _ h) hl ih
theorem okD.mono : ∀ {n m : Nat} {d : D}, n ≤ m → okD n d → okD m d
  | 0, 0, d, _, h => h
  | 0, m + 1, .non, _, _ => trivial
  | 0, m + 1, .bl _, _, _ => trivial
  | 0, m + 1, .int _, _, _ => trivial
  | 0, m + 1, .str _, _, _ => trivial
  | 0, m + 1, .tup _, _, h => h.elim
  | 0, m + 1, .lst _, _, h => h.elim
  | n + 1, m + 1, .non, _, _ => trivial
  | n + 1, m + 1, .bl _, _, _ => trivial
  | n + 1, m + 1, .int _, _, _ => trivial
  | n + 1, m + 1, .str _, _, _ => trivial
  | n + 1, m + 1, .tup l, le, h => ⟨h.1, fun d hd => okD.mono (Nat.le_of_succ_le_succ le) (h.2 d hd)⟩
  | n + 1, m + 1, .lst l, le, h => ⟨h.1, fun d hd => okD.mono (Nat.le_of_succ_le_succ le) (h.2 d hd)⟩
structure TxtS (mg : Str → Option Value) : Prop where
  isinstance : mg "isinstance" = none
  tuple : mg "tuple" = none
  list : mg "list" = none
  len : mg "len" = none
  range : mg "range" = none
  bool : mg "bool" = none
  int : mg "int" = none
  str : mg "str" = none
section
variable {P : Program} {w : World} {K : PySem.W.Frag} {mg : Str → Option Value} {base : Heap}
/-- equal data: the answer is True -/
def spSame : Nat → Sp
  | 0 => fun _ _ _ _ => False
  | n + 1 => fun vs H Q _ => ∃ (x y : V) (d : D), vs = [x, y] ∧ Rep H x d ∧ Rep H y d ∧ okD n d ∧ Q (.bl true) H
theorem sc_law_same : FnScope ["actual", "due", "k"] ["actual", "due"] (defScope s_law_same) := ⟨rfl, rfl, rfl, by decide +kernel, rfl, by decide +kernel, by decide +kernel⟩
theorem fn_law_same {f : Addr} {fd : FuncData} (F : Fun K "_law_same" "_law_same" s_law_same f fd) (g_law_same : mg "_law_same" = some (.ref f)) (b_law_same : Binds K fd ["actual", "due"] []) (T : TxtS mg) : ∀ n, FnOk P w K mg base CX0 n f fd ["actual", "due"] (spSame n)
  | 0 => ⟨fun _ _ _ _ h => h.elim, fun _ _ _ _ _ _ _ _ _ _ _ _ _ h => h.elim⟩
  | n + 1 => by
    have G_law_same := fn_law_same F g_law_same b_law_same T n
    have k_law_same := F.kp
    refine F.ok sc_law_same (fun vs H Q E h => ?_) (fun cdv A outer s H vs Q E hr h => ?_)
    · obtain ⟨x, y, d, rfl, _⟩ := h
      rfl
    · obtain ⟨x, y, d, rfl, rx, ry, hd, q⟩ := h
      refine ⟨_, (pss_cons (ps_if (PW.pt (pw_or (pt_val (pe_callB call_isi (by rfl) T.isinstance (by decide +kernel) (pa_cons (pv 1) (pa_cons (pe_bltn (v := .ty "tuple") (by rfl) T.tuple (by decide +kernel) rfl) pa_nil)))) (pw_or1 (pt_val (pe_callB call_isi (by rfl) T.isinstance (by decide +kernel) (pa_cons (pv 1) (pa_cons (pe_bltn (v := .ty "list") (by rfl) T.list (by decide +kernel) rfl) pa_nil)))))))
      (pss_cons (ps_if (PW.pt (pw_or (pt_cmpR op_ne (pe_callB call_isi (by rfl) T.isinstance (by decide +kernel) (pa_cons (pv 1) (pa_cons (pe_bltn (v := .ty "tuple") (by rfl) T.tuple (by decide +kernel) rfl) pa_nil))) (pe_callB call_isi (by rfl) T.isinstance (by decide +kernel) (pa_cons (pv 0) (pa_cons (pe_bltn (v := .ty "tuple") (by rfl) T.tuple (by decide +kernel) rfl) pa_nil))) (nomark _)) (pw_or1 (pt_cmpR op_ne (pe_callB call_isi (by rfl) T.isinstance (by decide +kernel) (pa_cons (pv 1) (pa_cons (pe_bltn (v := .ty "list") (by rfl) T.list (by decide +kernel) rfl) pa_nil))) (pe_callB call_isi (by rfl) T.isinstance (by decide +kernel) (pa_cons (pv 0) (pa_cons (pe_bltn (v := .ty "list") (by rfl) T.list (by decide +kernel) rfl) pa_nil))) (nomark _)))))
        (pss_one (ps_ret pe_bl))
        pss_nil)
      (pss_cons (ps_if (pt_cmpR op_ne (pe_callB call_len_seq (by rfl) T.len (by decide +kernel) (pa_cons (pv 0) pa_nil)) (pe_callB call_len_seq (by rfl) T.len (by decide +kernel) (pa_cons (pv 1) pa_nil)) (nomark _))
        (pss_one (ps_ret pe_bl))
        pss_nil)
      (pss_cons (ps_for PassesOwn.never rfl (pi_range1 rfl T.range (pa_cons (pe_callB call_len_seq (by rfl) T.len (by decide +kernel) (pa_cons (pv 1) pa_nil)) pa_nil)) (pg_name (i := 2) sc_law_same.nd rfl (.inl rfl))
        (pss_one (ps_if (pt_not (pt_val (pe_call G_law_same hr (by rfl) g_law_same k_law_same b_law_same .nil pass0 (pa_cons (pe_ix ix_seq (pv 0) (pv 2) (fun _ _ => rfl)) (pa_cons (pe_ix ix_seq (pv 1) (pv 2) (fun _ _ => rfl)) pa_nil)))))
          (pss_one (ps_ret pe_bl))
          pss_nil)))
      (pss_one (ps_ret pe_bl)))))
      pss_nil)
    (pss_cons (ps_if (pt_cmpR op_isN (pv 1) pe_non (nomark _))
      (pss_one (ps_ret (pe_cmpR op_isN (pv 0) pe_non (nomark _))))
      pss_nil)
    (pss_cons (ps_if (pt_val (pe_callB call_isi (by rfl) T.isinstance (by decide +kernel) (pa_cons (pv 1) (pa_cons (pe_bltn (v := .ty "bool") (by rfl) T.bool (by decide +kernel) rfl) pa_nil))))
      (pss_one (ps_ret (pe_and (pe_callB call_isi (by rfl) T.isinstance (by decide +kernel) (pa_cons (pv 0) (pa_cons (pe_bltn (v := .ty "bool") (by rfl) T.bool (by decide +kernel) rfl) pa_nil))) (pe_one (pe_cmpR op_eq (pv 0) (pv 1) (nomark _))))))
      pss_nil)
    (pss_cons (ps_if (pt_val (pe_callB call_isi (by rfl) T.isinstance (by decide +kernel) (pa_cons (pv 1) (pa_cons (pe_bltn (v := .ty "int") (by rfl) T.int (by decide +kernel) rfl) pa_nil))))
      (pss_one (ps_ret (pe_and (pe_callB call_isi (by rfl) T.isinstance (by decide +kernel) (pa_cons (pv 0) (pa_cons (pe_bltn (v := .ty "int") (by rfl) T.int (by decide +kernel) rfl) pa_nil))) (pe_and (pe_not (pe_callB call_isi (by rfl) T.isinstance (by decide +kernel) (pa_cons (pv 0) (pa_cons (pe_bltn (v := .ty "bool") (by rfl) T.bool (by decide +kernel) rfl) pa_nil)))) (pe_one (pe_cmpR op_eq (pv 0) (pv 1) (nomark _)))))))
      pss_nil)
    (pss_one (ps_ret (pe_and (pe_callB call_isi (by rfl) T.isinstance (by decide +kernel) (pa_cons (pv 0) (pa_cons (pe_bltn (v := .ty "str") (by rfl) T.str (by decide +kernel) rfl) pa_nil))) (pe_one (pe_cmpR op_eq (pv 0) (pv 1) (nomark _)))))))))), ?_⟩
      cases rx with
      | non =>
        cases ry
        refine ⟨_, rfl, _, _, _, _, _, rfl, .ty "tuple", .base .non, kit_ty (a := "NoneType") (r := false) (by decide +kernel), _, rfl, iteF ⟨_, rfl, _, _, _, _, _, rfl, .ty "list", .base .non, kit_ty (a := "NoneType") (r := false) (by decide +kernel), _, rfl, iteF ⟨_, rfl, rfl, _, rfl, iteT ⟨_, rfl, rfl, ?_⟩⟩⟩⟩
        exact q
      | bl b =>
        cases ry
        refine ⟨_, rfl, _, _, _, _, _, rfl, .ty "tuple", .base (.bl _), kit_ty (a := "bool") (r := false) (by decide +kernel), _, rfl, iteF ⟨_, rfl, _, _, _, _, _, rfl, .ty "list", .base (.bl _), kit_ty (a := "bool") (r := false) (by decide +kernel), _, rfl, iteF ⟨_, rfl, rfl, _, rfl, iteF ⟨_, rfl, _, _, _, _, _, rfl, .ty "bool", .base (.bl _), kit_ty (a := "bool") (r := true) (by decide +kernel), _, rfl, iteT ⟨_, rfl, _, _, _, _, _, rfl, .ty "bool", .base (.bl _), kit_ty (a := "bool") (r := true) (by decide +kernel), _, rfl, iteT ⟨_, rfl, _, rfl, rfl, ?_⟩⟩⟩⟩⟩⟩
        rw [decide_eq_true rfl]
        exact q
      | int b =>
        cases ry
        refine ⟨_, rfl, _, _, _, _, _, rfl, .ty "tuple", .base (.int _), kit_ty (a := "int") (r := false) (by decide +kernel), _, rfl, iteF ⟨_, rfl, _, _, _, _, _, rfl, .ty "list", .base (.int _), kit_ty (a := "int") (r := false) (by decide +kernel), _, rfl, iteF ⟨_, rfl, rfl, _, rfl, iteF ⟨_, rfl, _, _, _, _, _, rfl, .ty "bool", .base (.int _), kit_ty (a := "int") (r := false) (by decide +kernel), _, rfl, iteF ⟨_, rfl, _, _, _, _, _, rfl, .ty "int", .base (.int _), kit_ty (a := "int") (r := true) (by decide +kernel), _, rfl, iteT ⟨_, rfl, _, _, _, _, _, rfl, .ty "int", .base (.int _), kit_ty (a := "int") (r := true) (by decide +kernel), _, rfl, iteT ⟨_, rfl, _, _, _, _, _, rfl, .ty "bool", .base (.int _), kit_ty (a := "int") (r := false) (by decide +kernel), _, rfl, _, rfl, iteT ⟨_, rfl, _, rfl, rfl, ?_⟩⟩⟩⟩⟩⟩⟩⟩
        rw [decide_eq_true rfl]
        exact q
      | str b =>
        cases ry
        refine ⟨_, rfl, _, _, _, _, _, rfl, .ty "tuple", .base (.str _), kit_ty (a := "str") (r := false) (by decide +kernel), _, rfl, iteF ⟨_, rfl, _, _, _, _, _, rfl, .ty "list", .base (.str _), kit_ty (a := "str") (r := false) (by decide +kernel), _, rfl, iteF ⟨_, rfl, rfl, _, rfl, iteF ⟨_, rfl, _, _, _, _, _, rfl, .ty "bool", .base (.str _), kit_ty (a := "str") (r := false) (by decide +kernel), _, rfl, iteF ⟨_, rfl, _, _, _, _, _, rfl, .ty "int", .base (.str _), kit_ty (a := "str") (r := false) (by decide +kernel), _, rfl, iteF ⟨_, rfl, _, _, _, _, _, rfl, .ty "str", .base (.str _), kit_ty (a := "str") (r := true) (by decide +kernel), _, rfl, iteT ⟨_, rfl, _, rfl, rfl, ?_⟩⟩⟩⟩⟩⟩⟩
        rw [decide_eq_true rfl]
        exact q
      | @tup a xs ds hx lx rx =>
        cases ry with
        | @tup b ys _ hy ly ry =>
          cases n with
          | zero => exact hd.elim
          | succ m =>
            obtain ⟨hlen, hall⟩ := hd
            refine ⟨_, rfl, _, _, _, _, _, rfl, .ty "tuple", .base (.tup hy), kit_ty (a := "tuple") (r := true) (by decide +kernel), _, rfl, iteT (iteT ⟨_, rfl, _, _, _, _, _, rfl, .ty "tuple", .base (.tup hy), kit_ty (a := "tuple") (r := true) (by decide +kernel), _, rfl, _, _, _, _, _, rfl, .ty "tuple", .base (.tup hx), kit_ty (a := "tuple") (r := true) (by decide +kernel), rfl, _, rfl, iteF ⟨_, rfl, _, _, _, _, _, rfl, .ty "list", .base (.tup hy), kit_ty (a := "tuple") (r := false) (by decide +kernel), _, rfl, _, _, _, _, _, rfl, .ty "list", .base (.tup hx), kit_ty (a := "tuple") (r := false) (by decide +kernel), rfl, _, rfl, iteF ⟨_, rfl, _, _, rfl, .inr (SqT.of hx), _, rfl, _, _, rfl, .inr (SqT.of hy), rfl, _, rfl, ?_⟩⟩⟩)⟩
            have el : decide (V.int (xs.length : Int) = V.int (ys.length : Int)) = true := decide_eq_true (by rw [lx, ly])
            rw [el]
            refine ⟨_, rfl, _, _, rfl, .inr (SqT.of hy), _, rfl, by omega, by omega, for_range (n := (ys.length : Int).toNat) (fun _ σ H' => H' = H ∧ ∃ z : Option V, σ = [some (.ref a), some (.ref b), z]) ⟨rfl, _, rfl⟩ ?_ ?_⟩
            · rintro i σ H' hi ⟨rfl, z, rfl⟩
              have hi' : i < ds.length := by omega
              have e0 : (0 : Int) + (i : Int) = (i : Int) := Int.zero_add _
              have g1 : xs[i]? = some xs[i] := List.getElem?_eq_getElem (by omega)
              have g2 : ys[i]? = some ys[i] := List.getElem?_eq_getElem (by omega)
              have g3 : ds[i]? = some ds[i] := List.getElem?_eq_getElem hi'
              rw [e0]
              refine ⟨_, rfl, _, rfl, .inr (.inl ⟨_, _, _, _, rfl, rfl, SqT.of hx, atI_nat g1, _, rfl, _, rfl, .inr (.inl ⟨_, _, _, _, rfl, rfl, SqT.of hy, atI_nat g2, ?_⟩)⟩)⟩
              exact ⟨_, _, ds[i], rfl, rx i _ _ g1 g3, ry i _ _ g2 g3, hall _ (List.getElem_mem hi'), _, rfl, rfl, _, rfl⟩
            · rintro σ H' ⟨rfl, z, rfl⟩
              exact q
      | @lst a xs ds hx lx rx =>
        cases ry with
        | @lst b ys _ hy ly ry =>
          cases n with
          | zero => exact hd.elim
          | succ m =>
            obtain ⟨hlen, hall⟩ := hd
            refine ⟨_, rfl, _, _, _, _, _, rfl, .ty "tuple", .base (.lst hy), kit_ty (a := "list") (r := false) (by decide +kernel), _, rfl, iteF ⟨_, rfl, _, _, _, _, _, rfl, .ty "list", .base (.lst hy), kit_ty (a := "list") (r := true) (by decide +kernel), _, rfl, iteT ⟨_, rfl, _, _, _, _, _, rfl, .ty "tuple", .base (.lst hy), kit_ty (a := "list") (r := false) (by decide +kernel), _, rfl, _, _, _, _, _, rfl, .ty "tuple", .base (.lst hx), kit_ty (a := "list") (r := false) (by decide +kernel), rfl, _, rfl, iteF ⟨_, rfl, _, _, _, _, _, rfl, .ty "list", .base (.lst hy), kit_ty (a := "list") (r := true) (by decide +kernel), _, rfl, _, _, _, _, _, rfl, .ty "list", .base (.lst hx), kit_ty (a := "list") (r := true) (by decide +kernel), rfl, _, rfl, iteF ⟨_, rfl, _, _, rfl, .inl (SqL.of hx), _, rfl, _, _, rfl, .inl (SqL.of hy), rfl, _, rfl, ?_⟩⟩⟩⟩⟩
            have el : decide (V.int (xs.length : Int) = V.int (ys.length : Int)) = true := decide_eq_true (by rw [lx, ly])
            rw [el]
            refine ⟨_, rfl, _, _, rfl, .inl (SqL.of hy), _, rfl, by omega, by omega, for_range (n := (ys.length : Int).toNat) (fun _ σ H' => H' = H ∧ ∃ z : Option V, σ = [some (.ref a), some (.ref b), z]) ⟨rfl, _, rfl⟩ ?_ ?_⟩
            · rintro i σ H' hi ⟨rfl, z, rfl⟩
              have hi' : i < ds.length := by omega
              have e0 : (0 : Int) + (i : Int) = (i : Int) := Int.zero_add _
              have g1 : xs[i]? = some xs[i] := List.getElem?_eq_getElem (by omega)
              have g2 : ys[i]? = some ys[i] := List.getElem?_eq_getElem (by omega)
              have g3 : ds[i]? = some ds[i] := List.getElem?_eq_getElem hi'
              rw [e0]
              refine ⟨_, rfl, _, rfl, .inl ⟨_, _, _, _, rfl, rfl, SqL.of hx, atI_nat g1, _, rfl, _, rfl, .inl ⟨_, _, _, _, rfl, rfl, SqL.of hy, atI_nat g2, ?_⟩⟩⟩
              exact ⟨_, _, ds[i], rfl, rx i _ _ g1 g3, ry i _ _ g2 g3, hall _ (List.getElem_mem hi'), _, rfl, rfl, _, rfl⟩
            · rintro σ H' ⟨rfl, z, rfl⟩
              exact q
theorem ok_law_same (D : Dfd K mg "_law_same" s_law_same ["actual", "due"]) (T : TxtS mg) (n : Nat) : Has P w K mg base n "_law_same" ["actual", "due"] (spSame n) := by
  obtain ⟨f, fd, F, g, b⟩ := D
  exact ⟨f, fd, fn_law_same F g b T n, g, F.kp, b⟩
end
/-! ## data made of flat lists -/
theorem rep_map {H : Hp} {α : Type} {f : α → V} {g : α → D} {l : List α} (h : ∀ x, Rep H (f x) (g x)) : (l.map f).length = (l.map g).length ∧ ∀ (i : Nat) (x : V) (d : D), (l.map f)[i]? = some x → (l.map g)[i]? = some d → Rep H x d := by
  refine ⟨by rw [List.length_map, List.length_map], fun i x d hx hd => ?_⟩
  rw [List.getElem?_map] at hx hd
  cases e : l[i]? with
  | none => rw [e] at hx; cases hx
  | some y =>
    rw [e] at hx hd
    have e1 : f y = x := Option.some.inj hx
    have e2 : g y = d := Option.some.inj hd
    rw [← e1, ← e2]
    exact h y
theorem rep_ints {H : Hp} {a : Addr} {l : List Int} (h : H a = some (.lst (l.map V.int))) : Rep H (.ref a) (.lst (l.map D.int)) :=
  let r := rep_map (H := H) (f := V.int) (g := D.int) (l := l) fun i => .int i
  .lst h r.1 r.2
theorem rep_bls {H : Hp} {a : Addr} {l : List Bool} (h : H a = some (.tup (l.map V.bl))) : Rep H (.ref a) (.tup (l.map D.bl)) :=
  let r := rep_map (H := H) (f := V.bl) (g := D.bl) (l := l) fun i => .bl i
  .tup h r.1 r.2
theorem okD_ints {l : List Int} (h : l.length < 2 ^ 61) : okD 1 (.lst (l.map D.int)) := ⟨by rw [List.length_map]; exact h, fun d hd => by obtain ⟨_, _, rfl⟩ := List.mem_map.mp hd; trivial⟩
end G
namespace G
open PySem PySem.Spec PyProof.Rows L2 Evl
/-! ## own classes of errors -/
def HasX (P : Program) (w : World) (K : PySem.W.Frag) (mg : Str → Option Value) (base : Heap) (k : Nat) (x : Str) (ps : List Str) (sp : Sp) : Prop :=
  ∃ (f : Addr) (fd : FuncData), FnOk P w K mg base (L2.CX P w) k f fd ps sp ∧ mg x = some (.ref f) ∧ PySem.W.keepIn K (.ref f) = true ∧ Binds K fd ps []
theorem passX0 {X : Cx} {P : Program} {w : World} : Passes (L2.CX P w) X (fun _ _ _ => False) := fun _ _ _ _ _ _ _ h => by
  obtain ⟨_, _, _, _, _, _, _, _, _, _, _, _, h⟩ := h
  exact h.elim
/-- an own class over ValueError without __init__, at C -/
structure ExcT (K : PySem.W.Frag) (mg : Str → Option Value) (x : Str) (C : Addr) : Prop where
  gC : mg x = some (.ref C)
  xP : PySem.W.excIn K C [.type "ValueError", .type "Exception", .type "BaseException", .type "object"] "ValueError.__new__" = true
  kC : PySem.W.keepIn K (.ref C) = true
  bC : PySem.W.subIn K (.ref C) (.type "BaseException") = some true
  tC : PySem.W.typeIn K (.ref C) = some (.type "type")
/-- what an except clause asks of the class that it names -/
structure ExcH (K : PySem.W.Frag) (mg : Str → Option Value) (x : Str) (C : Addr) : Prop where
  u : ExcT K mg x C
  dict : PySem.W.hasDictIn K C = true
  self : PySem.W.subIn K (.ref C) (.ref C) = some true
theorem ExcH.hit {K : PySem.W.Frag} {mg : Str → Option Value} {x : Str} {C : Addr} (U : ExcH K mg x C) : PySem.W.exmOne K (.ref C) (.ref C) = some true := PySem.W.exm_ref U.u.bC U.dict U.u.tC U.self
end G
namespace G
open PySem PySem.Spec PyProof.Rows L2 Evl
/-! ## methods of built-in types within a suite: the written part by its letter -/
theorem kBm {X : Cx} {K : PySem.W.Frag} {T name id : String} {r : V → List V → Hp → VK → Prop} {o e : Expr} {es : List Expr} {to_ : TE} {t : TA} {apos cpos : Pos} (h : X.K = K) (p1 : PlainAttrs T) (p2 : Slot T name id) (p3 : typeOf (.builtin id) = pure (.type "method_descriptor")) (p4 : MtR X id r) (p5 : PE X o to_) (p6 : PA X (e :: es) t)
    (p7 : attributeBase o name X.env (eval o X.env) = eval o X.env := by rfl) (p8 : ((backTo cpos (starEach (e :: es) X.env)).all (fun x => !x.1) && (backToKw cpos (keywordEach [] X.env)).all (fun x => x.1.isSome) && decide ((e :: es).length + ([] : List Keyword).length + (if ([] : List Keyword).isEmpty then 0 else 1) < 30)) = true := by rfl)
    (p9 : (apos.endLine == cpos.line) = true := by rfl) (p10 : starEach (e :: es) X.env = (false, eval e X.env) :: starEach es X.env := by rfl) (p11 : (backTo cpos (starEach es X.env)).any (·.1) = false := by rfl) : PE X (.Call (.Attribute o name apos) (e :: es) [] cpos) (tBM K T r to_ t) := by
  subst h
  exact pe_bm p1 p2 p3 p4 p5 p6 p7 p8 p9 p10 p11
theorem kMtIndex {X : Cx} {K : PySem.W.Frag} (h : X.K = K) : MtR X "list.index" (rIndex K) := by subst h; exact mt_index
end G
namespace G
open PySem PySem.Spec PyProof.Rows L2 Evl
/-! ## own errors: caught by name or by a class above, asked for their class -/
structure ExcI (K : PySem.W.Frag) (mg : Str → Option Value) (x : Str) (C : Addr) : Prop where
  u : ExcT K mg x C
  dict : PySem.W.hasDictIn K C = true
  self : PySem.W.subIn K (.ref C) (.ref C) = some true
  isc : ExcC K C
def IsK (K : PySem.W.Frag) (mg : Str → Option Value) (C : Addr) (d : Str) (b : Bool) : Prop := ∃ D : Addr, mg d = some (.ref D) ∧ PySem.W.kitOne K (.ref C) (.ref D) = some b
def CatchK (K : PySem.W.Frag) (mg : Str → Option Value) (C : Addr) (s : Str) : Prop := ∃ D : Addr, mg s = some (.ref D) ∧ PySem.W.exmOne K (.ref C) (.ref D) = some true
theorem ExcI.hit {K : PySem.W.Frag} {mg : Str → Option Value} {x : Str} {C : Addr} (U : ExcI K mg x C) : PySem.W.exmOne K (.ref C) (.ref C) = some true := PySem.W.exm_ref U.u.bC U.dict U.u.tC U.self
theorem IsK.at_ {K : PySem.W.Frag} {mg : Str → Option Value} {C D : Addr} {d : Str} {b : Bool} (h : IsK K mg C d b) (g : mg d = some (.ref D)) : PySem.W.kitOne K (.ref C) (.ref D) = some b := by
  obtain ⟨D', g', k⟩ := h
  rw [g] at g'
  cases g'; exact k
theorem CatchK.at_ {K : PySem.W.Frag} {mg : Str → Option Value} {C D : Addr} {s : Str} (h : CatchK K mg C s) (g : mg s = some (.ref D)) : PySem.W.exmOne K (.ref C) (.ref D) = some true := by
  obtain ⟨D', g', k⟩ := h
  rw [g] at g'
  cases g'; exact k
theorem pe_ex {X : Cx} {e : Expr} {α : Type} {p : α → Prop} {t : α → TE} (h : ∀ x, p x → PE X e (t x)) : PE X e (fun σ H Q => ∃ x, p x ∧ t x σ H Q) := by
  refine ⟨fun ps s σ H Q I z => ?_⟩
  obtain ⟨x, px, hx⟩ := z
  exact (h x px).run ps s σ H Q I hx
/-- isinstance of the error that the suite holds: whichever own error it is -/
theorem pe_isE {X : Cx} {a : Addr} {oe : Obj} {pn : List (Addr × Obj)} {cls : Value} {dd : Option Addr} {e : Expr} {t : Addr → TE} (hz : Zc cls dd oe) (hf : ∃ vs, oe.data = .fields vs)
    (h : ∀ D : Addr, Zc (.ref D) none oe → ExcC X.K D → PE (X.suite a ((a, oe) :: pn)) e (t D)) : PE (X.suite a ((a, oe) :: pn)) e (fun σ H Q => ∃ D : Addr, (cls = .ref D ∧ dd = none ∧ ExcC X.K D) ∧ t D σ H Q) :=
  pe_ex (p := fun D => cls = .ref D ∧ dd = none ∧ ExcC X.K D) fun D z => by
    obtain ⟨rfl, rfl, ic⟩ := z
    exact h D hz ic
/-! ## methods and classes called where what is raised is taken at the slots -/
section
variable {X : Cx} {CX : CXT} {k : Nat} {f C : Addr} {fd : FuncData} {ps : List Str} {sp : Sp} {dvs : List V} {ds : List Value} {E : L2.St → XK} {x m : Str} {p pos apos : Pos} {e o : Expr} {es : List Expr} {to_ : TE} {t : TA}
def tMethX (C : Addr) (m : Str) (sp : Sp) (dvs : List V) (E : L2.St → XK) (to_ : TE) (t : TA) : TE := fun σ H Q => to_ σ H fun x H1 => ∃ a dx fs, x = .ref a ∧ H1 a = some (.ins C dx fs) ∧ fs.lookup m = none ∧ t σ H1 fun vs H2 => sp (x :: (vs ++ dvs)) H2 Q (E σ)
def tMakeX (C : Addr) (sp : Sp) (dvs : List V) (E : L2.St → XK) (t : TA) : TE := fun σ H Q => t σ H fun vs H1 => ∀ x dx, H1 x = none → H1 dx = none → dx ≠ x → sp (.ref x :: (vs ++ dvs)) (upd (upd H1 dx (.own x)) x (.ins C dx [])) (fun v H2 => v = .non ∧ Q (.ref x) H2) (E σ)
theorem pe_methX {pl : Sem Bool} (ho : PE X o to_) (cc : Cls X.K C) (mm : Meth X.K C m f) (Fk : FnOk X.prog X.w X.K X.mg X.base CX k f fd ps sp) (rm : Room k X.A) (bd : Binds X.K fd ps ds) (dv : Vals dvs ds)
    (px : ∀ σ, PassesAt CX X σ (E σ)) (pa : PA X (e :: es) t) (s1 : starEach (e :: es) X.env = (false, eval e X.env) :: starEach es X.env := by rfl) (s2 : (backTo pos (starEach es X.env)).any (·.1) = false := by rfl)
    (s3 : eval (.Call (.Attribute o m apos) (e :: es) [] pos) X.env = (do let ov ← eval o X.env; standAt apos.atName; let (f, first) ← holding [ov] (getMethod ov m pl); callWith pos f first (backTo pos (starEach (e :: es) X.env)) (backToKw pos (keywordEach [] X.env))) := by rfl) :
    PE X (.Call (.Attribute o m apos) (e :: es) [] pos) (tMethX C m sp dvs E to_ t) := by
  refine ⟨fun pins st σ H Q I z => PySem.W.methodCall_KW (pl := pl) (thn (ho.run pins st σ H _ I z) fun q0 st1 ⟨y, H1, I1, ry, b, dx, fl, ey, eb, lk, z1⟩ => ?_) s3⟩
  subst ey
  cases (show q0 = Value.ref b from ry)
  exact getmeth_ok I1 eb cc mm lk (PySem.W.callWith_K (first := [.ref b]) (h₀ := X.base) I.ok.mod.kin mm.kp (thn (pa.run pos pins st1 σ H1 _ I1 z1) fun ws st2 ⟨vs, H2, I2, rs, z2⟩ => ⟨I2.kIn, run_fnSD (us := .ref b :: ws) (vs := .ref b :: vs) Fk rm bd dv (px σ) I2 (.cons rfl rs) z2⟩) s1 s2)
theorem run_makeX {pins : List (Addr × Obj)} {σ : L2.St} {H : Hp} {st : Shared} {Q : VK} {us : List Value} {vs : List V} (M : Mk X.K C f) (Fk : FnOk X.prog X.w X.K X.mg X.base CX k f fd ps sp) (rm : Room (k + 1) X.A) (bd : Binds X.K fd ps ds) (dv : Vals dvs ds)
    (px : PassesAt CX X σ (E σ)) (I : Inv X pins σ H st) (rs : Vals vs us)
    (z : ∀ x dx, H x = none → H dx = none → dx ≠ x → sp (.ref x :: (vs ++ dvs)) (upd (upd H dx (.own x)) x (.ins C dx [])) (fun v H2 => v = .non ∧ Q (.ref x) H2) (E σ)) :
    wpAny (model X.prog X.w) X.A (call (.ref C) us) (EP X pins σ Q) X.xe st := by
  have z1 := z (st.heap.objs.size + 1) st.heap.objs.size (I.hok.fresh (Nat.le_succ _)) (I.hok.fresh (Nat.le_refl _)) (Nat.ne_of_lt (Nat.lt_succ_self _))
  have J := Inv.made (C := C) I
  have rr : Vals (V.ref (st.heap.objs.size + 1) :: (vs ++ dvs)) (Value.ref (st.heap.objs.size + 1) :: (us ++ ds)) := .cons rfl (rs.append dv)
  have len : (Value.ref (st.heap.objs.size + 1) :: us ++ ds).length = ps.length := (rr.length.symm.trans (Fk.len _ _ _ _ z1))
  refine wpAny_call (make_map (f := f) I.kIn M.makes M.init (beq_iff_eq.mp M.fn) (codeAny_mono (Fk.run _ X.stack _ _ ⟨Value.ref (st.heap.objs.size + 1) :: us, []⟩ (Value.ref (st.heap.objs.size + 1) :: (us ++ ds)) _ _ (E σ) (rm.make C us []) (J.env0.make C us []) (bd _ (Value.ref (st.heap.objs.size + 1) :: us) J.kIn len) rr z1) fun r st' h => ?_))
  match r, h with
  | .error er, h => exact px pins _ _ er st' J h
  | .ok (.ret u), h =>
    obtain ⟨v, H', I3, rv, ev, q3⟩ := J.after h
    subst ev
    exact ⟨rv, ⟨V.ref (st.heap.objs.size + 1), H', I3, rfl, q3⟩⟩
  | .ok .next, h => exact h.elim
  | .ok .brk, h => exact h.elim
  | .ok .cont, h => exact h.elim
theorem pe_makeX (M : Mk X.K C f) (Fk : FnOk X.prog X.w X.K X.mg X.base CX k f fd ps sp) (rm : Room (k + 1) X.A) (gl : Gl X x) (gm : X.mg x = some (.ref C)) (bd : Binds X.K fd ps ds) (dv : Vals dvs ds) (px : ∀ σ, PassesAt CX X σ (E σ)) (pa : PA X (e :: es) t)
    (s0 : (x == ("__debug__" : Str)) = false := by decide) (s1 : starEach (e :: es) X.env = (false, eval e X.env) :: starEach es X.env := by rfl) (s2 : (backTo pos (starEach es X.env)).any (·.1) = false := by rfl) : PE X (.Call (.Name x p) (e :: es) [] pos) (tMakeX C sp dvs E t) :=
  ⟨fun pins st σ H Q I z => wpAny_Call_Name_kw (ld_glob I gl gm (PySem.W.callWith_K (h₀ := X.base) I.ok.mod.kin M.kp (thn (pa.run pos pins st σ H _ I z) fun us st1 ⟨vs, H1, I1, r, q⟩ => ⟨I1.kIn, run_makeX M Fk rm bd dv (px σ) I1 r q⟩) s1 s2) s0)⟩
end
end G
namespace G
open PySem PySem.Spec PyProof.Rows L2 Evl TL
/-! ## own operators: a & b by __and__, ~a by __invert__ -/
section
variable {X : Cx} {CX : CXT} {C f : Addr} {fd : FuncData} {k : Nat} {sp : Sp} {E : XK} {ps : List Str}
def rOwn2 (C : Addr) (sp : Sp) (E : XK) : R2 := fun x y H Q => ∃ (a b dx dy : Addr) (fs gs : List (Str × V)), x = .ref a ∧ y = .ref b ∧ H a = some (.ins C dx fs) ∧ H b = some (.ins C dy gs) ∧ sp [.ref a, .ref b] H (fun v H' => ∃ q : Addr, v = .ref q ∧ Q (.ref q) H') E
theorem op_own2 {op : Operator} (hc : PySem.W.selfFirst X.K C = true) (mm : Meth X.K C (PySem.dunder op.info.2) f) (Fk : FnOk X.prog X.w X.K X.mg X.base CX k f fd ps sp) (rm : Room k X.A) (bd : Binds X.K fd ps []) (px : Passes CX X E) : OpR X (binaryOp op) (rOwn2 C sp E) := by
  intro pins s σ H x y v u Q I rx ry h
  obtain ⟨a, b, dx, dy, fs, gs, rfl, rfl, ea, eb, hq⟩ := h
  obtain rfl : v = Value.ref a := rx
  obtain rfl : u = Value.ref b := ry
  obtain ⟨_, O, _⟩ := ins_get I.hok ea
  obtain ⟨od, J, _⟩ := O.look
  obtain ⟨_, O2, _⟩ := ins_get I.hok eb
  obtain ⟨od2, J2, _⟩ := O2.look
  obtain ⟨m, F⟩ := I.fr
  refine PySem.W.binop_K F I.ok.mod.kin J J2.type hc mm.at_ mm.fn (wpAny_mono (run_fnS (E := fun _ => E) (vs := [V.ref a, V.ref b]) (us := [Value.ref a, Value.ref b]) Fk rm bd (fun pins H s e s' I z => px pins σ H s e s' I z) I (.cons rfl (.cons rfl .nil)) hq) (fun u s' z => ?_) fun _ _ e => e)
  obtain ⟨v', H', I', rv, q, rfl, hq'⟩ := z
  obtain rfl : u = Value.ref q := rv
  exact ⟨.ref q, H', I', rfl, hq'⟩
def rOwn1 (C : Addr) (sp : Sp) (E : XK) : V → Hp → VK → Prop := fun x H Q => ∃ (a dx : Addr) (fs : List (Str × V)), x = .ref a ∧ H a = some (.ins C dx fs) ∧ sp [.ref a] H Q E
theorem un_own1 (mm : Meth X.K C "__invert__" f) (Fk : FnOk X.prog X.w X.K X.mg X.base CX k f fd ps sp) (rm : Room k X.A) (bd : Binds X.K fd ps []) (px : Passes CX X E) : UnR X (unaryOp .Invert) (rOwn1 C sp E) := by
  intro pins s σ H x v Q I rx h
  obtain ⟨a, dx, fs, rfl, ea, hq⟩ := h
  obtain rfl : v = Value.ref a := rx
  obtain ⟨_, O, _⟩ := ins_get I.hok ea
  obtain ⟨od, J, _⟩ := O.look
  obtain ⟨m, F⟩ := I.fr
  exact PySem.W.ksp_inv F I.ok.mod.kin J mm.at_ mm.fn (run_fnS (E := fun _ => E) (vs := [V.ref a]) (us := [Value.ref a]) Fk rm bd (fun pins H s e s' I z => px pins σ H s e s' I z) I (.cons rfl .nil) hq)
end
/-! ## enumerate(list, start=k) -/
/-- the list at a at each turn, each item in a new pair with its number from k on -/
def IteS (K : PySem.W.Frag) (a : Addr) (k : Int) : It :=
  ⟨fun i H => ∃ (xs : List V) (x : V), SqL K H a xs ∧ xs[i]? = some x,
   fun i H v H' => ∃ T x, v = .ref T ∧ H T = none ∧ H' = upd H T (.tup [.int (k + (i : Nat)), x]) ∧ ∀ xs, SqL K H a xs → xs[i]? = some x,
   fun i H => ∃ xs : List V, SqL K H a xs ∧ xs.length = i⟩
theorem turn_enumS {P : Program} {w : World} {K : PySem.W.Frag} {elts : List Expr} {kk : Nat} {tpos : Pos} (a e it : Addr) (k : Int) :
    Turn P w K (.Tuple elts kk tpos) (IteS K a k) [e, it] e (fun i h => (∃ old, IsEnum h e it (k + ((i : Nat) : Int)) old) ∧ h.IsListIter it a i ∧ e ≠ it ∧ a ≠ it ∧ a ≠ e) where
  mem := by simp
  obj := fun i h st b hb => by
    obtain ⟨⟨old, he⟩, ⟨o, ho, hc, hd⟩, _⟩ := st
    have hb' : b = e ∨ b = it := by simpa using hb
    rcases hb' with z | z
    · rw [z]; exact ⟨_, he, fun v q => nomatch q⟩
    · rw [z]; exact ⟨o, ho, fun v q => by rw [hd] at q; cases q⟩
  keep := fun i h h' st k => by
    obtain ⟨⟨old, he⟩, hi, hne⟩ := st
    exact ⟨⟨old, k e (by simp) _ he⟩, hi.at fun o q => k it (by simp) o q, hne⟩
  item := by
    intro X hP hw hK hc i pins s σ H E I hf st hg
    subst hP hw hK
    obtain ⟨⟨old, he⟩, hit, hne, hai, hae⟩ := st
    obtain ⟨xs, x, hq, hx⟩ := hg
    obtain ⟨its, rv, p, hz⟩ := I.list hq
    obtain ⟨u, hu, ru⟩ := rv.get hx
    have hel : e < s.heap.objs.size := Heap.lt_size he
    have hil : it < s.heap.objs.size := by obtain ⟨_, q, _⟩ := hit; exact Heap.lt_size q
    have hh : X.A.handled = none := I.ok.hd hc
    refine wpAny_pyNext_enum_itemC (Draws.list (A := X.A.in1) hh it a hai its.toArray) he ⟨hit, p.isList⟩ ?_ hne ?_ fun y h' tk hy ho hst hT hsz hk => ?_
    · have := (List.getElem?_eq_some_iff.mp hu).1
      simpa using this
    · intro hm
      have hm' : e = it ∨ e = a := by simpa using hm
      rcases hm' with z | z
      · exact hne z
      · exact hae z.symm
    · have ey : y = u := by
        have hy' : its[i]? = some y := by simpa using hy
        exact Option.some.inj (hy'.symm.trans hu)
      subst ey
      refine ⟨_, rfl, wpAny_letOwnedTupleGo_enum (s := { s with heap := h', toks := tk + 1 }) ho fun h'' he' sb => ?_⟩
      have hT2 : h''.get? s.heap.objs.size = some { cls := .type "tuple", data := .seq #[.int (k + (i : Nat)) tk, y] } := (sb.2 _ (Nat.ne_of_gt hel)).trans hT
      have new : ObjOk X.prog X.w (upd H s.heap.objs.size (.tup [.int (k + (i : Nat)), x])) h'' s.heap.objs.size (.tup [.int (k + (i : Nat)), x]) :=
        ⟨by show 2 ≤ sizeLine; decide, [.int (k + (i : Nat)) tk, y], .cons ⟨_, rfl⟩ (.cons ru .nil), ⟨_, hT2, rfl, _, rfl⟩⟩
      have I1 : Inv X pins σ (upd H s.heap.objs.size (.tup [.int (k + (i : Nat)), x])) { s with heap := h'', toks := tk + 1 } :=
        I.turnedNew (ch := [e, it]) (fun b ob hb q => (sb.2 b (fun z => hb (by simp [z]))).trans (hk b ob (fun z => hb (by simp [z])) (fun z => hb (by simp [z])) q)) hf (Nat.le_refl _) new
      refine ⟨.ref s.heap.objs.size, _, I1, rfl, ⟨_, x, rfl, I.hok.fresh (Nat.le_refl _), rfl, fun ys hy => by rw [I.list_inj hy hq]; exact hx⟩, ⟨⟨y, ?_⟩, hst.1.at fun o q => (sb.2 it (Ne.symm hne)).trans q, hne, hai, hae⟩, fun b hb => ?_⟩
      · have e1 : k + ((i + 1 : Nat) : Int) = k + (i : Int) + 1 := by omega
        rw [e1]; exact he'
      · have hb' : b < s.heap.objs.size := by
          have hb2 : b = e ∨ b = it := by simpa using hb
          rcases hb2 with z | z
          · rw [z]; exact hel
          · rw [z]; exact hil
        rw [upd_ne (Nat.ne_of_lt hb')]
        exact (hf b hb).1
  done := by
    intro X hP hw hK hc i pins s σ H E I hf st hg
    subst hP hw hK
    obtain ⟨⟨old, he⟩, hit, hne, hai, hae⟩ := st
    obtain ⟨xs, hq, hx⟩ := hg
    obtain ⟨its, rv, p, hz⟩ := I.list hq
    obtain ⟨f0, f1, f2, f3, f4, f5⟩ := hf it (by simp)
    have hl := rv.length
    have hh : X.A.handled = none := I.ok.hd hc
    have ei : its.toArray.size = i := by rw [List.size_toArray, ← hl]; exact hx
    have st2 : s.heap.IsListIter it a its.toArray.size ∧ s.heap.IsList a its.toArray := by rw [ei]; exact ⟨hit, p.isList⟩
    exact wpAny_pyNext_enum_endD (Draws.list (A := X.A.in1) hh it a hai its.toArray) he st2 fun h' eb => ⟨rfl, I.turned (t' := s.toks) (fun b o hb q => eb b o hb q) f0 f1 f3 f4 f5⟩
  self := fun A i s Q E st h => by
    obtain ⟨⟨_, he⟩, _⟩ := st
    exact wpAny_pyIter_enum he h
def iEnumS (K : PySem.W.Frag) (ta tk : TA) : TI := fun σ H R => ta σ H fun vs H1 => tk σ H1 fun zs H2 => ∃ a k xs, vs = [.ref a] ∧ zs = [.int k] ∧ -(2 ^ 63) ≤ k ∧ k < 2 ^ 63 ∧ SqL K H2 a xs ∧ R (IteS K a k) H2
theorem pi_enumS {X : Cx} {e : Expr} {kws : List Keyword} {ta tk : TA} {p pos tpos : Pos} {elts : List Expr} {kk : Nat} (hg : Gl X "enumerate") (hm : X.mg "enumerate" = none) (ha : PA X [e] ta) (hk : PK X kws tk) (hs : starEach [e] X.env = (false, eval e X.env) :: starEach [] X.env := by rfl)
    (hall : (backToKw pos (keywordEach kws X.env)).all (·.1.isSome) = true := by rfl) (hks : (backToKw pos (keywordEach kws X.env)).filterMap (·.1) = [("start" : Str)] := by rfl)
    (hpl : ((backTo pos (starEach [e] X.env)).any (·.1) || (backToKw pos (keywordEach kws X.env)).any (·.1.isNone)) = false := by rfl) :
    PI X (.Tuple elts kk tpos) (.Call (.Name "enumerate" p) [e] kws pos) (iEnumS X.K ta tk) := by
  refine ⟨fun pins s σ H R I h => wpAny_Call_Name_kw (ld_blt I hg hm boot_enumerate (PySem.W.callWith_of (P := fun _ => True) hpl (fun h _ => ⟨.machine, .inr (.inl rfl), PySem.W.Looks.of_pure rfl⟩) (evalArgs_kw2 hall (thn (ha.run pos pins s σ H _ I h) fun us s1 ⟨vs, H1, I1, r1, q1⟩ => thn (hk.run pos pins s1 σ H1 _ I1 q1) fun ws s2 ⟨zs, H2, I2, rz, q2⟩ => ⟨trivial, ?_⟩) hs)))⟩
  rw [hks]
  obtain ⟨a, k, xs, rfl, rfl, k0, k1, hq, q⟩ := q2
  rw [Vals.ref1 r1]
  obtain ⟨u, rfl, t, rfl⟩ := vals1 rz
  obtain ⟨its, rv, p', hz⟩ := I2.list hq
  have hal : a < s2.heap.objs.size := by obtain ⟨o, ho, _⟩ := p'.isList; exact Heap.lt_size ho
  refine PySem.enum_begins_start (begins_list a its.toArray) p'.isList k0 k1 fun h' he hit hsz hk => wpAny_pyIter_enum he ?_
  have I3 : Inv X pins σ H2 { s2 with heap := h' } := I2.kept (t' := s2.toks) hk
  refine ⟨s2.heap.objs.size + 1, [s2.heap.objs.size + 1, s2.heap.objs.size], _, _, H2, rfl, I3, turn_enumS a (s2.heap.objs.size + 1) s2.heap.objs.size k,
    ⟨⟨.none, by rw [show k + ((0 : Nat) : Int) = k from Int.add_zero k]; exact he⟩, ⟨_, hit, rfl, rfl⟩, Nat.succ_ne_self _, Nat.ne_of_lt hal, Nat.ne_of_lt (Nat.lt_succ_of_lt hal)⟩, fun b hb => ?_, q⟩
  have hb' : b = s2.heap.objs.size + 1 ∨ b = s2.heap.objs.size := by simpa using hb
  have hle : s2.heap.objs.size ≤ b := by
    rcases hb' with z | z
    · rw [z]; exact Nat.le_add_right _ _
    · rw [z]; exact Nat.le_refl _
  exact I2.fpOk hle (I2.hok.fresh hle)
theorem walk_enumS {K : PySem.W.Frag} {a : Addr} {k : Int} {xs : List V} : Walk (IteS K a k) xs.length (fun H => SqL K H a xs) (YPair (fun i => some (.int (k + (i : Nat)))) (fun i => xs[i]?)) := by
  refine ⟨fun i _ hi q => ⟨xs, xs[i], q, by simp [hi]⟩, fun _ q => ⟨xs, q, rfl⟩, fun i H v H' _ q y => ?_⟩
  obtain ⟨T, x, h1, h2, h3, h4⟩ := y
  exact ⟨T, .int (k + (i : Nat)), x, h1, h2, h3, rfl, h4 xs q⟩
/-! ## classmethods with keywords -/
section
variable {X : Cx} {CX : CXT} {k n : Nat} {C p g : Addr} {mc : Value} {fd : FuncData} {ps ks : List Str} {sp : Sp} {E : XK} {o e : Expr} {es : List Expr} {kws : List Keyword} {m : Str} {pos apos : Pos} {ta : TE} {t tk : TA} {gg : List Value → List Value → List Value} {gV : List V → List V → List V} {pl : Sem Bool}
def tCMethK (C : Addr) (n q : Nat) (sp : Sp) (gV : List V → List V → List V) (E : XK) (ta : TE) (t tk : TA) : TE := fun σ H Q => ta σ H fun x H1 => x = .ref C ∧ t σ H1 fun vs H2 => tk σ H2 fun zs H3 => vs.length = n ∧ zs.length = q ∧ sp (gV (.ref C :: vs) zs) H3 Q E
theorem pe_cmethK (he : PE X o ta) (r : ClX.CRead X.K C mc) (c : ClX.CMet X.K C mc m p g) (Fk : FnOk X.prog X.w X.K X.mg X.base CX k g fd ps sp) (rm : Room k X.A) (kb : KBn X.K fd ps (n + 1) ks gg gV) (px : Passes CX X E) (ha : PA X (e :: es) t) (hk : PK X kws tk)
    (s0 : (backToKw pos (keywordEach kws X.env)).all (·.1.isSome) = true := by rfl) (s4 : (backToKw pos (keywordEach kws X.env)).filterMap (·.1) = ks := by rfl)
    (s1 : starEach (e :: es) X.env = (false, eval e X.env) :: starEach es X.env := by rfl) (s2 : ((backTo pos (starEach (e :: es) X.env)).any (·.1) || (backToKw pos (keywordEach kws X.env)).any (·.1.isNone)) = false := by rfl)
    (s3 : eval (.Call (.Attribute o m apos) (e :: es) kws pos) X.env = (do let ov ← eval o X.env; standAt apos.atName; let (f, first) ← holding [ov] (getMethod ov m pl); callWith pos f first (backTo pos (starEach (e :: es) X.env)) (backToKw pos (keywordEach kws X.env))) := by rfl) :
    PE X (.Call (.Attribute o m apos) (e :: es) kws pos) (tCMethK C n ks.length sp gV E ta t tk) := by
  refine ⟨fun pins s σ H Q I h => ?_⟩
  refine PySem.W.methodCall_KW (pl := pl) (thn (he.run pins s σ H _ I h) fun u st1 ⟨x, H1, I1, rx, ex, q⟩ => ?_) s3
  subst ex
  obtain rfl : u = Value.ref C := rx
  refine ClX.getmethcm_ok I1 r c fun st2 I2 => ?_
  refine PySem.W.callWith_of (P := PySem.W.MethP X.K st1.heap.objs.size g (.ref C)) s2 (PySem.W.keeps_M c.fi) (evalArgs_kw2 s0 (thn (ha.run pos _ st2 σ H1 _ I2 q) fun us st3 ⟨vs, H2, I3, rv, q2⟩ => thn (hk.run pos _ st3 σ H2 _ I3 q2) fun ws st4 ⟨zs, H3, I4, rz, l1, l2, q3⟩ => ⟨⟨ClX.pin_at I4, I4.kIn⟩, ?_⟩) s1)
  rw [s4]
  have rr : Vals (V.ref C :: vs) (Value.ref C :: us) := .cons rfl rv
  have z : wpAny (model X.prog X.w) X.A (call (.ref st1.heap.objs.size) us (ks.zip ws)) (EP X ((st1.heap.objs.size, PySem.W.methodObj (.ref g) (.ref C)) :: pins) σ Q) X.xe st4 := by
    refine wpAny_call (PySem.W.method_call (ClX.pin_at I4) (codeAny_mono (Fk.run X.A X.stack st4 H3 ⟨Value.ref C :: us, ks.zip ws⟩ (gg (Value.ref C :: us) ws) (gV (V.ref C :: vs) zs) Q E rm I4.env0 (kb.to st4 (Value.ref C :: us) ws I4.kIn (by rw [List.length_cons, ← rv.length, l1]) (rz.length.symm.trans l2)) (kb.rel rr rz) q3) fun r st' h => ?_))
    match r, h with
    | .error er, h => exact px _ σ H3 st4 er st' I4 h
    | .ok (.ret u), h => exact I4.after h
    | .ok .next, h => exact h.elim
    | .ok .brk, h => exact h.elim
    | .ok .cont, h => exact h.elim
  exact thn z fun _ _ y => ClX.unpinE y
end
/-- two keyword-only parameters, given -/
theorem Fun.kbn2 {K : PySem.W.Frag} {x qual y z : Str} {st : Stmt} {f : Addr} {fd : FuncData} {ps : List Str} {n : Nat} (F : Fun K x qual st f fd)
    (h : ∀ (kV doc pm : Value) (an : Option Addr) (cdv ct w1 w2 : Value) (us : List Value), us.length = n → bindArgs (PySem.W.fnOf x qual (defArgs st) (defBody st) (defScope st) .none kV doc pm an cdv ct) ⟨us, [(y, w1), (z, w2)]⟩ = pure (ps.zip (us ++ [w1, w2]))) : KBn K fd ps n [y, z] (fun us ws => us ++ ws) (fun vs zs => vs ++ zs) := by
  obtain ⟨oc, od, kV, doc, pm, an, cdv, ct, osl, rfl, lk, hcd⟩ := F.ex
  refine ⟨fun s us ws _ l1 l2 => ?_, fun r1 r2 => r1.append r2⟩
  match ws, l2 with
  | [w1, w2], _ => exact .of_eq (h kV doc pm an cdv ct w1 w2 us l1)
/-- .. not given -/
theorem kwd2 {K : PySem.W.Frag} {x qual y z : Str} {st : Stmt} {f D : Addr} {n : Nat} {ps : List Str} {v1 v2 : V} {oc doc pm cdv ct : Value} {od an : Option Addr} {osl : Array (Option Value)}
    (lk : K.lookup f = some ⟨oc, od, .func (PySem.W.fnOf x qual (defArgs st) (defBody st) (defScope st) .none (.ref D) doc pm an cdv ct), osl⟩) (hcd : PySem.W.codeIn K cdv qual = true) (kp : PySem.W.keepIn K (.ref f) = true)
    (h1 : ∃ u, PySem.W.nsIn K D y = some (some u) ∧ RelV v1 u) (h2 : ∃ u, PySem.W.nsIn K D z = some (some u) ∧ RelV v2 u)
    (h : ∀ (D : Addr) (doc pm : Value) (an : Option Addr) (cdv ct : Value) (us ks : List Value), us.length = n → ks.length = 2 →
      KwChain D ([y, z].zip ks) (bindArgs (PySem.W.fnOf x qual (defArgs st) (defBody st) (defScope st) .none (.ref D) doc pm an cdv ct) ⟨us, []⟩) (ps.zip (us ++ ks))) (hn : n + 2 = ps.length := by rfl) :
    ∃ ds, Vals [v1, v2] ds ∧ Binds K (PySem.W.fnOf x qual (defArgs st) (defBody st) (defScope st) .none (.ref D) doc pm an cdv ct) ps ds :=
  FunD.binds0 (kws := [(y, v1), (z, v2)]) (f := f) ⟨⟨oc, od, .none, .ref D, doc, pm, an, cdv, ct, osl, rfl, lk, hcd, .inl ⟨rfl, rfl⟩, .inr ⟨D, rfl, fun q hq' => by
    rcases List.mem_cons.mp hq' with rfl | hq'
    · exact h1
    · rw [List.mem_singleton.mp hq']; exact h2⟩⟩, kp⟩ n (by intro z; cases z) hn h
end G
namespace G
open PySem PySem.Spec PyProof.Rows L2 Evl TL
/-! ## ascending lists of times -/
def ascB (ts : List Int) : Bool := ((List.range (ts.length - 1)).map fun i => decide (ts.getD i 0 < ts.getD (i + 1) 0)).all id
theorem ascB_pw {ts : List Int} (h : ts.Pairwise (· < ·)) : ascB ts = true := by
  unfold ascB
  rw [List.all_eq_true]
  intro b hb
  obtain ⟨i, hi, rfl⟩ := List.mem_map.mp hb
  have hi' := List.mem_range.mp hi
  have h1 : i < ts.length := by omega
  have h2 : i + 1 < ts.length := by omega
  have := List.pairwise_iff_getElem.mp h i (i + 1) h1 h2 (by omega)
  rw [List.getD_eq_getElem?_getD, List.getD_eq_getElem?_getD, List.getElem?_eq_getElem h1, List.getElem?_eq_getElem h2]
  exact decide_eq_true this
theorem pw_ascB {ts : List Int} (h : ascB ts = true) : ts.Pairwise (· < ·) := by
  have step : ∀ i (h2 : i + 1 < ts.length), ts[i]'(by omega) < ts[i + 1] := fun i h2 => by
    have := List.all_eq_true.mp h (decide (ts.getD i 0 < ts.getD (i + 1) 0)) (List.mem_map.mpr ⟨i, List.mem_range.mpr (by omega), rfl⟩)
    rw [List.getD_eq_getElem?_getD, List.getD_eq_getElem?_getD, List.getElem?_eq_getElem (show i < ts.length by omega), List.getElem?_eq_getElem h2] at this
    exact of_decide_eq_true this
  rw [List.pairwise_iff_getElem]
  intro i j hi hj hij
  obtain ⟨d, rfl⟩ : ∃ d, j = i + 1 + d := ⟨j - i - 1, by omega⟩
  clear hij
  induction d with
  | zero => exact step i hj
  | succ d ih => exact Int.lt_trans (ih (by omega)) (step (i + 1 + d) hj)
/-- how many are at most t -/
def cnt (ts : List Int) (t : Int) : Nat := (ts.filter fun x => decide (x ≤ t)).length
theorem cnt_split {ts : List Int} {t : Int} {k : Nat} (hk : k ≤ ts.length) (h1 : ∀ i x, i < k → ts[i]? = some x → x ≤ t) (h2 : ∀ i x, k ≤ i → ts[i]? = some x → t < x) : cnt ts t = k := by
  unfold cnt
  conv => lhs; rw [← List.take_append_drop k ts, List.filter_append, List.length_append]
  rw [List.filter_eq_self.mpr fun x hx => ?_, List.filter_eq_nil_iff.mpr fun x hx => ?_, List.length_take]
  · show min k ts.length + 0 = k
    omega
  · obtain ⟨i, hi, rfl⟩ := List.getElem_of_mem hx
    rw [List.getElem_drop]
    rw [List.length_drop] at hi
    have := h2 (k + i) _ (by omega) (List.getElem?_eq_getElem (by omega))
    rw [decide_eq_true_eq]; omega
  · obtain ⟨i, hi, rfl⟩ := List.getElem_of_mem hx
    rw [List.getElem_take]
    rw [List.length_take] at hi
    exact decide_eq_true (h1 i _ (by omega) (List.getElem?_eq_getElem (by omega)))
structure TxtW (mg : Str → Option Value) : Prop where
  len : mg "len" = none
  all : mg "all" = none
  range : mg "range" = none
  list : mg "list" = none
section
variable {P : Program} {w : World} {K : PySem.W.Frag} {mg : Str → Option Value} {base : Heap}
def spAsc : Sp := fun vs H Q _ => ∃ (a : Addr) (ts : List Int), vs = [.ref a] ∧ H a = some (.lst (ts.map V.int)) ∧ ts.length ≤ 1000 ∧ ∀ H', Ex H H' → Q (.bl (ascB ts)) H'
theorem sc_is_ascending : FnScope ["numbers", "k"] ["numbers"] (defScope s_is_ascending) := ⟨rfl, rfl, rfl, by decide +kernel, rfl, by decide +kernel, by decide +kernel⟩
theorem ok_is_ascending (D : Dfd K mg "is_ascending" s_is_ascending ["numbers"]) (T : TxtW mg) : Has P w K mg base 1 "is_ascending" ["numbers"] spAsc := by
  refine D.has fun f fd F => F.ok sc_is_ascending (fun vs H Q E h => ?_) (fun cdv A outer s H vs Q E hr h => ?_)
  · obtain ⟨a, ts, rfl, _⟩ := h
    rfl
  · obtain ⟨a, ts, rfl, ha, hn, q⟩ := h
    refine ⟨_, (pss_one (ps_ret (pe_callB (cr_all rfl) (by rfl) T.all (by decide +kernel) (pa_cons (pe_lc (own := [("k", 1)]) (g := gName 1) (tt := tYes) rfl sc_is_ascending.nd (pi_range2 rfl T.range (pa_cons pe_int (pa_cons (pe_callB call_len_seq (by rfl) T.len (by decide +kernel) (pa_cons (pv 0) pa_nil)) pa_nil))) (blkOk_by (N := ["numbers", "k"]) (sc := defScope s_is_ascending) (own := [("k", 1)]) (by decide +kernel)) (fun _ _ _ _ _ => (pg_name (i := 1) sc_is_ascending.nd rfl (.inl rfl))) (fun _ _ _ _ _ => pts_nil) (fun _ _ _ _ _ => (pe_cmpR op_lt (pe_ix (kIxL (K := K) rfl) (pv 0) (pe_op op_sub (pv 1) pe_int) (fun _ _ => rfl)) (pe_ix (kIxL (K := K) rfl) (pv 0) (pv 1) (fun _ _ => rfl)) (nomark _)))) pa_nil)))), ?_⟩
    refine ⟨_, rfl, _, _, rfl, .inl (SqL.of ha), 1, ts.length, by rw [List.length_map], by omega, fun L nL => lcRv (fun k => .bl (decide (ts.getD k 0 < ts.getD (k + 1) 0))) (by omega) (fun _ => rfl) (fun k H2 hk e2 Q q => ?_) ?_⟩
    · have hk2 : k + 1 < ts.length := by omega
      have ha2 : H2 a = some (.lst (ts.map V.int)) := by rw [e2]; exact Ex.new nL _ _ ha
      have g1 : (ts.map V.int)[k]? = some (.int (ts.getD k 0)) := by rw [List.getElem?_map, List.getElem?_eq_getElem (show k < ts.length by omega), List.getD_eq_getElem?_getD, List.getElem?_eq_getElem (show k < ts.length by omega)]; rfl
      have g2 : (ts.map V.int)[k + 1]? = some (.int (ts.getD (k + 1) 0)) := by rw [List.getElem?_map, List.getElem?_eq_getElem hk2, List.getD_eq_getElem?_getD, List.getElem?_eq_getElem hk2]; rfl
      exact ⟨_, rfl, _, rfl, _, _, rfl, rfl, _, _, _, _, rfl, rfl, SqL.of ha2, at_of (j := k) (by omega) g1, _, rfl, _, rfl, _, _, _, _, rfl, rfl, SqL.of ha2, at_of (j := k + 1) (by omega) g2, _, _, rfl, rfl, q⟩
    · have e : (((ts.length : Nat) : Int) - 1).toNat = ts.length - 1 := by omega
      refine ⟨L, (List.range (ts.length - 1)).map fun i => decide (ts.getD i 0 < ts.getD (i + 1) 0), rfl, SqL.of ?_, ?_⟩
      · rw [upd_same, List.map_map, e]; rfl
      · exact q _ (Ex.new nL)
end
end G
namespace G
open PySem PySem.Spec PyProof.Rows L2
structure Cl_Waveform (K : PySem.W.Frag) (mg : Str → Option Value) (C : Addr) : Prop where
  gC : mg "Waveform" = some (.ref C)
  cl : Cls K C
  sf : PySem.W.selfFirst K C = true
  m_init : ∃ (f : Addr) (fd : FuncData), Mk K C f ∧ Fun K "__init__" "Waveform.__init__" s_Waveform_init f fd ∧ Binds K fd ["self", "start", "changes"] []
  m_changes : ∃ (f : Addr) (fd : FuncData), Meth K C "changes" f ∧ Fun K "changes" "Waveform.changes" s_Waveform_changes f fd ∧ Binds K fd ["self"] []
  m_shifted : ∃ (f : Addr) (fd : FuncData), Meth K C "shifted" f ∧ Fun K "shifted" "Waveform.shifted" s_Waveform_shifted f fd ∧ Binds K fd ["self", "by"] []
  m_invert : ∃ (f : Addr) (fd : FuncData), Meth K C "__invert__" f ∧ Fun K "__invert__" "Waveform.__invert__" s_Waveform_invert f fd ∧ Binds K fd ["self"] []
  m_and : ∃ (f : Addr) (fd : FuncData), Meth K C "__and__" f ∧ Fun K "__and__" "Waveform.__and__" s_Waveform_and f fd ∧ Binds K fd ["self", "other"] []
  m_or : ∃ (f : Addr) (fd : FuncData), Meth K C "__or__" f ∧ Fun K "__or__" "Waveform.__or__" s_Waveform_or f fd ∧ Binds K fd ["self", "other"] []
  m_xor : ∃ (f : Addr) (fd : FuncData), Meth K C "__xor__" f ∧ Fun K "__xor__" "Waveform.__xor__" s_Waveform_xor f fd ∧ Binds K fd ["self", "other"] []
  m_same_as : ∃ (f : Addr) (fd : FuncData), Meth K C "same_as" f ∧ Fun K "same_as" "Waveform.same_as" s_Waveform_same_as f fd ∧ Binds K fd ["self", "other"] []
  m_of_bits : ∃ (p g : Addr) (fd : FuncData), ClX.CRead K C (.type "type") ∧ ClX.CMet K C (.type "type") "of_bits" p g ∧ Fun K "of_bits" "Waveform.of_bits" s_Waveform_of_bits g fd ∧ KBn K fd ["cls", "first", "bits", "before", "after"] 3 ["before", "after"] (fun us ws => us ++ ws) (fun vs zs => vs ++ zs) ∧ ∃ ds, Vals [V.bl false, V.bl false] ds ∧ Binds K fd ["cls", "first", "bits", "before", "after"] ds
  m_combined : ∃ (f : Addr) (fd : FuncData), Meth K C "_combined" f ∧ Fun K "_combined" "Waveform._combined" s_Waveform_combined f fd ∧ Binds K fd ["self", "other", "table"] []
  p_start : ∃ (p f : Addr) (fd : FuncData), PropOf K C "start" p f ∧ Fun K "start" "Waveform.start" s_Waveform_start f fd ∧ Binds K fd ["self"] []
  n_start : NoAttr K C "_start"
  n_changes : NoAttr K C "_changes"
end G
namespace G
open PySem PySem.Spec PyProof.Rows L2 Evl TL
/-! ## waveforms -/
theorem wne : ¬ (("_start" : Str) = "_changes") := by decide +kernel
def wfl (st : Bool) (L : Addr) : List (Str × V) := putF "_changes" (.ref L) (putF "_start" (.bl st) [])
theorem wfl_start (st : Bool) (L : Addr) : (wfl st L).lookup ("_start" : Str) = some (.bl st) := by unfold wfl; rw [lookup_putF, if_neg wne, lookup_putF, if_pos rfl]
theorem wfl_changes (st : Bool) (L : Addr) : (wfl st L).lookup ("_changes" : Str) = some (.ref L) := by unfold wfl; rw [lookup_putF, if_pos rfl]
theorem wfl_no (st : Bool) (L : Addr) {m : Str} (h1 : ¬ m = "_changes") (h2 : ¬ m = "_start") : (wfl st L).lookup m = none := by
  unfold wfl; rw [lookup_putF, if_neg h1, lookup_putF, if_neg h2]; rfl
structure WaveAt (C : Addr) (H : Hp) (x L : Addr) (st : Bool) (ts : List Int) : Prop where
  ob : ∃ dx, H x = some (.ins C dx (wfl st L))
  li : H L = some (.lst (ts.map V.int))
theorem WaveAt.ex {C : Addr} {H H' : Hp} {x L : Addr} {st : Bool} {ts : List Int} (e : Ex H H') (h : WaveAt C H x L st ts) : WaveAt C H' x L st ts := by
  obtain ⟨dx, h1⟩ := h.ob
  exact ⟨⟨dx, e _ _ h1⟩, e _ _ h.li⟩
/-- what a class's __init__ keeps: all but the new object -/
def ExBut (x : Addr) (H H' : Hp) : Prop := ∀ b o, H b = some o → b ≠ x → H' b = some o
theorem ExBut.of {x : Addr} {H H' : Hp} (e : Ex H H') : ExBut x H H' := fun b o h _ => e b o h
theorem ExBut.trans {x : Addr} {H H1 H2 : Hp} (a : ExBut x H H1) (b : ExBut x H1 H2) : ExBut x H H2 := fun c o h n => b c o (a c o h n) n
theorem ExBut.put {x : Addr} {H : Hp} {o : HO} : ExBut x H (upd H x o) := fun b q h n => by rw [upd_ne n]; exact h
theorem ExBut.made {x dx : Addr} {H H' : Hp} {o1 o2 : HO} (nx : H x = none) (nd : H dx = none) (e : ExBut x (upd (upd H dx o1) x o2) H') : Ex H H' := fun b o h => by
  have h1 : b ≠ x := ne_of_none h nx
  have h2 : b ≠ dx := ne_of_none h nd
  exact e b o (by rw [upd_ne h1, upd_ne h2]; exact h) h1
theorem made_free {x dx L : Addr} {H : Hp} {o1 o2 : HO} (h : upd (upd H dx o1) x o2 L = none) : H L = none := by
  have h1 : L ≠ x := fun z => by rw [z, upd_same] at h; cases h
  rw [upd_ne h1] at h
  have h2 : L ≠ dx := fun z => by rw [z, upd_same] at h; cases h
  rw [upd_ne h2] at h; exact h
theorem made_old {x dx b : Addr} {H : Hp} {o1 o2 o : HO} (nx : H x = none) (nd : H dx = none) (h : H b = some o) : upd (upd H dx o1) x o2 b = some o := by
  rw [upd_ne (ne_of_none h nx), upd_ne (ne_of_none h nd)]; exact h
/-- the value at a time -/
def wval (st : Bool) (ts : List Int) (t : Int) : Bool := !decide (V.bl st = V.bl (decide (V.int (Builtin.bitAnd (cnt ts t : Int) 1) = V.int 1)))
theorem wval_eq (st : Bool) (ts : List Int) (t : Int) : wval st ts t = (st != decide (cnt ts t % 2 = 1)) := by
  have e : Builtin.bitAnd (cnt ts t : Int) 1 = ((cnt ts t % 2 : Nat) : Int) := by
    show (((cnt ts t : Int).toNat &&& (1 : Int).toNat : Nat) : Int) = _
    rw [Int.toNat_natCast]
    show ((cnt ts t &&& 1 : Nat) : Int) = _
    rw [Nat.and_one_is_mod]
  have e2 : decide (V.int ((cnt ts t % 2 : Nat) : Int) = V.int 1) = decide (cnt ts t % 2 = 1) := by
    rw [Bool.eq_iff_iff, decide_eq_true_iff, decide_eq_true_iff, V.int.injEq]; omega
  unfold wval
  rw [e, e2]
  cases st <;> cases decide (cnt ts t % 2 = 1) <;> rfl
theorem cnt_add {t1 t2 : Int} (h : t1 ≤ t2) : ∀ ts : List Int, cnt ts t2 = cnt ts t1 + (ts.filter fun x => decide (t1 < x) && decide (x ≤ t2)).length
  | [] => rfl
  | x :: r => by
    have ih := cnt_add h r
    unfold cnt at *
    simp only [List.filter_cons]
    by_cases h1 : x ≤ t1
    · rw [decide_eq_true (show x ≤ t2 by omega), decide_eq_true h1, decide_eq_false (show ¬ t1 < x by omega)]
      simp only [if_true, Bool.false_and, List.length_cons]
      rw [if_neg (by decide)]; omega
    · by_cases h2 : x ≤ t2
      · rw [decide_eq_true h2, decide_eq_false h1, decide_eq_true (show t1 < x by omega)]
        simp only [if_true, Bool.true_and, List.length_cons]
        rw [if_neg (by decide)]; omega
      · rw [decide_eq_false h2, decide_eq_false h1, Bool.and_false]
        rw [if_neg (by decide), if_neg (by decide), if_neg (by decide)]; exact ih
theorem cnt_same {ts : List Int} {t1 t2 : Int} (h : t1 ≤ t2) (hn : ∀ x ∈ ts, t1 < x → ¬ x ≤ t2) : cnt ts t2 = cnt ts t1 := by
  rw [cnt_add h ts, List.filter_eq_nil_iff.mpr fun x hx => ?_]
  · rfl
  · intro z
    rw [Bool.and_eq_true] at z
    exact hn x hx (of_decide_eq_true z.1) (of_decide_eq_true z.2)
theorem filter_one : ∀ {ts : List Int}, ts.Pairwise (· < ·) → ∀ {x : Int}, x ∈ ts → (ts.filter fun y => decide (x - 1 < y) && decide (y ≤ x)).length = 1
  | [], _, x, h => nomatch h
  | y :: r, hp, x, h => by
    obtain ⟨h1, h2⟩ := List.pairwise_cons.mp hp
    by_cases e : x = y
    · subst e
      rw [List.filter_cons, if_pos (by rw [decide_eq_true (show x - 1 < x by omega), decide_eq_true (Int.le_refl x)]; rfl), List.filter_eq_nil_iff.mpr fun z hz => ?_]
      · rfl
      · have := h1 z hz
        rw [decide_eq_false (show ¬ z ≤ x by omega), Bool.and_false]; decide
    · have hx : x ∈ r := (List.mem_cons.mp h).resolve_left e
      have := h1 x hx
      rw [List.filter_cons, if_neg (by rw [decide_eq_false (show ¬ x - 1 < y by omega), Bool.false_and]; decide)]
      exact filter_one h2 hx
theorem wval_flip {st : Bool} {ts : List Int} (hp : ts.Pairwise (· < ·)) {x : Int} (hx : x ∈ ts) : wval st ts x = !wval st ts (x - 1) := by
  rw [wval_eq, wval_eq, cnt_add (show x - 1 ≤ x by omega) ts, filter_one hp hx]
  have : decide ((cnt ts (x - 1) + 1) % 2 = 1) = !decide (cnt ts (x - 1) % 2 = 1) := by
    rw [Bool.eq_iff_iff, decide_eq_true_iff, Bool.not_eq_true', decide_eq_false_iff_not]; omega
  rw [this]
  cases st <;> cases decide (cnt ts (x - 1) % 2 = 1) <;> rfl
theorem wval_same {st : Bool} {ts : List Int} {t1 t2 : Int} (h : t1 ≤ t2) (hn : ∀ x ∈ ts, t1 < x → ¬ x ≤ t2) : wval st ts t2 = wval st ts t1 := by
  rw [wval_eq, wval_eq, cnt_same h hn]
theorem wval_low {st : Bool} {ts : List Int} {t : Int} (h : ∀ x ∈ ts, ¬ x ≤ t) : wval st ts t = st := by
  have : cnt ts t = 0 := by
    unfold cnt
    rw [List.filter_eq_nil_iff.mpr fun x hx => ?_]
    · rfl
    · rw [decide_eq_false (h x hx)]; decide
  rw [wval_eq, this]
  cases st <;> rfl
section
variable {P : Program} {w : World} {K : PySem.W.Frag} {mg : Str → Option Value} {base : Heap}
def spWInit (C B : Addr) : Sp := fun vs H Q E => ∃ (x dx l : Addr) (st : Bool) (ts : List Int), vs = [.ref x, .bl st, .ref l] ∧ H x = some (.ins C dx []) ∧ H l = some (.lst (ts.map V.int)) ∧ ts.length ≤ 1000 ∧
  (ascB ts = true → ∀ (L : Addr) (H' : Hp), H L = none → ExBut x H H' → WaveAt C H' x L st ts → Q .non H') ∧ (ascB ts = false → ∀ H', ExBut x H H' → E (.ref B) none H')
theorem sc_Waveform_init : FnScope ["self", "start", "changes", "times"] ["self", "start", "changes"] (defScope s_Waveform_init) := ⟨rfl, rfl, rfl, by decide +kernel, rfl, by decide +kernel, by decide +kernel⟩
theorem ok_Waveform_init {C B : Addr} {f : Addr} {fd : FuncData} (F : Fun K "__init__" "Waveform.__init__" s_Waveform_init f fd) (W : Cl_Waveform K mg C) (T : TxtW mg) (U : ExcT K mg "BadArgument" B) (C1 : Has P w K mg base 1 "is_ascending" ["numbers"] spAsc) : FnOk P w K mg base (L2.CX P w) 2 f fd ["self", "start", "changes"] (spWInit C B) := by
  obtain ⟨f_is_ascending, d_is_ascending, G_is_ascending, g_is_ascending, k_is_ascending, b_is_ascending⟩ := C1
  refine F.okX sc_Waveform_init (fun vs H Q E h => ?_) (fun cdv A outer s H vs Q E hr h => ?_)
  · obtain ⟨x, dx, l, st, ts, rfl, _⟩ := h
    rfl
  · obtain ⟨x, dx, l, st, ts, rfl, hx, hl, hn, q1, q2⟩ := h
    refine ⟨_, (pss_cons (ps_set (i := 3) sc_Waveform_init.nd rfl (.inl rfl) (pe_callTy call_list_of (by rfl) T.list (by decide +kernel) (pa_cons (pv 2) pa_nil)))
    (pss_cons (ps_if (pt_not (pt_truth (pe_call G_is_ascending (hr.mono (by omega)) (by rfl) g_is_ascending k_is_ascending b_is_ascending .nil pass0 (pa_cons (pv 3) pa_nil)) (by intro _; rfl)))
      (pss_one (ps_raise rfl (takes_of rfl rfl rfl rfl) (pmk_ownA PySem.F.excBase_ValueError U.xP U.gC U.kC (raises_own U.bC U.tC) rfl (pa_cons pe_str pa_nil))))
      pss_nil)
    (pss_cons (ps_fld (pv 0) (pv 1) rfl)
    (pss_one (ps_fld (pv 0) (pv 3) rfl))))), ?_⟩
    refine ⟨_, rfl, _, _, rfl, .inl (SqL.of hl), fun lf nlf => ?_⟩
    have E1 : Ex H (upd H lf (.lst (ts.map V.int))) := Ex.new nlf
    have h1 : upd H lf (.lst (ts.map V.int)) lf = some (.lst (ts.map V.int)) := upd_same
    generalize upd H lf (.lst (ts.map V.int)) = H1 at *
    refine ⟨_, rfl, lf, ts, rfl, h1, hn, fun H2 E2 => ⟨_, rfl, ?_⟩⟩
    cases hb : ascB ts with
    | false => exact iteT ⟨(by show 1 ≤ sizeLine; decide), q2 hb H2 (.of (E1.trans E2))⟩
    | true =>
      have e := E1.trans E2
      have nxl : lf ≠ x := (ne_of_none hx nlf).symm
      refine iteF ⟨_, rfl, _, rfl, x, C, dx, [], rfl, e _ _ hx, W.cl, W.n_start, (by show 0 < 1000; decide), _, rfl, _, rfl, x, C, dx, _, rfl, upd_same, W.cl, W.n_changes, (by show 1 < 1000; decide), ?_⟩
      exact q1 hb lf _ nlf (((ExBut.of e).trans ExBut.put).trans ExBut.put) ⟨⟨dx, upd_same⟩, by rw [upd_ne nxl, upd_ne nxl]; exact E2 _ _ h1⟩
def spWStart (C : Addr) : Sp := fun vs H Q _ => ∃ (x L : Addr) (st : Bool) (ts : List Int), vs = [.ref x] ∧ WaveAt C H x L st ts ∧ Q (.bl st) H
theorem sc_Waveform_start : FnScope ["self"] ["self"] (defScope s_Waveform_start) := ⟨rfl, rfl, rfl, by decide +kernel, rfl, by decide +kernel, by decide +kernel⟩
theorem ok_Waveform_start {C : Addr} {f : Addr} {fd : FuncData} (F : Fun K "start" "Waveform.start" s_Waveform_start f fd) (W : Cl_Waveform K mg C) : FnOk P w K mg base CX0 1 f fd ["self"] (spWStart C) := by
  refine F.ok sc_Waveform_start (fun vs H Q E h => ?_) (fun cdv A outer s H vs Q E hr h => ?_)
  · obtain ⟨x, L, st, ts, rfl, _⟩ := h
    rfl
  · obtain ⟨x, L, st, ts, rfl, ⟨⟨dx, h1⟩, h2⟩, q⟩ := h
    refine ⟨_, (pss_one (ps_ret (pe_fld (pv 0) rfl))), ?_⟩
    exact ⟨_, rfl, x, C, dx, _, _, rfl, h1, W.cl, W.n_start, wfl_start _ _, q⟩
def spWChanges (C : Addr) : Sp := fun vs H Q _ => ∃ (x L : Addr) (st : Bool) (ts : List Int), vs = [.ref x] ∧ WaveAt C H x L st ts ∧ ∀ l, H l = none → Q (.ref l) (upd H l (.lst (ts.map V.int)))
theorem sc_Waveform_changes : FnScope ["self"] ["self"] (defScope s_Waveform_changes) := ⟨rfl, rfl, rfl, by decide +kernel, rfl, by decide +kernel, by decide +kernel⟩
theorem ok_Waveform_changes {C : Addr} {f : Addr} {fd : FuncData} (F : Fun K "changes" "Waveform.changes" s_Waveform_changes f fd) (W : Cl_Waveform K mg C) (T : TxtW mg) : FnOk P w K mg base CX0 1 f fd ["self"] (spWChanges C) := by
  refine F.ok sc_Waveform_changes (fun vs H Q E h => ?_) (fun cdv A outer s H vs Q E hr h => ?_)
  · obtain ⟨x, L, st, ts, rfl, _⟩ := h
    rfl
  · obtain ⟨x, L, st, ts, rfl, ⟨⟨dx, h1⟩, h2⟩, q⟩ := h
    refine ⟨_, (pss_one (ps_ret (pe_callTy call_list_of (by rfl) T.list (by decide +kernel) (pa_cons (pe_fld (pv 0) rfl) pa_nil)))), ?_⟩
    exact ⟨_, rfl, x, C, dx, _, _, rfl, h1, W.cl, W.n_changes, wfl_changes _ _, _, _, rfl, .inl (SqL.of h2), fun l nl => q l nl⟩
end
end G
namespace G
open PySem PySem.Spec PyProof.Rows L2
/-! ## what the changes of a waveform mean -/
/-- from lo on (and before it, all the same) the waveform has the values of F -/
structure Shows (st : Bool) (ts : List Int) (F : Int → Bool) : Prop where
  asc : ts.Pairwise (· < ·)
  mem : ∀ t, t ∈ ts ↔ F t ≠ F (t - 1)
  low : ∀ t, (∀ x ∈ ts, t < x) → F t = st
theorem shows_wval {st : Bool} {ts : List Int} (hp : ts.Pairwise (· < ·)) : Shows st ts (wval st ts) := by
  refine ⟨hp, fun t => ⟨fun h => ?_, fun h => ?_⟩, fun t h => wval_low fun x hx => by have := h x hx; omega⟩
  · rw [wval_flip hp h]
    cases wval st ts (t - 1) <;> decide
  · refine Classical.byContradiction fun no => h (wval_same (by omega) fun x hx h1 h2 => ?_)
    have : x = t := by omega
    rw [this] at hx; exact no hx
theorem asc_ext : ∀ {l1 l2 : List Int}, l1.Pairwise (· < ·) → l2.Pairwise (· < ·) → (∀ x, x ∈ l1 ↔ x ∈ l2) → l1 = l2
  | [], [], _, _, _ => rfl
  | [], y :: r, _, _, h => absurd ((h y).mpr (List.mem_cons_self ..)) (by intro z; cases z)
  | x :: r, [], _, _, h => absurd ((h x).mp (List.mem_cons_self ..)) (by intro z; cases z)
  | x :: r, y :: s, h1, h2, h => by
    obtain ⟨a1, b1⟩ := List.pairwise_cons.mp h1
    obtain ⟨a2, b2⟩ := List.pairwise_cons.mp h2
    have e : x = y := by
      rcases List.mem_cons.mp ((h x).mp (List.mem_cons_self ..)) with e | m
      · exact e
      · rcases List.mem_cons.mp ((h y).mpr (List.mem_cons_self ..)) with e | m'
        · exact e.symm
        · have := a1 y m'; have := a2 x m; omega
    subst e
    rw [asc_ext b1 b2 fun z => ⟨fun m => ?_, fun m => ?_⟩]
    · rcases List.mem_cons.mp ((h z).mp (List.mem_cons_of_mem _ m)) with e | q
      · have := a1 z m; omega
      · exact q
    · rcases List.mem_cons.mp ((h z).mpr (List.mem_cons_of_mem _ m)) with e | q
      · have := a2 z m; omega
      · exact q
/-- the times from lo + 1 on at which F changes, n times asked -/
def chgL (F : Int → Bool) (lo : Int) (n : Nat) : List Int := ((List.range (n - 1)).filter fun j : Nat => decide (F (lo + (1 + (j : Int))) ≠ F (lo + (1 + (j : Int)) - 1))).map fun j : Nat => lo + (1 + (j : Int))
theorem chgL_asc (F : Int → Bool) (lo : Int) (n : Nat) : (chgL F lo n).Pairwise (· < ·) := by
  unfold chgL
  rw [List.pairwise_map]
  exact (List.Pairwise.filter _ List.pairwise_lt_range).imp fun h => by omega
theorem chgL_mem {F : Int → Bool} {lo : Int} {n : Nat} {t : Int} : t ∈ chgL F lo n ↔ lo < t ∧ t < lo + n ∧ F t ≠ F (t - 1) := by
  unfold chgL
  rw [List.mem_map]
  constructor
  · rintro ⟨j, hj, rfl⟩
    obtain ⟨h1, h2⟩ := List.mem_filter.mp hj
    have := List.mem_range.mp h1
    exact ⟨by omega, by omega, of_decide_eq_true h2⟩
  · rintro ⟨h1, h2, h3⟩
    refine ⟨(t - lo - 1).toNat, List.mem_filter.mpr ⟨List.mem_range.mpr (by omega), ?_⟩, by omega⟩
    have e : lo + (1 + (((t - lo - 1).toNat : Nat) : Int)) = t := by omega
    rw [e]
    exact decide_eq_true h3
theorem Shows.chg {st : Bool} {ts : List Int} {F : Int → Bool} (h : Shows st ts F) {lo : Int} {n : Nat} (hb : ∀ t ∈ ts, lo < t ∧ t < lo + n) : ts = chgL F lo n :=
  asc_ext h.asc (chgL_asc F lo n) fun t => by
    rw [chgL_mem]
    exact ⟨fun m => ⟨(hb t m).1, (hb t m).2, (h.mem t).mp m⟩, fun ⟨_, _, z⟩ => (h.mem t).mpr z⟩
theorem Shows.start {st : Bool} {ts : List Int} {F : Int → Bool} (h : Shows st ts F) {lo : Int} (hb : ∀ t ∈ ts, lo < t) : st = F lo := (h.low lo hb).symm
theorem Shows.ext {st : Bool} {ts : List Int} {F F' : Int → Bool} (h : Shows st ts F) (e : ∀ t, F t = F' t) : Shows st ts F' := by
  have : F = F' := funext e
  rw [← this]; exact h
theorem Shows.uniq {st st' : Bool} {ts ts' : List Int} {F : Int → Bool} (h : Shows st ts F) (h' : Shows st' ts' F) : st = st' ∧ ts = ts' := by
  have e : ts = ts' := asc_ext h.asc h'.asc fun t => by rw [h.mem, h'.mem]
  subst e
  refine ⟨?_, rfl⟩
  cases ts with
  | nil => rw [← h.low 0 (fun _ z => nomatch z), ← h'.low 0 (fun _ z => nomatch z)]
  | cons x r =>
    have hx := (List.pairwise_cons.mp h.asc).1
    have lo : ∀ y ∈ x :: r, x - 1 < y := fun y hy => by
      rcases List.mem_cons.mp hy with e | m
      · omega
      · have := hx y m; omega
    rw [← h.low _ lo, ← h'.low _ lo]
theorem Shows.neg {st : Bool} {ts : List Int} {F : Int → Bool} (h : Shows st ts F) : Shows (!st) ts (fun t => !F t) :=
  ⟨h.asc, fun t => by rw [h.mem]; cases F t <;> cases F (t - 1) <;> decide, fun t z => by rw [h.low t z]⟩
theorem Shows.shift {st : Bool} {ts : List Int} {F : Int → Bool} (h : Shows st ts F) (by_ : Int) : Shows st (ts.map fun x => x + by_) (fun t => F (t - by_)) := by
  refine ⟨?_, fun t => ?_, fun t z => ?_⟩
  · rw [List.pairwise_map]
    exact h.asc.imp fun q => by omega
  · rw [List.mem_map]
    have e : t - 1 - by_ = t - by_ - 1 := by omega
    rw [e, ← h.mem]
    constructor
    · rintro ⟨x, hx, rfl⟩
      rw [show x + by_ - by_ = x by omega]; exact hx
    · exact fun m => ⟨_, m, by omega⟩
  · exact h.low _ fun x hx => by have := z _ (List.mem_map.mpr ⟨x, hx, rfl⟩); omega
/-! ## two waveforms combined -/
def F2 (f : Bool → Bool → Bool) (st1 st2 : Bool) (ts1 ts2 : List Int) (t : Int) : Bool := f (wval st1 ts1 t) (wval st2 ts2 t)
def cmbL (f : Bool → Bool → Bool) (st1 st2 : Bool) (ts1 ts2 us : List Int) : List Int := us.filter fun u => decide (F2 f st1 st2 ts1 ts2 u ≠ F2 f st1 st2 ts1 ts2 (u - 1))
/-- the values between the times that are done and those to come -/
def Mid (us : List Int) (i : Nat) (G : Int → Bool) (v : Bool) : Prop := ∀ t, (∀ j x, j < i → us[j]? = some x → x ≤ t) → (∀ j x, i ≤ j → us[j]? = some x → t < x) → G t = v
theorem Mid.zero {st : Bool} {ts us : List Int} (hs : ∀ x ∈ ts, x ∈ us) : Mid us 0 (wval st ts) st := fun t _ h => wval_low fun x hx => by
  obtain ⟨j, hj, e⟩ := List.getElem_of_mem (hs x hx)
  have := h j x (Nat.zero_le _) (by rw [List.getElem?_eq_getElem hj, e])
  omega
theorem Mid.step {st : Bool} {ts us : List Int} {i : Nat} {u : Int} {v : Bool} (hp : ts.Pairwise (· < ·)) (hu : us.Pairwise (· < ·)) (hs : ∀ x ∈ ts, x ∈ us) (hi : us[i]? = some u) (h : Mid us i (wval st ts) v) :
    wval st ts (u - 1) = v ∧ wval st ts u = (v != decide (u ∈ ts)) ∧ Mid us (i + 1) (wval st ts) (v != decide (u ∈ ts)) := by
  have ord : ∀ j k x y, j < k → us[j]? = some x → us[k]? = some y → x < y := fun j k x y hjk hx hy => by
    obtain ⟨h1, rfl⟩ := List.getElem?_eq_some_iff.mp hx
    obtain ⟨h2, rfl⟩ := List.getElem?_eq_some_iff.mp hy
    exact List.pairwise_iff_getElem.mp hu j k h1 h2 hjk
  have e1 : wval st ts (u - 1) = v := h _ (fun j x hj hx => by have := ord j i x u hj hx hi; omega) fun j x hj hx => by
    rcases Nat.lt_or_eq_of_le hj with lt | rfl
    · have := ord i j u x lt hi hx; omega
    · rw [hi] at hx; cases hx; omega
  have e2 : wval st ts u = (v != decide (u ∈ ts)) := by
    by_cases m : u ∈ ts
    · rw [wval_flip hp m, e1, decide_eq_true m]
      cases v <;> rfl
    · rw [wval_same (t1 := u - 1) (by omega) fun x hx h1 h2 => ?_, e1, decide_eq_false m]
      · cases v <;> rfl
      · have : x = u := by omega
        rw [this] at hx; exact m hx
  refine ⟨e1, e2, fun t h1 h2 => ?_⟩
  rw [← e2]
  refine wval_same (h1 i u (Nat.lt_succ_self _) hi) fun x hx q1 q2 => ?_
  obtain ⟨j, hj, e⟩ := List.getElem_of_mem (hs x hx)
  have hx' : us[j]? = some x := by rw [List.getElem?_eq_getElem hj, e]
  rcases Nat.lt_or_ge i j with lt | ge
  · have := h2 j x lt hx'; omega
  · rcases Nat.lt_or_eq_of_le ge with lt | rfl
    · have := ord j i x u lt hx' hi; omega
    · rw [hi] at hx'; cases hx'; omega
theorem cmb_shows {f : Bool → Bool → Bool} {st1 st2 : Bool} {ts1 ts2 us : List Int} (h1 : ts1.Pairwise (· < ·)) (h2 : ts2.Pairwise (· < ·)) (hu : us.Pairwise (· < ·)) (hm : ∀ x, x ∈ us ↔ x ∈ ts1 ∨ x ∈ ts2) :
    Shows (f st1 st2) (cmbL f st1 st2 ts1 ts2 us) (F2 f st1 st2 ts1 ts2) := by
  have s1 := shows_wval (st := st1) h1
  have s2 := shows_wval (st := st2) h2
  have mem : ∀ t, t ∈ cmbL f st1 st2 ts1 ts2 us ↔ F2 f st1 st2 ts1 ts2 t ≠ F2 f st1 st2 ts1 ts2 (t - 1) := fun t => by
    unfold cmbL
    rw [List.mem_filter, decide_eq_true_iff, hm]
    refine ⟨fun z => z.2, fun z => ⟨Classical.byContradiction fun no => z ?_, z⟩⟩
    have n1 : wval st1 ts1 t = wval st1 ts1 (t - 1) := Classical.byContradiction fun q => no (.inl ((s1.mem t).mpr q))
    have n2 : wval st2 ts2 t = wval st2 ts2 (t - 1) := Classical.byContradiction fun q => no (.inr ((s2.mem t).mpr q))
    unfold F2
    rw [n1, n2]
  refine ⟨hu.filter _, mem, fun t h => ?_⟩
  -- before its own first change it has the value it has before all changes
  have key : ∀ n : Nat, F2 f st1 st2 ts1 ts2 (t - n) = F2 f st1 st2 ts1 ts2 t := fun n => by
    induction n with
    | zero => rw [show t - ((0 : Nat) : Int) = t by omega]
    | succ n ih =>
      rw [← ih, show t - ((n + 1 : Nat) : Int) = t - n - 1 by omega]
      refine Classical.byContradiction fun q => ?_
      have := h _ ((mem (t - n)).mpr fun e => q e.symm)
      omega
  obtain ⟨n, hn⟩ : ∃ n : Nat, ∀ x ∈ us, t - n < x := by
    clear mem h hm hu key
    induction us with
    | nil => exact ⟨0, fun _ z => nomatch z⟩
    | cons y r ih =>
      obtain ⟨n, hn⟩ := ih
      refine ⟨n + (t - y + 1).toNat, fun x hx => ?_⟩
      rcases List.mem_cons.mp hx with e | m
      · omega
      · have := hn x m; omega
  rw [← key n]
  unfold F2
  rw [s1.low _ fun x hx => hn x ((hm x).mpr (.inl hx)), s2.low _ fun x hx => hn x ((hm x).mpr (.inr hx))]
/-! ## a waveform made of bits -/
def obG (before : Bool) (first : Int) (bits : List Bool) (after : Bool) (t : Int) : Bool := if t < first then before else (bits[(t - first).toNat]?).getD after
def obL (before : Bool) (first : Int) (bits : List Bool) (after : Bool) (i : Nat) : List Int := ((List.range i).filter fun k : Nat => decide (obG before first bits after (first + (k : Int)) ≠ obG before first bits after (first + (k : Int) - 1))).map fun k : Nat => first + (k : Int)
theorem obG_at {before : Bool} {first : Int} {bits : List Bool} {after b : Bool} {k : Nat} (h : (bits ++ [after])[k]? = some b) : obG before first bits after (first + k) = b := by
  unfold obG
  rw [if_neg (by omega), show (first + (k : Int) - first).toNat = k by omega]
  rcases Nat.lt_or_ge k bits.length with lt | ge
  · rw [List.getElem?_append_left lt] at h
    rw [h]; rfl
  · rw [List.getElem?_append_right ge] at h
    rw [List.getElem?_eq_none ge]
    cases e : k - bits.length with
    | zero => rw [e] at h; exact Option.some.inj h
    | succ n => rw [e] at h; cases h
theorem obG_low {before : Bool} {first : Int} {bits : List Bool} {after : Bool} : obG before first bits after (first - 1) = before := if_pos (by omega)
theorem ob_shows (before : Bool) (first : Int) (bits : List Bool) (after : Bool) : Shows before (obL before first bits after (bits.length + 1)) (obG before first bits after) := by
  have mem : ∀ t, t ∈ obL before first bits after (bits.length + 1) ↔ obG before first bits after t ≠ obG before first bits after (t - 1) := fun t => by
    unfold obL
    rw [List.mem_map]
    constructor
    · rintro ⟨k, hk, rfl⟩
      exact of_decide_eq_true (List.mem_filter.mp hk).2
    · intro h
      have h1 : first ≤ t := Classical.byContradiction fun q => h (by unfold obG; rw [if_pos (by omega), if_pos (by omega)])
      have h2 : t ≤ first + bits.length := Classical.byContradiction fun q => h (by
        unfold obG
        rw [if_neg (by omega), if_neg (by omega), List.getElem?_eq_none (by omega), List.getElem?_eq_none (by omega)])
      have e : first + (((t - first).toNat : Nat) : Int) = t := by omega
      refine ⟨(t - first).toNat, List.mem_filter.mpr ⟨List.mem_range.mpr (by omega), ?_⟩, e⟩
      rw [e]; exact decide_eq_true h
  refine ⟨?_, mem, fun t h => ?_⟩
  · unfold obL
    rw [List.pairwise_map]
    exact (List.Pairwise.filter _ List.pairwise_lt_range).imp fun h => by omega
  · have key : ∀ n : Nat, obG before first bits after (t - n) = obG before first bits after t := fun n => by
      induction n with
      | zero => rw [show t - ((0 : Nat) : Int) = t by omega]
      | succ n ih =>
        rw [← ih, show t - ((n + 1 : Nat) : Int) = t - n - 1 by omega]
        refine Classical.byContradiction fun q => ?_
        have := h _ ((mem (t - n)).mpr fun e => q e.symm)
        omega
    rw [← key (t - first + 1).toNat]
    exact if_pos (by omega)
/-- the list of values that the law writes down -/
theorem due_at {before : Bool} {bits : List Bool} {after : Bool} {at_ : Int} {n m : Nat} (hn : (n : Int) = at_ + 60) {k : Nat} (hk : k < n + bits.length + m) :
    (List.replicate n before ++ bits ++ List.replicate m after)[k]? = some (obG before at_ bits after (-60 + k)) := by
  unfold obG
  rcases Nat.lt_or_ge k n with lt | ge
  · rw [if_pos (by omega), List.append_assoc, List.getElem?_append_left (by rw [List.length_replicate]; exact lt), List.getElem?_replicate, if_pos lt]
  · rw [if_neg (by omega), show (-60 + (k : Int) - at_).toNat = k - n by omega, List.append_assoc, List.getElem?_append_right (by rw [List.length_replicate]; exact ge), List.length_replicate]
    rcases Nat.lt_or_ge (k - n) bits.length with lt | ge'
    · rw [List.getElem?_append_left lt, List.getElem?_eq_getElem lt]; rfl
    · rw [List.getElem?_append_right ge', List.getElem?_eq_none ge', List.getElem?_replicate, if_pos (by omega)]; rfl
end G
namespace G
open PySem PySem.Spec PyProof.Rows L2 Evl TL
theorem pw_snoc {ts : List Int} {a : Int} (h : ts.Pairwise (· < ·)) (ha : ∀ t ∈ ts, t < a) : (ts ++ [a]).Pairwise (· < ·) := by
  rw [List.pairwise_append]
  refine ⟨h, List.pairwise_singleton .., fun x hx y hy => ?_⟩
  rw [List.mem_singleton.mp hy]; exact ha x hx
section
variable {P : Program} {w : World} {K : PySem.W.Frag} {mg : Str → Option Value} {base : Heap}
def spChanges : Sp := fun vs H Q _ => ∃ (p a : Addr) (most wide : Nat) (first : Int), vs = [.ref p, .int most, .int first, .int wide] ∧ most ≤ 100 ∧ 0 < wide ∧ wide ≤ 1000 ∧ PoolOk p a H ∧
  ∀ (l : Addr) (ts : List Int) (H' : Hp), Px p a H H' → H l = none → hid p H' l = some (.lst (ts.map V.int)) → ts.Pairwise (· < ·) → ts.length ≤ most → (∀ t ∈ ts, first ≤ t ∧ t < first + wide + 5 * most) → Q (.ref l) H'
theorem sc_law_changes : FnScope ["pool", "most", "first", "wide", "times", "at", "k"] ["pool", "most", "first", "wide"] (defScope s_law_changes) := ⟨rfl, rfl, rfl, by decide +kernel, rfl, by decide +kernel, by decide +kernel⟩
theorem ok_law_changes (D : Dfd K mg "_law_changes" s_law_changes ["pool", "most", "first", "wide"]) (T : TxtS mg) (C1 : Has P w K mg base 2 "_law_draw" ["pool", "many"] spDrawX) : Has P w K mg base 3 "_law_changes" ["pool", "most", "first", "wide"] spChanges := by
  obtain ⟨f_law_draw, d_law_draw, G_law_draw, g_law_draw, k_law_draw, b_law_draw⟩ := C1
  refine D.has fun f fd F => F.ok sc_law_changes (fun vs H Q E h => ?_) (fun cdv A outer s H vs Q E hr h => ?_)
  · obtain ⟨p, a, most, wide, first, rfl, _⟩ := h
    rfl
  · obtain ⟨p, a, most, wide, first, rfl, hm, hw0, hw, hp, q⟩ := h
    refine ⟨_, (pss_cons (ps_set (i := 4) sc_law_changes.nd rfl (.inl rfl) (pe_lst pa_nil))
    (pss_cons (ps_set (i := 5) sc_law_changes.nd rfl (.inl rfl) (pe_op op_add (pv 2) (pe_call G_law_draw (hr.mono (by omega)) (by rfl) g_law_draw k_law_draw b_law_draw .nil pass0 (pa_cons (pv 0) (pa_cons (pv 3) pa_nil)))))
    (pss_cons (ps_for PassesOwn.never rfl (pi_range1 rfl T.range (pa_cons (pe_call G_law_draw (hr.mono (by omega)) (by rfl) g_law_draw k_law_draw b_law_draw .nil pass0 (pa_cons (pv 0) (pa_cons (pe_op op_add (pv 1) pe_int) pa_nil))) pa_nil)) (pg_name (i := 6) sc_law_changes.nd rfl (.inl rfl))
      (pss_cons (ps_expr (pe_bm PySem.F.plainAttrs_list PySem.F.slot_list_append PySem.F.type_list_append mt_append (pv 4) (pa_cons (pv 5) pa_nil)))
      (pss_one (ps_set (i := 5) sc_law_changes.nd rfl (.inl rfl) (pe_op op_add (pe_op op_add (pv 5) pe_int) (pe_ix ix_tup (pe_tup (pa_cons pe_int (pa_cons pe_int (pa_cons pe_int (pa_cons pe_int pa_nil))))) (pe_call G_law_draw (hr.mono (by omega)) (by rfl) g_law_draw k_law_draw b_law_draw .nil pass0 (pa_cons (pv 0) (pa_cons pe_int pa_nil))) (fun _ _ => rfl)))))))
    (pss_one (ps_ret (pv 4)))))), ?_⟩
    refine ⟨Nat.zero_le _, fun l nl => ?_⟩
    have X0 := (Px.refl hp).new (o := .lst []) nl
    have hpl := hp.ne nl
    have hl0 : hid p (upd H l (.lst [])) l = some (.lst []) := by rw [hid_ne hpl]; exact upd_same
    generalize upd H l (.lst []) = H0 at *
    refine ⟨_, rfl, _, rfl, _, rfl, p, a, wide, rfl, by omega, by omega, X0.pool, fun v1 H1 h1 X1 _ => ⟨_, _, rfl, rfl, ?_⟩⟩
    refine ⟨_, rfl, _, rfl, _, _, rfl, rfl, p, a, (most : Int) + 1, rfl, by omega, by omega, X1.pool, fun v2 H2 h2 X2 _ => ⟨v2, rfl, by omega, by omega, for_range (n := ((v2 : Nat) : Int).toNat)
      (fun i σ H' => Px p a H H' ∧ ∃ (ts : List Int) (at_ : Int) (z : Option V), hid p H' l = some (.lst (ts.map V.int)) ∧ ts.Pairwise (· < ·) ∧ ts.length = i ∧ (∀ t ∈ ts, first ≤ t ∧ t < at_) ∧ first ≤ at_ ∧ at_ < first + wide + 5 * i ∧ σ = [some (.ref p), some (.int most), some (.int first), some (.int wide), some (.ref l), some (.int at_), z])
      ⟨(X0.trans X1).trans X2, [], first + v1, _, X2.get (X1.get hl0), .nil, rfl, (fun _ h => nomatch h), by omega, by omega, rfl⟩ ?_ ?_⟩⟩
    · rintro i σ H3 hi ⟨X3, ts, at_, z, hl, hpw, hlen, hb, b1, b2, rfl⟩
      rw [Int.toNat_natCast] at hi
      refine ⟨_, rfl, .inl ⟨rfl, _, SqL.of (hid_get hl)⟩, _, rfl, l, ts.map V.int, .int at_, rfl, rfl, hid_get hl, sz_lt (by rw [List.length_map]; omega), ?_⟩
      have X4 := X3.mut (o := .lst (ts.map V.int ++ [.int at_])) nl
      have hl4 : hid p (upd H3 l (.lst (ts.map V.int ++ [.int at_]))) l = some (.lst ((ts ++ [at_]).map V.int)) := by rw [hid_ne hpl, upd_same, List.map_append]; rfl
      generalize upd H3 l (.lst (ts.map V.int ++ [.int at_])) = H4 at *
      refine ⟨_, rfl, _, _, rfl, rfl, (by show 4 ≤ sizeLine; decide), fun t nt => ⟨_, rfl, p, a, 4, rfl, by decide, by decide, (X4.new nt).pool, fun v H5 hv X5 kp => ?_⟩⟩
      have ht5 : H5 t = some (.tup [.int 0, .int 0, .int 1, .int 4]) := by rw [kp _ (X4.pool.ne nt)]; exact upd_same
      obtain ⟨m, hm4, hm⟩ : ∃ m : Nat, m ≤ 4 ∧ ([.int 0, .int 0, .int 1, .int 4] : List V)[v]? = some (.int m) := by
        match v, hv with
        | 0, _ => exact ⟨0, by decide, rfl⟩
        | 1, _ => exact ⟨0, by decide, rfl⟩
        | 2, _ => exact ⟨1, by decide, rfl⟩
        | 3, _ => exact ⟨4, by decide, rfl⟩
        | n + 4, h => exact absurd h (by omega)
      refine ⟨_, _, _, _, rfl, rfl, SqT.of ht5, atI_nat hm, _, _, rfl, rfl, (X4.new nt).trans X5, ts ++ [at_], at_ + 1 + m, _, X5.get (((Px.refl X4.pool).new nt).get hl4), pw_snoc hpw fun t ht => (hb t ht).2, by rw [List.length_append, hlen]; rfl, fun t ht => ?_, by omega, by omega, rfl⟩
      rcases List.mem_append.mp ht with h | h
      · have := hb t h; omega
      · rw [List.mem_singleton.mp h]; omega
    · rintro σ H3 ⟨X3, ts, at_, z, hl, hpw, hlen, hb, b1, b2, rfl⟩
      rw [Int.toNat_natCast] at hlen b2
      exact ⟨_, rfl, q l ts H3 X3 nl hl hpw (by omega) fun t ht => by have := hb t ht; omega⟩
def spWV : Sp := fun vs H Q _ => ∃ (wv L : Addr) (st : Bool) (ts : List Int) (t : Int), vs = [.ref wv, .int t] ∧ H wv = some (.tup [.bl st, .ref L]) ∧ H L = some (.lst (ts.map V.int)) ∧ ts.length ≤ 1000 ∧ ∀ H', Ex H H' → Q (.bl (wval st ts t)) H'
theorem sc_law_wave_value : FnScope ["wave", "time", "many", "change"] ["wave", "time"] (defScope s_law_wave_value) := ⟨rfl, rfl, rfl, by decide +kernel, rfl, by decide +kernel, by decide +kernel⟩
theorem ok_law_wave_value (D : Dfd K mg "_law_wave_value" s_law_wave_value ["wave", "time"]) (T : TxtS mg) : Has P w K mg base 1 "_law_wave_value" ["wave", "time"] spWV := by
  refine D.has fun f fd F => F.ok sc_law_wave_value (fun vs H Q E h => ?_) (fun cdv A outer s H vs Q E hr h => ?_)
  · obtain ⟨wv, L, st, ts, t, rfl, _⟩ := h
    rfl
  · obtain ⟨wv, L, st, ts, t, rfl, hw, hl, hn, q⟩ := h
    refine ⟨_, (pss_cons (ps_set (i := 2) sc_law_wave_value.nd rfl (.inl rfl) (pe_callB call_len_seq (by rfl) T.len (by decide +kernel) (pa_cons (pe_lc (own := [("change", 3)]) (g := gName 3) (tt := _) rfl sc_law_wave_value.nd (pi_list (pe_ix ix_tup (pv 0) pe_int (fun _ _ => rfl))) (blkOk_by (N := ["wave", "time", "many", "change"]) (sc := defScope s_law_wave_value) (own := [("change", 3)]) (by decide +kernel)) (fun _ _ _ _ _ => (pg_name (i := 3) sc_law_wave_value.nd rfl (.inl rfl))) (fun _ _ _ _ _ => pts_one (pt_cmpR op_le (pv 3) (pv 1) (nomark _))) (fun _ _ _ _ _ => (pv 3))) pa_nil)))
    (pss_one (ps_ret (pe_cmpR op_ne (pe_ix ix_tup (pv 0) pe_int (fun _ _ => rfl)) (pe_cmpR op_eq (pe_op op_and (pv 2) pe_int) pe_int (nomark _)) (nomark _))))), ?_⟩
    refine ⟨_, rfl, _, _, _, _, rfl, rfl, SqT.of hw, atI_nat (j := 1) rfl, L, rfl, ⟨_, SqL.of hl⟩, fun L3 nL3 => wk_list (K := K) (a := L) (xs := ts.map V.int) (fun j H2 => Ex H H2 ∧ H2 L3 = some (.lst (((ts.take j).filter fun x => decide (x ≤ t)).map V.int))) ⟨Ex.new nL3, upd_same⟩ (fun j H2 _ g => SqL.of (g.1 _ _ hl)) ?_ ?_⟩
    · rintro j y H2 hy ⟨E2, hL2⟩
      rw [List.getElem?_map] at hy
      cases ht : ts[j]? with
      | none => rw [ht] at hy; cases hy
      | some x =>
        rw [ht] at hy
        cases hy
        have hj : j < ts.length := (List.getElem?_eq_some_iff.mp ht).1
        have hlen : ((ts.take j).filter fun x => decide (x ≤ t)).length ≤ 1000 := by
          have := List.length_filter_le (fun x => decide (x ≤ t)) (ts.take j)
          rw [List.length_take] at this; omega
        refine ⟨rfl, ?_⟩
        simp only [wipe, _root_.L2.start, List.map_cons, List.map_nil, List.length_cons, List.length_nil, Nat.reduceAdd, Nat.reduceSub, List.replicate_succ, List.replicate_zero, List.cons_append, List.nil_append, List.set_cons_zero, List.set_cons_succ]
        refine ⟨_, rfl, _, rfl, _, _, rfl, rfl, _, rfl, ite2 (fun c => ?_) (fun c => ?_)⟩
        · refine ⟨_, rfl, _, hL2, sz_lt (by rw [List.length_map]; omega), E2.mut nL3, ?_⟩
          rw [upd_same, take_snoc1 ht, List.filter_append, List.map_append, List.filter_cons, if_pos c]; rfl
        · refine ⟨E2, ?_⟩
          rw [hL2, take_snoc1 ht, List.filter_append, List.filter_cons, if_neg c, List.filter_nil, List.append_nil]
    · rintro H2 ⟨E2, hL2⟩
      rw [List.length_map, List.take_length] at hL2
      refine ⟨_, _, rfl, .inl (SqL.of hL2), _, rfl, _, _, _, _, rfl, rfl, SqT.of (E2 _ _ hw), atI_nat (j := 0) rfl, _, rfl, _, _, rfl, rfl, rfl, rfl, ?_⟩
      rw [List.length_map]
      exact q H2 E2
end
end G
namespace XI
open PySem PySem.Spec PyProof.Rows L2
/-! ## set(a list of ints), len of it -/
abbrev eOI (w : World) : Obj := { cls := .type "set", dict := none, data := .set #[] 0 (.fresh 0 0 (!w.params.followText "set-order")) }
section
variable {P : Program} {w : World} {A : Around} {E : Value → Shared → Prop} {s : Shared}
set_option maxRecDepth 100000 in
set_option maxHeartbeats 3200000 in
theorem set_listI {l : Addr} {items : Array Value} (xs : List Int) {Q : Value → Shared → Prop} (hh : A.handled = none) (hl : s.heap.IsList l items) (hit : IntsAre items.toList xs) (few : xs.length + 1 < scanBound)
    (h : ∀ (h' : Heap) (tk : Nat) (c : Nat), SetR w h' s.heap.objs.size (fun j => decide (j ∈ xs)) c → c ≤ xs.length → (∀ b o, s.heap.get? b = some o → h'.get? b = some o) → Q (.ref s.heap.objs.size) { s with heap := h', toks := tk }) :
    wpAny (model P w) A (call (.type "set") [.ref l]) Q E s := by
  have isz : items.size = xs.length := by have q := IntsAre.length hit; rw [Array.length_toList] at q; exact q
  obtain ⟨c, tl, hmro⟩ := F.called_set.mro
  have g1 := F.called_set.made
  have g2 := F.called_set.sub
  have g3 := F.called_set.notType
  have g4 := F.called_set.canCreate
  have g5 := F.typeCall_set_1 (.ref l)
  refine wpAny_call (codeAny_of_tree ?_)
  show wpAny _ _ (callAny (.type "set") _) _ _ _
  refine wpAny_pure ⟨Code.quiet_builtin _ (by decide +kernel), codeAny_builtin F.entry_type_call ?_⟩
  rw [Around.under_plain (weight_type_call_type "set" [.ref l] []) rfl]
  repeat (any_goals (first | assumption | wp_step))
  refine codeAny_mono (code_set_led1 (.ref l) (E := E) (Q₁ := fun ob s1 => ob = .ref s.heap.objs.size ∧ s1 = { s with heap := s.heap.push (eOI w) }) ⟨rfl, rfl⟩) fun r s1 hr => ?_
  cases r with
  | error e => exact hr
  | ok fl =>
    cases fl with
    | ret ob =>
      obtain ⟨rfl, rfl⟩ := hr
      have hS : (s.heap.push (eOI w)).get? s.heap.objs.size = some (eOI w) := Heap.get?_push_size _ rfl
      have hT : Shared.TypeIs { s with heap := s.heap.push (eOI w) } (.ref s.heap.objs.size) "set" := ⟨_, hS, rfl⟩
      have g6 := F.called_set.init.lookup
      have g7 := F.called_set.init.bind (.ref s.heap.objs.size)
      repeat (any_goals (first | assumption | wp_step))
      refine codeAny_mono (codeAny_call_builtin (R := wants (fun r s2 => r = .none ∧ ∃ h' tk c, s2 = { s with heap := h', toks := tk } ∧ SetR w h' s.heap.objs.size (fun j => decide (j ∈ xs)) c ∧ c ≤ xs.length ∧
          (∀ b o, s.heap.get? b = some o → h'.get? b = some o)) E) F.called_set.init.plain F.entry_set_init (check_set_init_1 hT ?_)) fun r2 s2 hr2 => ?_
      · obtain ⟨⟨ocls, odict, odata, oslots⟩, hol, hcl, nl, hdl⟩ := hl
        simp only at hcl hdl
        subst hcl; subst hdl
        have hol' : (s.heap.push (eOI w)).get? l = some { cls := .type "list", dict := odict, data := .seq items nl, slots := oslots } := Heap.get?_push_of_some _ hol
        have g8 := F.sub_list_set
        have g9 := F.sub_list_frozenset
        have g10 : (Value.type "list" == Value.type "dict") = false := by decide
        have hl1 : (s.heap.push (eOI w)).IsList l items := ⟨_, hol', rfl, nl, rfl⟩
        unfold Builtin.«set.__init__» noKeywords Builtin.Frozenset.updateFrom
        generalize hPI : pyIter = PI
        wp_walk
        subst hPI
        refine wpAny_pyIter_list hl1 (wpAny_bind (wpAny_runValue ?_))
        have lS : l < s.heap.objs.size := Heap.lt_size hol
        have hh3 : A.in1.in1.in1.handled = none := by simp [hh]
        have nI : l ≠ (s.heap.push (eOI w)).objs.size := by rw [Heap.size_push]; exact Nat.ne_of_lt (Nat.lt_succ_of_lt lS)
        have nf : s.heap.objs.size ∉ [(s.heap.push (eOI w)).objs.size, l] := by
          rw [Heap.size_push]; simp only [List.mem_cons, List.mem_singleton, List.not_mem_nil, or_false, not_or]
          exact ⟨Nat.ne_of_lt (Nat.lt_succ_self _), Nat.ne_of_gt lS⟩
        have hval : ∀ (i : Nat) (v : Value), items[i]? = some v → ∃ k t, xs[i]? = some k ∧ v = .int k t := fun i v hv => by
          have hi : i < xs.length := by rw [← isz]; exact (Array.getElem?_eq_some_iff.mp hv).1
          obtain ⟨t, e⟩ := PyProof.Rows.IntsAre.int_at hit i v (by rw [Array.getElem?_toList]; exact hv)
          refine ⟨xs[i], t, List.getElem?_eq_getElem hi, ?_⟩
          rw [e, List.getD_eq_getElem?_getD, List.getElem?_eq_getElem hi] <;> rfl
        refine set_update_ints ((Walks.list hh3 _ l nI items).toS) s.heap.objs.size nf xs isz few hval (items.size - 0) 0 _ (by omega) (Nat.zero_le _)
          ⟨⟨_, Heap.get?_push_size _ rfl, rfl, rfl⟩, (hl1.push _)⟩ ⟨0, Nat.le_refl 0, setR_new_at (Heap.get?_push_of_some _ hS)⟩ fun s' c' mv p T => ?_
        · obtain ⟨h', g', d', tk', os'⟩ := s'
          have e1 : g' = s.gens := mv.gens
          have e2 : d' = s.drawn := mv.drawn
          have e3 : os' = s.os := mv.os
          subst e1; subst e2; subst e3
          show wpAny _ _ _ _ _ _
          refine wpAny_pure ?_
          show wpAny _ _ (ret Value.none) _ _ _
          rw [isz] at p
          refine wpAny_pure ⟨rfl, h', tk', c', rfl, T, p, fun b o e => ?_⟩
          have hb : b < s.heap.objs.size := Heap.lt_size e
          refine mv.heap b o ?_ (Heap.get?_push_of_some _ (Heap.get?_push_of_some _ e))
          rw [Heap.size_push]; simp only [List.mem_cons, List.mem_singleton, List.not_mem_nil, or_false, not_or]
          exact ⟨Nat.ne_of_lt hb, Nat.ne_of_lt (Nat.lt_succ_of_lt hb)⟩
      · cases r2 with
        | error e => exact hr2
        | ok f2 =>
          cases f2 with
          | ret r =>
            obtain ⟨rfl, h', tk, c', rfl, T, p, k⟩ := hr2
            repeat (any_goals (first | assumption | wp_step))
            exact h _ _ _ T p k
          | _ => exact hr2.elim
    | _ => exact hr.elim
end


section
variable {X : Cx}
def rSetLI (w : World) (K : PySem.W.Frag) : List V → Hp → VK → Prop := fun vs H Q => ∃ (b : Addr) (xs : List Int), vs = [V.ref b] ∧ SqL K H b (xs.map V.int) ∧ xs.length + 1 < scanBound ∧
  ∀ (p : Addr) (c : Nat), ((∀ z, (∀ x ∈ xs, x = z) → c ≤ 1) ∧ (∀ x ∈ xs, ∀ y ∈ xs, x ≠ y → 2 ≤ c)) → H p = none → Q (.ref p) (upd H p (SetO w p (fun j => decide (j ∈ xs)) c))
theorem one_at_most {l : List Int} {z : Int} (d : l.Nodup) (h : ∀ x ∈ l, x = z) : l.length ≤ 1 := by
  match l, d, h with
  | [], _, _ => exact Nat.zero_le _
  | [_], _, _ => exact Nat.le_refl _
  | a :: b :: r, d, h =>
    have e1 := h a List.mem_cons_self
    have e2 := h b (List.mem_cons_of_mem _ List.mem_cons_self)
    exact absurd (e1.trans e2.symm) ((List.nodup_cons.mp d).1 ∘ fun e => e ▸ List.mem_cons_self)
theorem two_at_least {l : List Int} {x y : Int} (hx : x ∈ l) (hy : y ∈ l) (h : x ≠ y) : 2 ≤ l.length := by
  match l, hx, hy with
  | [a], hx, hy => exact absurd ((List.mem_singleton.mp hx).trans (List.mem_singleton.mp hy).symm) h
  | a :: b :: r, _, _ => exact Nat.succ_le_succ (Nat.succ_le_succ (Nat.zero_le _))
theorem cr_setLI (hc : X.calm = true) : CallR X (.type "set") (rSetLI X.w X.K) := by
  intro pins s σ H vs us Q I r h
  obtain ⟨b, xs, rfl, hq, few, q⟩ := h
  rw [Vals.ref1 r]
  obtain ⟨its, r, pl, hz⟩ := I.list hq
  refine set_listI xs (I.ok.hd hc) pl.isList (by simpa using Vals.ints r) few fun h' tk c R _ k => ?_
  refine ⟨.ref s.heap.objs.size, upd H s.heap.objs.size (SetO X.w s.heap.objs.size (fun j => decide (j ∈ xs)) c), I.laid (t' := tk) k (Nat.le_refl _) ?_, rfl, q _ c ⟨fun z hz => ?_, fun x hx y hy hxy => ?_⟩ (I.hok.fresh (Nat.le_refl _))⟩
  · exact setO_new R
  · obtain ⟨o, es, ep, t, _, _, _, _, nd, mem, _, _, sz, _⟩ := R
    have := one_at_most nd fun x hx => hz x (of_decide_eq_true ((mem x).mpr hx))
    rw [List.length_map, Array.length_toList, sz] at this
    exact this
  · obtain ⟨o, es, ep, t, _, _, _, _, nd, mem, _, _, sz, _⟩ := R
    have := two_at_least ((mem x).mp (decide_eq_true hx)) ((mem y).mp (decide_eq_true hy)) hxy
    rw [List.length_map, Array.length_toList, sz] at this
    exact this
def rLenLI (w : World) : List V → Hp → VK → Prop := fun vs H Q => ∃ (a : Addr) (S : Int → Bool) (c : Nat), vs = [V.ref a] ∧ H a = some (SetO w a S c) ∧ Q (.int c) H
theorem cr_lenLI : CallR X (.builtin "len") (rLenLI X.w) := by
  intro pins s σ H vs us Q I r h
  obtain ⟨a, S, c, rfl, ha, q⟩ := h
  rw [Vals.ref1 r]
  obtain ⟨o, es, ep, t, ho, ex, hd, _, _, _, few, fits, sz, _⟩ := setO_get I ha
  exact call_len_set (es := es) (ep := ep) (t := t) ho ex hd fits (by have h : es.size < scanBound := few; unfold scanBound at h; omega) ⟨.int c, H, I.tok _, ⟨_, by rw [sz]⟩, q⟩
end
end XI
namespace XI
open PySem PySem.Spec PyProof.Rows L2
/-! ## sets of ints: made of a list, asked, sorted -/
section
variable {X : Cx}
def rSetLN (w : World) (K : PySem.W.Frag) : List V → Hp → VK → Prop := fun vs H Q => ∃ (b : Addr) (xs : List Int), vs = [V.ref b] ∧ SqL K H b (xs.map V.int) ∧ xs.length + 1 < scanBound ∧
  ∀ (p : Addr) (c : Nat), c ≤ xs.length → H p = none → Q (.ref p) (upd H p (SetO w p (fun j => decide (j ∈ xs)) c))
theorem cr_setLN (hc : X.calm = true) : CallR X (.type "set") (rSetLN X.w X.K) := by
  intro pins s σ H vs us Q I r h
  obtain ⟨b, xs, rfl, hq, few, q⟩ := h
  rw [Vals.ref1 r]
  obtain ⟨its, r, pl, hz⟩ := I.list hq
  refine set_listI xs (I.ok.hd hc) pl.isList (by simpa using Vals.ints r) few fun h' tk c R hle k => ?_
  exact ⟨.ref s.heap.objs.size, upd H s.heap.objs.size (SetO X.w s.heap.objs.size (fun j => decide (j ∈ xs)) c), I.laid (t' := tk) k (Nat.le_refl _) (setO_new R), rfl, q _ c hle (I.hok.fresh (Nat.le_refl _))⟩
def rInI (w : World) : V → V → Hp → VK → Prop := fun x y H Q => ∃ (k : Int) (a : Addr) (S : Int → Bool) (n : Nat), x = .int k ∧ y = .ref a ∧ H a = some (SetO w a S n) ∧ Q (.bl (S k)) H
theorem op_inI : OpR X (compareOp .In) (rInI X.w) := by
  intro pins s σ H x y v u Q I rx ry h
  obtain ⟨k, a, S, n, rfl, rfl, ha, q⟩ := h
  obtain ⟨t, rfl⟩ := rx
  obtain rfl : u = Value.ref a := ry
  exact wpAny_inSet_of (knd := intKind X.prog X.w) (k := k) (by simp [intKind, Value.isInt]) rfl (setO_get I ha).setOf ⟨.bl (S k), H, I.tok _, rfl, q⟩
def rSortSI (w : World) : List V → Hp → VK → Prop := fun vs H Q => ∃ (a : Addr) (S : Int → Bool) (n : Nat), vs = [V.ref a] ∧ H a = some (SetO w a S n) ∧ n < 64 ∧
  ∀ (p : Addr) (ns : List Int), H p = none → ns.Pairwise (· < ·) → (∀ k, k ∈ ns ↔ S k = true) → ns.length = n → Q (.ref p) (upd H p (.lst (ns.map V.int)))
theorem cr_sortSI (hc : X.calm = true) : CallR X (.builtin "sorted") (rSortSI X.w) := by
  intro pins s σ H vs us Q I r h
  obtain ⟨a, S, n, rfl, ha, h64, q⟩ := h
  rw [Vals.ref1 r]
  refine sorted_set (setO_get I ha) (I.ok.hd hc) h64 fun s' p out c ns k hg ho hp hl hi pw mem len => ?_
  obtain ⟨hh, gg, dd, tk, os⟩ := s'
  simp only at hg ho hl k
  subst hg; subst ho
  have J := I.laid (h' := hh) (t' := tk) k hp (o := .lst (ns.map V.int)) ⟨by rw [List.length_map, sizeLine_eq]; omega, out.toList, c, vals_of_ints hi, by rw [Array.toArray_toList]; exact hl⟩
  exact ⟨.ref p, _, ⟨J.ok, J.os, J.bare, J.base, J.loc, J.cell, J.free, J.freeC, J.pin, J.hok, J.len⟩, rfl, q p ns (I.hok.fresh hp) pw mem len⟩
end
end XI
namespace G
open PySem PySem.Spec PyProof.Rows L2 Evl TL
/-! ## a class called by the name that holds it -/
section
variable {X : Cx} {CX : CXT} {k i : Nat} {f C : Addr} {fd : FuncData} {ps : List Str} {sp : Sp} {dvs : List V} {ds : List Value} {E : XK} {x : Str} {p pos : Pos} {e : Expr} {es : List Expr} {t : TA}
def tMakeL (i : Nat) (C : Addr) (sp : Sp) (dvs : List V) (E : XK) (t : TA) : TE := fun σ H Q => σ[i]? = some (some (.ref C)) ∧ tMakeX C sp dvs (fun _ => E) t σ H Q
theorem pe_makeL (M : Mk X.K C f) (Fk : FnOk X.prog X.w X.K X.mg X.base CX k f fd ps sp) (rm : Room (k + 1) X.A) (hN : X.N[i]? = some x) (hv : Vis X.env.scope x) (bd : Binds X.K fd ps ds) (dv : Vals dvs ds) (px : Passes CX X E) (pa : PA X (e :: es) t)
    (hdb : (x == ("__debug__" : Str)) = false := by decide) (hcd : (x == ("__classdict__" : Str)) = false := by decide)
    (hs1 : starEach (e :: es) X.env = (false, eval e X.env) :: starEach es X.env := by rfl) (hs2 : (backTo pos (starEach es X.env)).any (·.1) = false := by rfl) : PE X (.Call (.Name x p) (e :: es) [] pos) (tMakeL i C sp dvs E t) := by
  refine ⟨fun pins s σ H Q I h => ?_⟩
  obtain ⟨hs, ht⟩ := h
  refine wpAny_Call_Name_kw (thn ((pe_var (pos := p) hN hv hdb hcd).run pins s σ H (fun v H1 => v = .ref C ∧ H1 = H) I ⟨.ref C, hs, rfl, rfl⟩) fun u s1 ⟨v, H1, I1, r1, q1⟩ => ?_)
  obtain ⟨rfl, rfl⟩ := q1
  cases r1
  exact PySem.W.callWith_K (h₀ := X.base) I.ok.mod.kin M.kp (thn (pa.run pos pins s1 σ _ _ I1 ht) fun us st1 ⟨vs, H1, I1, r, q⟩ => ⟨I1.kIn, run_makeX (E := fun _ => E) M Fk rm bd dv (fun pins H s e s' I z => px pins σ H s e s' I z) I1 r q⟩) hs1 hs2
end
/-! ## look_up of a pair -/
def bsum (bs : List Bool) : Nat → Nat
  | 0 => 0
  | n + 1 => bsum bs n + if bs.getD n false then 2 ^ n else 0
def op2 (tab : List Bool) (l r : Bool) : Bool := tab.getD (bsum [l, r] 2) false
structure TxtV (mg : Str → Option Value) : Prop where
  sum : mg "sum" = none
  enumerate : mg "enumerate" = none
  set : mg "set" = none
  sorted : mg "sorted" = none
  list : mg "list" = none
section
variable {P : Program} {w : World} {K : PySem.W.Frag} {mg : Str → Option Value} {base : Heap}
def spLook2 (K : PySem.W.Frag) : Sp := fun vs H Q _ => ∃ (t b : Addr) (tab : List Bool) (l r : Bool), vs = [.ref t, .ref b] ∧ SqT K H t (tab.map V.bl) ∧ H b = some (.tup [.bl l, .bl r]) ∧ tab.length = 4 ∧ ∀ H', Ex H H' → Q (.bl (op2 tab l r)) H'
theorem sc_look_up : FnScope ["table", "bits", "k", "bit"] ["table", "bits"] (defScope s_look_up) := ⟨rfl, rfl, rfl, by decide +kernel, rfl, by decide +kernel, by decide +kernel⟩
theorem ok_look_up2 (D : Dfd K mg "look_up" s_look_up ["table", "bits"]) (T : TxtV mg) : Has P w K mg base 1 "look_up" ["table", "bits"] (spLook2 K) := by
  refine D.has fun f fd F => F.ok sc_look_up (fun vs H Q E h => ?_) (fun cdv A outer s H vs Q E hr h => ?_)
  · obtain ⟨t, b, tab, l, r, rfl, _⟩ := h
    rfl
  · obtain ⟨t, b, tab, l, r, rfl, ht, hb, htl, q⟩ := h
    refine ⟨_, (pss_one (ps_ret (pe_ix ix_tup (pv 0) (pe_callB (cr_sum rfl) (by rfl) T.sum (by decide +kernel) (pa_cons (pe_lc (own := [("k", 2), ("bit", 3)]) (g := gTup K 2 (gCons (gName 2) (gCons (gName 3) gNil))) (tt := _) rfl sc_look_up.nd (pi_enumT (by rfl) T.enumerate (pa_cons (pv 1) pa_nil)) (blkOk_by (N := ["table", "bits", "k", "bit"]) (sc := defScope s_look_up) (own := [("k", 2), ("bit", 3)]) (by decide +kernel)) (fun _ _ _ _ _ => (pg_tup rfl (pgs_cons (pg_name (i := 2) sc_look_up.nd rfl (.inl rfl)) (pgs_cons (pg_name (i := 3) sc_look_up.nd rfl (.inl rfl)) pgs_nil)))) (fun _ _ _ _ _ => pts_one (pt_val (pv 3))) (fun _ _ _ _ _ => (pe_op op_shl pe_int (pv 2)))) pa_nil)) (fun _ _ => rfl)))), ?_⟩
    obtain ⟨bs, ebs⟩ : ∃ bs : List Bool, bs = [l, r] := ⟨_, rfl⟩
    have hb' : H b = some (.tup (bs.map V.bl)) := by rw [ebs]; exact hb
    have hbl : bs.length = 2 := by rw [ebs]; rfl
    have lt4 : bsum bs 2 < 4 := by
      rw [ebs]
      cases l <;> cases r <;> decide
    have eop : op2 tab l r = tab.getD (bsum bs 2) false := by rw [ebs]; rfl
    rw [eop] at q
    clear ebs eop hb
    refine ⟨_, rfl, _, rfl, b, _, rfl, SqT.of hb', fun L nL => wk_it walk_enumT (fun j H' => Ex H H' ∧ ∃ ns : List Int, H' L = some (.lst (ns.map V.int)) ∧ ns.length ≤ j ∧ ns.sum = ((bsum bs j : Nat) : Int)) ⟨Ex.new nL, [], upd_same, Nat.le_refl _, rfl⟩ (fun j H' _ g => SqT.of (g.1 _ _ hb')) ?_ ?_⟩
    · rintro j x H1 H2 hj ⟨E1, ns, hL, hnl, hs⟩ ⟨T1, x0, y0, rfl, nT, rfl, hx0, hy0⟩
      rw [List.length_map, hbl] at hj
      cases hx0
      obtain ⟨c, hc, rfl⟩ : ∃ c, bs[j]? = some c ∧ y0 = .bl c := by
        have hy1 : (bs.map V.bl)[j]? = some y0 := hy0
        rw [List.getElem?_map, List.getElem?_eq_getElem (by omega)] at hy1
        exact ⟨_, List.getElem?_eq_getElem (by omega), (Option.some.inj hy1).symm⟩
      have E2 : Ex H1 (upd H1 T1 (.tup [.int (j : Nat), .bl c])) := Ex.new nT
      refine ⟨T1, _, rfl, SqT.of upd_same, rfl, _, _, rfl, _, _, rfl, rfl, rfl, ?_⟩
      simp only [wipe, _root_.L2.start, List.map_cons, List.map_nil, List.length_cons, List.length_nil, Nat.reduceAdd, Nat.reduceSub, List.replicate_succ, List.replicate_zero, List.cons_append, List.nil_append, List.set_cons_zero, List.set_cons_succ]
      have hL2 := E2 _ _ hL
      generalize upd H1 T1 (.tup [.int (j : Nat), .bl c]) = H2 at *
      have hgc : bs.getD j false = c := by rw [List.getD_eq_getElem?_getD, hc]; rfl
      have eS : bsum bs (j + 1) = bsum bs j + if bs.getD j false then 2 ^ j else 0 := rfl
      refine ⟨_, rfl, _, rfl, ite2 (fun c1 => ?_) (fun c1 => ?_)⟩
      · refine ⟨_, rfl, _, _, rfl, rfl, ⟨by omega, by omega, by decide⟩, _, hL2, sz_lt (by rw [List.length_map]; omega), (E1.trans E2).mut nL, ns ++ [((2 ^ j : Nat) : Int)], ?_, by rw [List.length_append]; show _ + 1 ≤ _; omega, ?_⟩
        · rw [upd_same, List.map_append]
          have : (1 : Int) * 2 ^ ((j : Nat) : Int).toNat = ((2 ^ j : Nat) : Int) := by
            rw [Int.toNat_natCast, Int.one_mul]
            exact (Int.natCast_pow 2 j).symm
          show some (HO.lst (ns.map V.int ++ [V.int ((1 : Int) * 2 ^ ((j : Nat) : Int).toNat)])) = _
          rw [this]; rfl
        · rw [List.sum_append, hs, eS, hgc, c1, List.sum_singleton]
          show ((bsum _ j : Nat) : Int) + _ = ((bsum _ j + 2 ^ j : Nat) : Int)
          rw [Int.natCast_add]
      · refine ⟨E1.trans E2, ns, hL2, by omega, ?_⟩
        rw [hs, eS, hgc, if_neg c1]; rfl
    rintro H1 ⟨E1, ns, hL, hnl, hs⟩
    rw [List.length_map, hbl] at hs
    refine ⟨L, ns, rfl, SqL.of hL, _, _, _, _, rfl, rfl, ex_t E1 ht, at_of (j := bsum bs 2) hs (by rw [List.getElem?_map, List.getElem?_eq_getElem (by omega)]; rfl), ?_⟩
    have : tab[bsum bs 2]'(by omega) = tab.getD (bsum bs 2) false := by
      rw [List.getD_eq_getElem?_getD, List.getElem?_eq_getElem (by omega)]; rfl
    rw [this]
    exact q H1 E1
/-! ## shifted, negated, compared -/
def spWShift (C : Addr) : Sp := fun vs H Q _ => ∃ (x L : Addr) (st : Bool) (ts : List Int) (by_ : Int), vs = [.ref x, .int by_] ∧ WaveAt C H x L st ts ∧ ts.length ≤ 100 ∧ ts.Pairwise (· < ·) ∧
  ∀ (y M : Addr) (H' : Hp), Ex H H' → WaveAt C H' y M st (ts.map fun t => t + by_) → Q (.ref y) H'
theorem sc_Waveform_shifted : FnScope ["self", "by", "time"] ["self", "by"] (defScope s_Waveform_shifted) := ⟨rfl, rfl, rfl, by decide +kernel, rfl, by decide +kernel, by decide +kernel⟩
theorem ok_Waveform_shifted {C B : Addr} {f f0 : Addr} {fd d0 : FuncData} (F : Fun K "shifted" "Waveform.shifted" s_Waveform_shifted f fd) (W : Cl_Waveform K mg C)
    (Mk_Waveform : Mk K C f0) (G_Waveform_init : FnOk P w K mg base (L2.CX P w) 2 f0 d0 ["self", "start", "changes"] (spWInit C B)) (b_Waveform_init : Binds K d0 ["self", "start", "changes"] []) : FnOk P w K mg base CX0 4 f fd ["self", "by"] (spWShift C) := by
  have g_Waveform := W.gC
  refine F.ok sc_Waveform_shifted (fun vs H Q E h => ?_) (fun cdv A outer s H vs Q E hr h => ?_)
  · obtain ⟨x, L, st, ts, by_, rfl, _⟩ := h
    rfl
  · obtain ⟨x, L, st, ts, by_, rfl, ⟨⟨dx, h1⟩, h2⟩, hn, hp, q⟩ := h
    refine ⟨_, (pss_one (ps_ret (pe_make Mk_Waveform G_Waveform_init (hr.mono (by omega)) (by rfl) g_Waveform b_Waveform_init .nil passX0 (pa_cons (pe_fld (pv 0) rfl) (pa_cons (pe_lc (own := [("time", 2)]) (g := gName 2) (tt := tYes) rfl sc_Waveform_shifted.nd (pi_list (pe_fld (pv 0) rfl)) (blkOk_by (N := ["self", "by", "time"]) (sc := defScope s_Waveform_shifted) (own := [("time", 2)]) (by decide +kernel)) (fun _ _ _ _ _ => (pg_name (i := 2) sc_Waveform_shifted.nd rfl (.inl rfl))) (fun _ _ _ _ _ => pts_nil) (fun _ _ _ _ _ => (pe_op op_add (pv 2) (pv 1)))) pa_nil))))), ?_⟩
    refine ⟨_, rfl, x, C, dx, _, _, rfl, h1, W.cl, W.n_start, wfl_start _ _, _, rfl, x, C, dx, _, _, rfl, h1, W.cl, W.n_changes, wfl_changes _ _, L, rfl, ⟨_, SqL.of h2⟩, fun L3 nL3 => wk_list (K := K) (a := L) (xs := ts.map V.int) (fun j H2 => Ex H H2 ∧ H2 L3 = some (.lst (((ts.take j).map fun t => t + by_).map V.int))) ⟨Ex.new nL3, upd_same⟩ (fun j H2 _ g => SqL.of (g.1 _ _ h2)) ?_ ?_⟩
    · rintro j y H2 hy ⟨E2, hL2⟩
      rw [List.getElem?_map] at hy
      cases ht : ts[j]? with
      | none => rw [ht] at hy; cases hy
      | some t =>
        rw [ht] at hy
        cases hy
        have hj : j < ts.length := (List.getElem?_eq_some_iff.mp ht).1
        refine ⟨rfl, tYes_in ?_⟩
        simp only [wipe, _root_.L2.start, List.map_cons, List.map_nil, List.length_cons, List.length_nil, Nat.reduceAdd, Nat.reduceSub, List.replicate_succ, List.replicate_zero, List.cons_append, List.nil_append, List.set_cons_zero, List.set_cons_succ]
        refine ⟨_, rfl, _, rfl, _, _, rfl, rfl, _, hL2, sz_lt (by rw [List.length_map, List.length_map, List.length_take]; omega), E2.mut nL3, ?_⟩
        rw [upd_same, take_snoc1 ht, List.map_append, List.map_append]; rfl
    · rintro H2 ⟨E2, hL2⟩
      rw [List.length_map, List.take_length] at hL2
      have hasc : ascB (ts.map fun t => t + by_) = true := ascB_pw (by rw [List.pairwise_map]; exact hp.imp fun z => by omega)
      refine fun y dy ny nd ne => ⟨y, dy, L3, st, _, rfl, upd_same, made_old ny nd hL2, by rw [List.length_map]; omega, fun _ M H5 nM eb hW => ⟨rfl, q y M H5 (E2.trans (ExBut.made ny nd eb)) hW⟩, fun hbad _ _ => ?_⟩
      rw [hasc] at hbad; cases hbad
def spWInv (C : Addr) : Sp := fun vs H Q _ => ∃ (x L : Addr) (st : Bool) (ts : List Int), vs = [.ref x] ∧ WaveAt C H x L st ts ∧ ts.length ≤ 100 ∧ ts.Pairwise (· < ·) ∧
  ∀ (y M : Addr) (H' : Hp), Ex H H' → WaveAt C H' y M (!st) ts → Q (.ref y) H'
theorem sc_Waveform_invert : FnScope ["self"] ["self"] (defScope s_Waveform_invert) := ⟨rfl, rfl, rfl, by decide +kernel, rfl, by decide +kernel, by decide +kernel⟩
theorem ok_Waveform_invert {C B : Addr} {f f0 : Addr} {fd d0 : FuncData} (F : Fun K "__invert__" "Waveform.__invert__" s_Waveform_invert f fd) (W : Cl_Waveform K mg C)
    (Mk_Waveform : Mk K C f0) (G_Waveform_init : FnOk P w K mg base (L2.CX P w) 2 f0 d0 ["self", "start", "changes"] (spWInit C B)) (b_Waveform_init : Binds K d0 ["self", "start", "changes"] []) : FnOk P w K mg base CX0 4 f fd ["self"] (spWInv C) := by
  have g_Waveform := W.gC
  refine F.ok sc_Waveform_invert (fun vs H Q E h => ?_) (fun cdv A outer s H vs Q E hr h => ?_)
  · obtain ⟨x, L, st, ts, rfl, _⟩ := h
    rfl
  · obtain ⟨x, L, st, ts, rfl, ⟨⟨dx, h1⟩, h2⟩, hn, hp, q⟩ := h
    refine ⟨_, (pss_one (ps_ret (pe_make Mk_Waveform G_Waveform_init (hr.mono (by omega)) (by rfl) g_Waveform b_Waveform_init .nil passX0 (pa_cons (pe_not (pe_fld (pv 0) rfl)) (pa_cons (pe_fld (pv 0) rfl) pa_nil))))), ?_⟩
    refine ⟨_, rfl, x, C, dx, _, _, rfl, h1, W.cl, W.n_start, wfl_start _ _, _, rfl, _, rfl, x, C, dx, _, _, rfl, h1, W.cl, W.n_changes, wfl_changes _ _, ?_⟩
    refine fun y dy ny nd ne => ⟨y, dy, L, !st, ts, rfl, upd_same, made_old ny nd h2, by omega, fun _ M H5 nM eb hW => ⟨rfl, q y M H5 (ExBut.made ny nd eb) hW⟩, fun hbad _ _ => ?_⟩
    rw [ascB_pw hp] at hbad; cases hbad
theorem shaped_ints (l : List Int) : SeqAt.shaped (.list (l.map PyData.int)) = true := by
  have : PyData.canLayAll0 (l.map PyData.int) = true ∧ PyData.depthAll (l.map PyData.int) = 0 := by
    induction l with
    | nil => exact ⟨rfl, rfl⟩
    | cons x xs ih => exact ⟨by show (true && PyData.canLayAll0 _) = true; rw [ih.1]; rfl, by show max 0 (PyData.depthAll _) = 0; rw [ih.2]; rfl⟩
  simp [SeqAt.shaped, PyData.canLay0, PyData.depth, this.1, this.2]
theorem shaped_bls (l : List Bool) : SeqAt.shaped (.list (l.map PyData.bool)) = true := by
  have : PyData.canLayAll0 (l.map PyData.bool) = true ∧ PyData.depthAll (l.map PyData.bool) = 0 := by
    induction l with
    | nil => exact ⟨rfl, rfl⟩
    | cons x xs ih => exact ⟨by show (true && PyData.canLayAll0 _) = true; rw [ih.1]; rfl, by show max 0 (PyData.depthAll _) = 0; rw [ih.2]; rfl⟩
  simp [SeqAt.shaped, PyData.canLay0, PyData.depth, this.1, this.2]
theorem dp_bls {K : PySem.W.Frag} {H : Hp} {a : Addr} {l : List Bool} (h : H a = some (.lst (l.map V.bl))) : Dp K H (.ref a) (.list (l.map PyData.bool)) := .lst (SqL.of h) (dpAll_map (fun x => .bl x) l)
theorem eqv_ints : ∀ l m : List Int, PyData.eqv (.list (l.map PyData.int)) (.list (m.map PyData.int)) = decide (l = m) := by
  have key : ∀ l m : List Int, PyData.eqvAll (l.map PyData.int) (m.map PyData.int) = decide (l = m) := fun l => by
    induction l with
    | nil => intro m; cases m <;> simp [PyData.eqvAll]
    | cons x r ih =>
      intro m
      cases m with
      | nil => simp [PyData.eqvAll]
      | cons y s =>
        have e : (x == y) = decide (x = y) := by rw [Bool.eq_iff_iff]; simp
        simp only [List.map_cons, PyData.eqvAll, PyData.eqv, ih s, List.cons.injEq, Bool.decide_and, e]
  intro l m
  simp only [PyData.eqv, key]
theorem eqv_bls : ∀ l m : List Bool, PyData.eqv (.list (l.map PyData.bool)) (.list (m.map PyData.bool)) = decide (l = m) := by
  have key : ∀ l m : List Bool, PyData.eqvAll (l.map PyData.bool) (m.map PyData.bool) = decide (l = m) := fun l => by
    induction l with
    | nil => intro m; cases m <;> simp [PyData.eqvAll]
    | cons x r ih =>
      intro m
      cases m with
      | nil => simp [PyData.eqvAll]
      | cons y s =>
        have e : (x == y) = decide (x = y) := by rw [Bool.eq_iff_iff]; simp
        simp only [List.map_cons, PyData.eqvAll, PyData.eqv, ih s, List.cons.injEq, Bool.decide_and, e]
  intro l m
  simp only [PyData.eqv, key]
def spWSame (C : Addr) : Sp := fun vs H Q _ => ∃ (x L y M : Addr) (st st' : Bool) (ts ts' : List Int), vs = [.ref x, .ref y] ∧ WaveAt C H x L st ts ∧ WaveAt C H y M st' ts' ∧ Q (.bl (decide (st = st') && decide (ts = ts'))) H
theorem sc_Waveform_same_as : FnScope ["self", "other"] ["self", "other"] (defScope s_Waveform_same_as) := ⟨rfl, rfl, rfl, by decide +kernel, rfl, by decide +kernel, by decide +kernel⟩
theorem ok_Waveform_same_as {C : Addr} {f : Addr} {fd : FuncData} (F : Fun K "same_as" "Waveform.same_as" s_Waveform_same_as f fd) (W : Cl_Waveform K mg C) : FnOk P w K mg base CX0 1 f fd ["self", "other"] (spWSame C) := by
  refine F.ok sc_Waveform_same_as (fun vs H Q E h => ?_) (fun cdv A outer s H vs Q E hr h => ?_)
  · obtain ⟨x, L, y, M, st, st', ts, ts', rfl, _⟩ := h
    rfl
  · obtain ⟨x, L, y, M, st, st', ts, ts', rfl, ⟨⟨dx, h1⟩, h2⟩, ⟨⟨dy, h3⟩, h4⟩, q⟩ := h
    refine ⟨_, (pss_one (ps_ret (pe_and (pe_cmpR op_eq (pe_fld (pv 0) rfl) (pe_fld (pv 1) rfl) (nomark _)) (pe_one (pe_cmpR (op_eqD hr.units) (pe_fld (pv 0) rfl) (pe_fld (pv 1) rfl) (nomark _)))))), ?_⟩
    refine ⟨_, rfl, x, C, dx, _, _, rfl, h1, W.cl, W.n_start, wfl_start _ _, _, rfl, y, C, dy, _, _, rfl, h3, W.cl, W.n_start, wfl_start _ _, rfl, _, rfl, ?_⟩
    rw [bl_eq]
    cases hd : decide (st = st') with
    | false =>
      rw [hd] at q
      exact iteF q
    | true =>
      rw [hd] at q
      refine iteT ⟨_, rfl, x, C, dx, _, _, rfl, h1, W.cl, W.n_changes, wfl_changes _ _, _, rfl, y, C, dy, _, _, rfl, h3, W.cl, W.n_changes, wfl_changes _ _, _, _, dp_ints (SqL.of h2), dp_ints (SqL.of h4), shaped_ints _, shaped_ints _, ?_⟩
      rw [eqv_ints]; exact q
end
end G
namespace G
open PySem PySem.Spec PyProof.Rows L2 Evl TL
theorem kSetLN {X : Cx} {w : World} {K : PySem.W.Frag} (h : X.w = w) (h2 : X.K = K) (hc : X.calm = true) : CallR X (.type "set") (XI.rSetLN w K) := by subst h h2; exact XI.cr_setLN hc
theorem kSortSI {X : Cx} {w : World} (h : X.w = w) (hc : X.calm = true) : CallR X (.builtin "sorted") (XI.rSortSI w) := by subst h; exact XI.cr_sortSI hc
theorem kInI {X : Cx} {w : World} (h : X.w = w) : OpR X (compareOp .In) (XI.rInI w) := by subst h; exact XI.op_inI
theorem neb (a b : Bool) : (!decide (V.bl a = V.bl b)) = (a != b) := by cases a <;> cases b <;> rfl
section
variable {P : Program} {w : World} {K : PySem.W.Frag} {mg : Str → Option Value} {base : Heap}
/-- the waveform made of x and y by the table -/
def CombQ (C : Addr) (tab : List Bool) (st1 st2 : Bool) (ts1 ts2 : List Int) (H : Hp) (Q : VK) : Prop := ∀ (z M : Addr) (us : List Int) (H' : Hp), Ex H H' → us.Pairwise (· < ·) → (∀ u, u ∈ us ↔ u ∈ ts1 ∨ u ∈ ts2) → us.length ≤ 40 →
  WaveAt C H' z M (op2 tab st1 st2) (cmbL (op2 tab) st1 st2 ts1 ts2 us) → Q (.ref z) H'
def spWComb (K : PySem.W.Frag) (C : Addr) : Sp := fun vs H Q _ => ∃ (x L y M t : Addr) (tab : List Bool) (st1 st2 : Bool) (ts1 ts2 : List Int), vs = [.ref x, .ref y, .ref t] ∧ WaveAt C H x L st1 ts1 ∧ WaveAt C H y M st2 ts2 ∧ ts1.length ≤ 20 ∧ ts2.length ≤ 20 ∧ ts1.Pairwise (· < ·) ∧ ts2.Pairwise (· < ·) ∧
  (∀ H', Ex H H' → SqT K H' t (tab.map V.bl)) ∧ tab.length = 4 ∧ CombQ C tab st1 st2 ts1 ts2 H Q
theorem sc_Waveform_combined : FnScope ["self", "other", "table", "lefts", "rights", "left", "right", "value", "start", "changes", "time"] ["self", "other", "table"] (defScope s_Waveform_combined) := ⟨rfl, rfl, rfl, by decide +kernel, rfl, by decide +kernel, by decide +kernel⟩
theorem ok_Waveform_combined {C B : Addr} {f f0 : Addr} {fd d0 : FuncData} (F : Fun K "_combined" "Waveform._combined" s_Waveform_combined f fd) (W : Cl_Waveform K mg C) (T : TxtV mg) (C1 : Has P w K mg base 1 "look_up" ["table", "bits"] (spLook2 K))
    (Mk_Waveform : Mk K C f0) (G_Waveform_init : FnOk P w K mg base (L2.CX P w) 2 f0 d0 ["self", "start", "changes"] (spWInit C B)) (b_Waveform_init : Binds K d0 ["self", "start", "changes"] []) : FnOk P w K mg base CX0 4 f fd ["self", "other", "table"] (spWComb K C) := by
  have g_Waveform := W.gC
  obtain ⟨f_look_up, d_look_up, G_look_up, g_look_up, k_look_up, b_look_up⟩ := C1
  refine F.ok sc_Waveform_combined (fun vs H Q E h => ?_) (fun cdv A outer s H vs Q E hr h => ?_)
  · obtain ⟨x, L, y, M, t, tab, st1, st2, ts1, ts2, rfl, _⟩ := h
    rfl
  · obtain ⟨x, L, y, M, t, tab, st1, st2, ts1, ts2, rfl, ⟨⟨dx, h1⟩, h2⟩, ⟨⟨dy, h3⟩, h4⟩, n1, n2, p1, p2, htb, htl, q⟩ := h
    refine ⟨_, (pss_cons (ps_set (i := 3) sc_Waveform_combined.nd rfl (.inl rfl) (pe_callTy (kSetLN (w := w) (K := K) rfl rfl rfl) (by rfl) T.set (by decide +kernel) (pa_cons (pe_fld (pv 0) rfl) pa_nil)))
    (pss_cons (ps_set (i := 4) sc_Waveform_combined.nd rfl (.inl rfl) (pe_callTy (kSetLN (w := w) (K := K) rfl rfl rfl) (by rfl) T.set (by decide +kernel) (pa_cons (pe_fld (pv 1) rfl) pa_nil)))
    (pss_cons (ps_set (i := 5) sc_Waveform_combined.nd rfl (.inl rfl) (pe_fld (pv 0) rfl))
    (pss_cons (ps_set (i := 6) sc_Waveform_combined.nd rfl (.inl rfl) (pe_fld (pv 1) rfl))
    (pss_cons (ps_set (i := 7) sc_Waveform_combined.nd rfl (.inl rfl) (pe_call G_look_up (hr.mono (by omega)) (by rfl) g_look_up k_look_up b_look_up .nil pass0 (pa_cons (pv 2) (pa_cons (pe_tup (pa_cons (pv 5) (pa_cons (pv 6) pa_nil))) pa_nil))))
    (pss_cons (ps_set (i := 8) sc_Waveform_combined.nd rfl (.inl rfl) (pv 7))
    (pss_cons (ps_set (i := 9) sc_Waveform_combined.nd rfl (.inl rfl) (pe_lst pa_nil))
    (pss_cons (ps_for PassesOwn.never rfl (pi_list (pe_callB (kSortSI (w := w) rfl rfl) (by rfl) T.sorted (by decide +kernel) (pa_cons (pe_callTy (kSetLN (w := w) (K := K) rfl rfl rfl) (by rfl) T.set (by decide +kernel) (pa_cons (pe_op op_cat (pe_fld (pv 0) rfl) (pe_fld (pv 1) rfl)) pa_nil)) pa_nil))) (pg_name (i := 10) sc_Waveform_combined.nd rfl (.inl rfl))
      (pss_cons (ps_set (i := 5) sc_Waveform_combined.nd rfl (.inl rfl) (pe_cmpR op_ne (pv 5) (pe_cmpR (kInI (w := w) rfl) (pv 10) (pv 3) (by rfl)) (nomark _)))
      (pss_cons (ps_set (i := 6) sc_Waveform_combined.nd rfl (.inl rfl) (pe_cmpR op_ne (pv 6) (pe_cmpR (kInI (w := w) rfl) (pv 10) (pv 4) (by rfl)) (nomark _)))
      (pss_one (ps_if (pt_cmpR op_ne (pe_call G_look_up (hr.mono (by omega)) (by rfl) g_look_up k_look_up b_look_up .nil pass0 (pa_cons (pv 2) (pa_cons (pe_tup (pa_cons (pv 5) (pa_cons (pv 6) pa_nil))) pa_nil))) (pv 7) (nomark _))
        (pss_cons (ps_set (i := 7) sc_Waveform_combined.nd rfl (.inl rfl) (pe_not (pv 7)))
        (pss_one (ps_expr (pe_bm PySem.F.plainAttrs_list PySem.F.slot_list_append PySem.F.type_list_append mt_append (pv 9) (pa_cons (pv 10) pa_nil)))))
        pss_nil)))))
    (pss_one (ps_ret (pe_make Mk_Waveform G_Waveform_init (hr.mono (by omega)) (by rfl) g_Waveform b_Waveform_init .nil passX0 (pa_cons (pv 8) (pa_cons (pv 9) pa_nil))))))))))))), ?_⟩
    refine ⟨_, rfl, x, C, dx, _, _, rfl, h1, W.cl, W.n_changes, wfl_changes _ _, _, ts1, rfl, SqL.of h2, by unfold scanBound; omega, fun a1 c1 hc1 na1 => ?_⟩
    have E1 : Ex H (upd H a1 (SetO w a1 (fun j => decide (j ∈ ts1)) c1)) := Ex.new na1
    have g1 : upd H a1 (SetO w a1 (fun j => decide (j ∈ ts1)) c1) a1 = some (SetO w a1 (fun j => decide (j ∈ ts1)) c1) := upd_same
    generalize upd H a1 (SetO w a1 (fun j => decide (j ∈ ts1)) c1) = H1 at *
    refine ⟨_, rfl, y, C, dy, _, _, rfl, E1 _ _ h3, W.cl, W.n_changes, wfl_changes _ _, _, ts2, rfl, SqL.of (E1 _ _ h4), by unfold scanBound; omega, fun a2 c2 hc2 na2 => ?_⟩
    have E2 : Ex H (upd H1 a2 (SetO w a2 (fun j => decide (j ∈ ts2)) c2)) := E1.trans (Ex.new na2)
    have g12 : upd H1 a2 (SetO w a2 (fun j => decide (j ∈ ts2)) c2) a1 = some (SetO w a1 (fun j => decide (j ∈ ts1)) c1) := Ex.new na2 _ _ g1
    have g2 : upd H1 a2 (SetO w a2 (fun j => decide (j ∈ ts2)) c2) a2 = some (SetO w a2 (fun j => decide (j ∈ ts2)) c2) := upd_same
    generalize upd H1 a2 (SetO w a2 (fun j => decide (j ∈ ts2)) c2) = H2 at *
    refine ⟨_, rfl, x, C, dx, _, _, rfl, E2 _ _ h1, W.cl, W.n_start, wfl_start _ _, _, rfl, y, C, dy, _, _, rfl, E2 _ _ h3, W.cl, W.n_start, wfl_start _ _, ?_⟩
    refine ⟨_, rfl, _, rfl, _, rfl, by show 2 ≤ sizeLine; decide, fun pt npt => ⟨t, pt, tab, st1, st2, rfl, htb _ (E2.trans (Ex.new npt)), upd_same, htl, fun H3 E3 => ?_⟩⟩
    have E3' := E2.trans ((Ex.new npt).trans E3)
    have g13 := E3 _ _ (Ex.new (o := .tup [.bl st1, .bl st2]) npt _ _ g12)
    have g23 := E3 _ _ (Ex.new (o := .tup [.bl st1, .bl st2]) npt _ _ g2)
    refine ⟨_, rfl, Nat.zero_le _, fun cl ncl => ?_⟩
    have hcl0 : upd H3 cl (.lst []) cl = some (.lst []) := upd_same
    have E4 : Ex H3 (upd H3 cl (.lst [])) := Ex.new ncl
    generalize upd H3 cl (.lst []) = H4 at *
    have e4 := E3'.trans E4
    refine ⟨_, rfl, x, C, dx, _, _, rfl, e4 _ _ h1, W.cl, W.n_changes, wfl_changes _ _, _, rfl, y, C, dy, _, _, rfl, e4 _ _ h3, W.cl, W.n_changes, wfl_changes _ _, L, M, _, _, rfl, rfl, e4 _ _ h2, e4 _ _ h4, sz_of (by rw [List.length_map, List.length_map]; omega), fun cc ncc => ?_⟩
    have hcc : upd H4 cc (.lst (ts1.map V.int ++ ts2.map V.int)) cc = some (.lst ((ts1 ++ ts2).map V.int)) := by rw [upd_same, List.map_append]
    have E5 : Ex H4 (upd H4 cc (.lst (ts1.map V.int ++ ts2.map V.int))) := Ex.new ncc
    generalize upd H4 cc (.lst (ts1.map V.int ++ ts2.map V.int)) = H5 at *
    refine ⟨_, ts1 ++ ts2, rfl, SqL.of hcc, by unfold scanBound; rw [List.length_append]; omega, fun a3 c3 hc3 na3 => ?_⟩
    rw [List.length_append] at hc3
    refine ⟨a3, _, c3, rfl, upd_same, by omega, fun ul us nul hus hmem hlen => ?_⟩
    have E6 : Ex H4 (upd (upd H5 a3 (SetO w a3 (fun j => decide (j ∈ ts1 ++ ts2)) c3)) ul (.lst (us.map V.int))) := (E5.trans (Ex.new na3)).trans (Ex.new nul)
    have hul : upd (upd H5 a3 (SetO w a3 (fun j => decide (j ∈ ts1 ++ ts2)) c3)) ul (.lst (us.map V.int)) ul = some (.lst (us.map V.int)) := upd_same
    have ncu : cl ≠ ul := ne_of_none (Ex.new na3 _ _ (E5 _ _ hcl0)) nul
    generalize upd (upd H5 a3 (SetO w a3 (fun j => decide (j ∈ ts1 ++ ts2)) c3)) ul (.lst (us.map V.int)) = H6 at *
    have hm : ∀ u, u ∈ us ↔ u ∈ ts1 ∨ u ∈ ts2 := fun u => by rw [hmem, decide_eq_true_iff, List.mem_append]
    have hs1 : ∀ u ∈ ts1, u ∈ us := fun u h => (hm u).mpr (.inl h)
    have hs2 : ∀ u ∈ ts2, u ∈ us := fun u h => (hm u).mpr (.inr h)
    refine ⟨ul, rfl, ⟨_, SqL.of hul⟩, for_list (K := K) (a := ul) (xs := us.map V.int)
      (fun i σ H' => Ex H3 H' ∧ H' ul = some (.lst (us.map V.int)) ∧ H' cl = some (.lst ((cmbL (op2 tab) st1 st2 ts1 ts2 (us.take i)).map V.int)) ∧ ∃ (l r : Bool) (z : Option V), Mid us i (wval st1 ts1) l ∧ Mid us i (wval st2 ts2) r ∧
        σ = [some (.ref x), some (.ref y), some (.ref t), some (.ref a1), some (.ref a2), some (.bl l), some (.bl r), some (.bl (op2 tab l r)), some (.bl (op2 tab st1 st2)), some (.ref cl), z])
      ⟨E4.trans E6, hul, E6 _ _ hcl0, st1, st2, _, Mid.zero hs1, Mid.zero hs2, rfl⟩ (fun i σ H' _ g => SqL.of g.2.1) ?_ ?_⟩
    · rintro i xv σ H7 hi ⟨E7, hul7, hcl7, l, r, z, m1, m2, rfl⟩
      rw [List.getElem?_map] at hi
      cases hu : us[i]? with
      | none => rw [hu] at hi; cases hi
      | some u =>
        rw [hu] at hi
        cases hi
        have hilt : i < us.length := (List.getElem?_eq_some_iff.mp hu).1
        obtain ⟨f1, f2, f3⟩ := m1.step p1 hus hs1 hu
        obtain ⟨f4, f5, f6⟩ := m2.step p2 hus hs2 hu
        refine ⟨_, rfl, _, rfl, _, rfl, u, a1, _, c1, rfl, rfl, E7 _ _ g13, rfl, _, rfl, _, rfl, _, rfl, u, a2, _, c2, rfl, rfl, E7 _ _ g23, rfl, ?_⟩
        rw [neb, neb]
        refine ⟨_, rfl, _, rfl, _, rfl, by show 2 ≤ sizeLine; decide, fun pt2 npt2 => ⟨t, pt2, tab, _, _, rfl, htb _ (E3'.trans (E7.trans (Ex.new npt2))), upd_same, htl, fun H8 E8 => ?_⟩⟩
        have E8' := (Ex.new (o := .tup [.bl (l != decide (u ∈ ts1)), .bl (r != decide (u ∈ ts2))]) npt2).trans E8
        generalize hl' : (l != decide (u ∈ ts1)) = l' at *
        generalize hr' : (r != decide (u ∈ ts2)) = r' at *
        have hF : F2 (op2 tab) st1 st2 ts1 ts2 u = op2 tab l' r' := by unfold F2; rw [f2, f5]
        have hF0 : F2 (op2 tab) st1 st2 ts1 ts2 (u - 1) = op2 tab l r := by unfold F2; rw [f1, f4]
        have hcl8 := E8' _ _ hcl7
        have hul8 := E8' _ _ hul7
        have e8 := E7.trans E8'
        refine ⟨_, rfl, rfl, _, rfl, ite2 (fun c => ?_) (fun c => ?_)⟩
        · have hne : op2 tab l' r' ≠ op2 tab l r := fun e => by rw [e, neb] at c; revert c; cases op2 tab l r <;> decide
          have hv : (!op2 tab l r) = op2 tab l' r' := by revert hne; cases op2 tab l r <;> cases op2 tab l' r' <;> decide
          refine ⟨_, rfl, _, rfl, ?_⟩
          rw [hv]
          refine ⟨_, rfl, .inl ⟨rfl, _, SqL.of hcl8⟩, _, rfl, cl, _, .int u, rfl, rfl, hcl8, sz_lt ?_, e8.mut ncl, ?_, ?_, l', r', _, f3, f6, rfl⟩
          · rw [List.length_map]
            have := List.length_filter_le (fun u => decide (F2 (op2 tab) st1 st2 ts1 ts2 u ≠ F2 (op2 tab) st1 st2 ts1 ts2 (u - 1))) (us.take i)
            rw [List.length_take] at this
            unfold cmbL
            omega
          · rw [upd_ne ncu.symm]; exact hul8
          · rw [upd_same, take_snoc1 hu]
            unfold cmbL
            rw [List.filter_append, List.map_append, List.filter_cons, if_pos (decide_eq_true (by rw [hF, hF0]; exact hne))]; rfl
        · have heq : op2 tab l' r' = op2 tab l r := by rw [neb] at c; revert c; cases op2 tab l r <;> cases op2 tab l' r' <;> simp
          refine ⟨e8, hul8, ?_, l', r', some (.int u), f3, f6, by rw [heq]; rfl⟩
          rw [hcl8, take_snoc1 hu]
          unfold cmbL
          rw [List.filter_append, List.filter_cons, if_neg (by rw [hF, hF0, heq]; simp), List.filter_nil, List.append_nil]
    · rintro σ H7 ⟨E7, hul7, hcl7, l, r, z, m1, m2, rfl⟩
      rw [List.length_map, List.take_length] at hcl7
      have hsh := cmb_shows (f := op2 tab) (st1 := st1) (st2 := st2) p1 p2 hus hm
      have hle : (cmbL (op2 tab) st1 st2 ts1 ts2 us).length ≤ us.length := List.length_filter_le _ _
      refine ⟨_, rfl, _, rfl, fun z dz nz nd ne => ⟨z, dz, cl, _, _, rfl, upd_same, made_old nz nd hcl7, by omega, fun _ M5 H8 nM eb hW => ⟨rfl, ?_⟩, fun hbad _ _ => ?_⟩⟩
      · exact q z M5 us H8 (E3'.trans (E7.trans (ExBut.made nz nd eb))) hus hm (by omega) hW
      · rw [ascB_pw hsh.asc] at hbad; cases hbad
/-- a & b, a | b, a ^ b -/
def spWOp (C : Addr) (tab : List Bool) : Sp := fun vs H Q _ => ∃ (x L y M : Addr) (st1 st2 : Bool) (ts1 ts2 : List Int), vs = [.ref x, .ref y] ∧ WaveAt C H x L st1 ts1 ∧ WaveAt C H y M st2 ts2 ∧ ts1.length ≤ 20 ∧ ts2.length ≤ 20 ∧ ts1.Pairwise (· < ·) ∧ ts2.Pairwise (· < ·) ∧ CombQ C tab st1 st2 ts1 ts2 H Q
/-- a table that the program names -/
def TabAt (K : PySem.W.Frag) (mg : Str → Option Value) (n : Str) (tab : List Bool) : Prop := ∃ a : Addr, mg n = some (.ref a) ∧ ∀ H : Hp, SqT K H a (tab.map V.bl)
theorem sc_Waveform_and : FnScope ["self", "other"] ["self", "other"] (defScope s_Waveform_and) := ⟨rfl, rfl, rfl, by decide +kernel, rfl, by decide +kernel, by decide +kernel⟩
theorem ok_Waveform_and {C : Addr} {f f1 : Addr} {fd d1 : FuncData} (F : Fun K "__and__" "Waveform.__and__" s_Waveform_and f fd) (W : Cl_Waveform K mg C) (tb : TabAt K mg "BOTH" [false, false, false, true])
    (M_Waveform_combined : Meth K C "_combined" f1) (G_Waveform_combined : FnOk P w K mg base CX0 4 f1 d1 ["self", "other", "table"] (spWComb K C)) (b_Waveform_combined : Binds K d1 ["self", "other", "table"] []) : FnOk P w K mg base CX0 5 f fd ["self", "other"] (spWOp C [false, false, false, true]) := by
  have c_Waveform := W.cl
  obtain ⟨t, g_BOTH, htb⟩ := tb
  refine F.ok sc_Waveform_and (fun vs H Q E h => ?_) (fun cdv A outer s H vs Q E hr h => ?_)
  · obtain ⟨x, L, y, M, st1, st2, ts1, ts2, rfl, _⟩ := h
    rfl
  · obtain ⟨x, L, y, M, st1, st2, ts1, ts2, rfl, hx, hy, n1, n2, p1, p2, q⟩ := h
    refine ⟨_, (pss_one (ps_ret (pe_meth (pv 0) c_Waveform M_Waveform_combined G_Waveform_combined (hr.mono (by omega)) b_Waveform_combined .nil pass0 (pa_cons (pv 1) (pa_cons (gRef rfl g_BOTH) pa_nil))))), ?_⟩
    obtain ⟨dx, h1⟩ := hx.ob
    exact ⟨_, rfl, x, dx, _, rfl, h1, wfl_no _ _ (by decide +kernel) (by decide +kernel), _, rfl, x, L, y, M, t, _, st1, st2, ts1, ts2, rfl, hx, hy, n1, n2, p1, p2, fun H' _ => htb H', rfl, q⟩
theorem sc_Waveform_or : FnScope ["self", "other"] ["self", "other"] (defScope s_Waveform_or) := ⟨rfl, rfl, rfl, by decide +kernel, rfl, by decide +kernel, by decide +kernel⟩
theorem ok_Waveform_or {C : Addr} {f f1 : Addr} {fd d1 : FuncData} (F : Fun K "__or__" "Waveform.__or__" s_Waveform_or f fd) (W : Cl_Waveform K mg C) (tb : TabAt K mg "EITHER" [false, true, true, true])
    (M_Waveform_combined : Meth K C "_combined" f1) (G_Waveform_combined : FnOk P w K mg base CX0 4 f1 d1 ["self", "other", "table"] (spWComb K C)) (b_Waveform_combined : Binds K d1 ["self", "other", "table"] []) : FnOk P w K mg base CX0 5 f fd ["self", "other"] (spWOp C [false, true, true, true]) := by
  have c_Waveform := W.cl
  obtain ⟨t, g_EITHER, htb⟩ := tb
  refine F.ok sc_Waveform_or (fun vs H Q E h => ?_) (fun cdv A outer s H vs Q E hr h => ?_)
  · obtain ⟨x, L, y, M, st1, st2, ts1, ts2, rfl, _⟩ := h
    rfl
  · obtain ⟨x, L, y, M, st1, st2, ts1, ts2, rfl, hx, hy, n1, n2, p1, p2, q⟩ := h
    refine ⟨_, (pss_one (ps_ret (pe_meth (pv 0) c_Waveform M_Waveform_combined G_Waveform_combined (hr.mono (by omega)) b_Waveform_combined .nil pass0 (pa_cons (pv 1) (pa_cons (gRef rfl g_EITHER) pa_nil))))), ?_⟩
    obtain ⟨dx, h1⟩ := hx.ob
    exact ⟨_, rfl, x, dx, _, rfl, h1, wfl_no _ _ (by decide +kernel) (by decide +kernel), _, rfl, x, L, y, M, t, _, st1, st2, ts1, ts2, rfl, hx, hy, n1, n2, p1, p2, fun H' _ => htb H', rfl, q⟩
theorem sc_Waveform_xor : FnScope ["self", "other"] ["self", "other"] (defScope s_Waveform_xor) := ⟨rfl, rfl, rfl, by decide +kernel, rfl, by decide +kernel, by decide +kernel⟩
theorem ok_Waveform_xor {C : Addr} {f f1 : Addr} {fd d1 : FuncData} (F : Fun K "__xor__" "Waveform.__xor__" s_Waveform_xor f fd) (W : Cl_Waveform K mg C) (tb : TabAt K mg "DIFFERENT" [false, true, true, false])
    (M_Waveform_combined : Meth K C "_combined" f1) (G_Waveform_combined : FnOk P w K mg base CX0 4 f1 d1 ["self", "other", "table"] (spWComb K C)) (b_Waveform_combined : Binds K d1 ["self", "other", "table"] []) : FnOk P w K mg base CX0 5 f fd ["self", "other"] (spWOp C [false, true, true, false]) := by
  have c_Waveform := W.cl
  obtain ⟨t, g_DIFFERENT, htb⟩ := tb
  refine F.ok sc_Waveform_xor (fun vs H Q E h => ?_) (fun cdv A outer s H vs Q E hr h => ?_)
  · obtain ⟨x, L, y, M, st1, st2, ts1, ts2, rfl, _⟩ := h
    rfl
  · obtain ⟨x, L, y, M, st1, st2, ts1, ts2, rfl, hx, hy, n1, n2, p1, p2, q⟩ := h
    refine ⟨_, (pss_one (ps_ret (pe_meth (pv 0) c_Waveform M_Waveform_combined G_Waveform_combined (hr.mono (by omega)) b_Waveform_combined .nil pass0 (pa_cons (pv 1) (pa_cons (gRef rfl g_DIFFERENT) pa_nil))))), ?_⟩
    obtain ⟨dx, h1⟩ := hx.ob
    exact ⟨_, rfl, x, dx, _, rfl, h1, wfl_no _ _ (by decide +kernel) (by decide +kernel), _, rfl, x, L, y, M, t, _, st1, st2, ts1, ts2, rfl, hx, hy, n1, n2, p1, p2, fun H' _ => htb H', rfl, q⟩
/-! ## made of bits -/
def spWBits (C : Addr) : Sp := fun vs H Q _ => ∃ (bl : Addr) (bits : List Bool) (first : Int) (before after : Bool), vs = [.ref C, .int first, .ref bl, .bl before, .bl after] ∧ H bl = some (.lst (bits.map V.bl)) ∧ bits.length ≤ 50 ∧ -1000 ≤ first ∧ first ≤ 1000 ∧
  ∀ (z M : Addr) (H' : Hp), Ex H H' → WaveAt C H' z M before (obL before first bits after (bits.length + 1)) → Q (.ref z) H'
theorem sc_Waveform_of_bits : FnScope ["cls", "first", "bits", "before", "after", "changes", "value", "time", "bit"] ["cls", "first", "bits", "before", "after"] (defScope s_Waveform_of_bits) := ⟨rfl, rfl, rfl, by decide +kernel, rfl, by decide +kernel, by decide +kernel⟩
theorem ok_Waveform_of_bits {C B : Addr} {f f0 : Addr} {fd d0 : FuncData} (F : Fun K "of_bits" "Waveform.of_bits" s_Waveform_of_bits f fd) (T : TxtV mg)
    (Mk_Waveform : Mk K C f0) (G_Waveform_init : FnOk P w K mg base (L2.CX P w) 2 f0 d0 ["self", "start", "changes"] (spWInit C B)) (b_Waveform_init : Binds K d0 ["self", "start", "changes"] []) : FnOk P w K mg base CX0 4 f fd ["cls", "first", "bits", "before", "after"] (spWBits C) := by
  refine F.ok sc_Waveform_of_bits (fun vs H Q E h => ?_) (fun cdv A outer s H vs Q E hr h => ?_)
  · obtain ⟨bl, bits, first, before, after, rfl, _⟩ := h
    rfl
  · obtain ⟨bl, bits, first, before, after, rfl, hb, hbl, lo, hi, q⟩ := h
    refine ⟨_, (pss_cons (ps_set (i := 5) sc_Waveform_of_bits.nd rfl (.inl rfl) (pe_lst pa_nil))
    (pss_cons (ps_set (i := 6) sc_Waveform_of_bits.nd rfl (.inl rfl) (pv 3))
    (pss_cons (ps_for PassesOwn.never rfl (pi_enumS (by rfl) T.enumerate (pa_cons (pe_lst (_root_.StX.pa_star (pv 2) (pa_cons (pv 4) pa_nil))) pa_nil) (pk_cons (pv 1) pk_nil)) (pg_tup rfl (pgs_cons (pg_name (i := 7) sc_Waveform_of_bits.nd rfl (.inl rfl)) (pgs_cons (pg_name (i := 8) sc_Waveform_of_bits.nd rfl (.inl rfl)) pgs_nil)))
      (pss_one (ps_if (pt_cmpR op_ne (pv 8) (pv 6) (nomark _))
        (pss_cons (ps_expr (pe_bm PySem.F.plainAttrs_list PySem.F.slot_list_append PySem.F.type_list_append mt_append (pv 5) (pa_cons (pv 7) pa_nil)))
        (pss_one (ps_set (i := 6) sc_Waveform_of_bits.nd rfl (.inl rfl) (pv 8))))
        pss_nil)))
    (pss_one (ps_ret (pe_makeL (i := 0) Mk_Waveform G_Waveform_init (hr.mono (by omega)) rfl (by first | exact Or.inl rfl | exact Or.inr (Or.inl rfl) | exact Or.inr (Or.inr rfl)) b_Waveform_init .nil passX0 (pa_cons (pv 3) (pa_cons (pv 5) pa_nil)))))))), ?_⟩
    refine ⟨Nat.zero_le _, fun l nl => ?_⟩
    have E1 : Ex H (upd H l (.lst [])) := Ex.new nl
    have hl1 : upd H l (.lst []) l = some (.lst []) := upd_same
    generalize upd H l (.lst []) = H1 at *
    refine ⟨_, rfl, _, rfl, bl, _, rfl, .inr (SqL.of (E1 _ _ hb)), _, rfl, sz_of (by rw [List.length_append, List.length_map]; show _ + 1 ≤ _; omega), fun xl nxl => ?_⟩
    have hxl : upd H1 xl (.lst (bits.map V.bl ++ [.bl after])) xl = some (.lst ((bits ++ [after]).map V.bl)) := by rw [upd_same, List.map_append]; rfl
    have E2 : Ex H1 (upd H1 xl (.lst (bits.map V.bl ++ [.bl after]))) := Ex.new nxl
    have nlx : l ≠ xl := ne_of_none hl1 nxl
    generalize upd H1 xl (.lst (bits.map V.bl ++ [.bl after])) = H2 at *
    refine ⟨_, rfl, xl, first, (bits ++ [after]).map V.bl, rfl, rfl, by omega, by omega, SqL.of hxl, for_it walk_enumS
      (fun i σ H' => Ex H H' ∧ H' xl = some (.lst ((bits ++ [after]).map V.bl)) ∧ H' l = some (.lst ((obL before first bits after i).map V.int)) ∧ ∃ y z : Option V,
        σ = [some (.ref C), some (.int first), some (.ref bl), some (.bl before), some (.bl after), some (.ref l), some (.bl (obG before first bits after (first + (i : Int) - 1))), y, z])
      ⟨E1.trans E2, hxl, E2 _ _ hl1, none, none, ?_⟩ (fun i σ H' _ g => SqL.of g.2.1) ?_ ?_⟩
    · rw [show first + ((0 : Nat) : Int) - 1 = first - 1 by omega, obG_low]; rfl
    · rintro i xv σ H3 H4 hi ⟨E3, hxl3, hl3, y, z, rfl⟩ ⟨T1, x0, y0, rfl, nT, rfl, hx0, hy0⟩
      rw [List.length_map] at hi
      cases hx0
      obtain ⟨c, hc, rfl⟩ : ∃ c, (bits ++ [after])[i]? = some c ∧ y0 = .bl c := by
        have hy1 : ((bits ++ [after]).map V.bl)[i]? = some y0 := hy0
        rw [List.getElem?_map, List.getElem?_eq_getElem hi] at hy1
        exact ⟨_, List.getElem?_eq_getElem hi, (Option.some.inj hy1).symm⟩
      have hG := obG_at (before := before) (first := first) hc
      rw [List.length_append] at hi
      have hi' : i < bits.length + 1 := hi
      have E4 : Ex H3 (upd H3 T1 (.tup [.int (first + (i : Nat)), .bl c])) := Ex.new nT
      refine ⟨T1, _, rfl, SqT.of upd_same, rfl, _, _, rfl, _, _, rfl, rfl, ?_⟩
      generalize upd H3 T1 (.tup [.int (first + (i : Nat)), .bl c]) = H4 at *
      have e4 := E3.trans E4
      have hl4 := E4 _ _ hl3
      have hxl4 := E4 _ _ hxl3
      have hstep : obL before first bits after (i + 1) = obL before first bits after i ++ (if c ≠ obG before first bits after (first + (i : Int) - 1) then [first + (i : Int)] else []) := by
        unfold obL
        rw [List.range_succ, List.filter_append, List.map_append, List.filter_cons]
        congr 1
        rw [hG]
        by_cases h : c = obG before first bits after (first + (i : Int) - 1)
        · rw [if_neg (by rw [decide_eq_true_iff]; exact fun z => z h), if_neg (fun z => z h)]; rfl
        · rw [if_pos (decide_eq_true h), if_pos h]; rfl
      have hnx : obG before first bits after (first + ((i + 1 : Nat) : Int) - 1) = c := by
        rw [show first + ((i + 1 : Nat) : Int) - 1 = first + (i : Int) by omega]; exact hG
      refine ⟨_, rfl, _, rfl, rfl, _, rfl, ite2 (fun cc => ?_) (fun cc => ?_)⟩
      · have hne : c ≠ obG before first bits after (first + (i : Int) - 1) := fun e => by rw [neb, ← e] at cc; revert cc; cases c <;> decide
        refine ⟨_, rfl, .inl ⟨rfl, _, SqL.of hl4⟩, _, rfl, l, _, .int (first + (i : Nat)), rfl, rfl, hl4, sz_lt ?_, _, rfl, e4.mut nl, ?_, ?_, some (.int (first + (i : Nat))), some (.bl c), ?_⟩
        · rw [List.length_map]
          unfold obL
          rw [List.length_map]
          have := List.length_filter_le (fun k : Nat => decide (obG before first bits after (first + (k : Int)) ≠ obG before first bits after (first + (k : Int) - 1))) (List.range i)
          rw [List.length_range] at this
          omega
        · rw [upd_ne nlx.symm]; exact hxl4
        · rw [upd_same, hstep, if_pos hne, List.map_append]; rfl
        · rw [hnx]; rfl
      · have heq : c = obG before first bits after (first + (i : Int) - 1) := by rw [neb] at cc; revert cc; cases c <;> cases obG before first bits after (first + (i : Int) - 1) <;> simp
        refine ⟨e4, hxl4, ?_, some (.int (first + (i : Nat))), some (.bl c), ?_⟩
        · rw [hl4, hstep, if_neg (fun z => z heq), List.append_nil]
        · rw [hnx, ← heq]; rfl
    · rintro σ H3 ⟨E3, hxl3, hl3, y, z, rfl⟩
      rw [List.length_map, List.length_append] at hl3
      have hl3' : H3 l = some (.lst ((obL before first bits after (bits.length + 1)).map V.int)) := hl3
      have hsh := ob_shows before first bits after
      refine ⟨rfl, _, rfl, _, rfl, fun z dz nz nd ne => ⟨z, dz, l, before, _, rfl, upd_same, made_old nz nd hl3', ?_, fun _ M5 H8 nM eb hW => ⟨rfl, ?_⟩, fun hbad _ _ => ?_⟩⟩
      · unfold obL
        rw [List.length_map]
        have := List.length_filter_le (fun k : Nat => decide (obG before first bits after (first + (k : Int)) ≠ obG before first bits after (first + (k : Int) - 1))) (List.range (bits.length + 1))
        rw [List.length_range] at this
        omega
      · exact q z M5 H8 (E3.trans (ExBut.made nz nd eb)) hW
      · rw [ascB_pw hsh.asc] at hbad; cases hbad
end
end G
namespace G
open PySem PySem.Spec PyProof.Rows L2 Evl TL
theorem fnR_of {P : Program} {w : World} {K : PySem.W.Frag} {mg : Str → Option Value} {base : Heap} {CX : CXT} {k : Nat} {f : Addr} {fd : FuncData} {ps : List Str} {sp : Sp} {dvs : List V} {ds : List Value} (Fk : FnOk P w K mg base CX k f fd ps sp) (bd : Binds K fd ps ds) (dv : Vals dvs ds) :
    FnR P w K mg base CX k f (fun vs H Q E => sp (vs ++ dvs) H Q E) := by
  intro A outer s H us vs Q E hr e0 r h
  have r2 := r.append dv
  have hl : (us ++ ds).length = ps.length := by rw [← r2.length]; exact Fk.len _ _ _ _ h
  exact Fk.run A outer s H ⟨us, []⟩ (us ++ ds) (vs ++ dvs) Q E hr e0 (bd s us (e0.mod.kin.keeps fun b o h => (e0.bs b o h).1) hl) r2 h
/-- the values from lo on -/
def valsL (F : Int → Bool) (lo : Int) (n : Nat) : List Bool := (List.range n).map fun k : Nat => F (lo + (k : Int))
theorem valsL_len (F : Int → Bool) (lo : Int) (n : Nat) : ((valsL F lo n).map V.bl).length = n := by unfold valsL; rw [List.length_map, List.length_map, List.length_range]
theorem valsL_at (F : Int → Bool) (lo : Int) {n k : Nat} (h : k < n) : ((valsL F lo n).map V.bl)[k]? = some (.bl (F (lo + (k : Int)))) := by
  unfold valsL
  rw [List.getElem?_map, List.getElem?_map, List.getElem?_range h]; rfl
theorem valsL_succ (F : Int → Bool) (lo : Int) (n : Nat) : (valsL F lo (n + 1)).map V.bl = (valsL F lo n).map V.bl ++ [.bl (F (lo + (n : Int)))] := by
  unfold valsL
  rw [List.range_succ, List.map_append, List.map_append]; rfl
theorem valsL_eq {F G : Int → Bool} {lo : Int} {n : Nat} : valsL F lo n = valsL G lo n ↔ ∀ t, lo ≤ t → t < lo + n → F t = G t := by
  unfold valsL
  rw [List.map_inj_left]
  constructor
  · intro h t h1 h2
    have := h (t - lo).toNat (List.mem_range.mpr (by omega))
    rwa [show lo + (((t - lo).toNat : Nat) : Int) = t by omega] at this
  · intro h k hk
    have := List.mem_range.mp hk
    exact h _ (by omega) (by omega)
theorem same_iff {s1 s2 : Bool} {ts1 ts2 : List Int} (h1 : ts1.Pairwise (· < ·)) (h2 : ts2.Pairwise (· < ·)) {lo : Int} {n : Nat} (n0 : 0 < n) (b1 : ∀ t ∈ ts1, lo < t ∧ t < lo + n) (b2 : ∀ t ∈ ts2, lo < t ∧ t < lo + n) :
    decide (valsL (wval s1 ts1) lo n = valsL (wval s2 ts2) lo n) = (decide (s1 = s2) && decide (ts1 = ts2)) := by
  have S1 := shows_wval (st := s1) h1
  have S2 := shows_wval (st := s2) h2
  rw [Bool.eq_iff_iff, decide_eq_true_iff, Bool.and_eq_true, decide_eq_true_iff, decide_eq_true_iff, valsL_eq]
  constructor
  · intro h
    have e : s1 = s2 := by rw [S1.start fun t m => (b1 t m).1, S2.start fun t m => (b2 t m).1]; exact h lo (by omega) (by omega)
    refine ⟨e, ?_⟩
    refine asc_ext h1 h2 fun t => ?_
    by_cases hb : lo < t ∧ t < lo + n
    · rw [S1.mem, S2.mem, h t (by omega) (by omega), h (t - 1) (by omega) (by omega)]
    · exact ⟨fun m => absurd (b1 t m) hb, fun m => absurd (b2 t m) hb⟩
  · rintro ⟨rfl, rfl⟩ t _ _
    rfl
theorem op2_and (l r : Bool) : op2 [false, false, false, true] l r = (l && r) := by cases l <;> cases r <;> rfl
theorem op2_or (l r : Bool) : op2 [false, true, true, true] l r = (l || r) := by cases l <;> cases r <;> rfl
theorem op2_xor (l r : Bool) : op2 [false, true, true, false] l r = (l != r) := by cases l <;> cases r <;> rfl
theorem cmb_bound {f : Bool → Bool → Bool} {s1 s2 : Bool} {ts1 ts2 us : List Int} {lo hi : Int} (hm : ∀ x, x ∈ us ↔ x ∈ ts1 ∨ x ∈ ts2) (b1 : ∀ t ∈ ts1, lo < t ∧ t < hi) (b2 : ∀ t ∈ ts2, lo < t ∧ t < hi) : ∀ t ∈ cmbL f s1 s2 ts1 ts2 us, lo < t ∧ t < hi := fun t h => by
  rcases (hm t).mp (List.mem_filter.mp h).1 with m | m
  · exact b1 t m
  · exact b2 t m
theorem ob_bound {before : Bool} {first : Int} {bits : List Bool} {after : Bool} {i : Nat} {t : Int} (h : t ∈ obL before first bits after i) : first ≤ t ∧ t < first + i := by
  unfold obL at h
  obtain ⟨k, hk, rfl⟩ := List.mem_map.mp h
  have := List.mem_range.mp (List.mem_filter.mp hk).1
  exact ⟨by omega, by omega⟩
theorem rep_one {α : Type} (n : Nat) (x : α) : (List.replicate n [x]).flatten = List.replicate n x := by
  induction n with
  | zero => rfl
  | succ n ih => rw [List.replicate_succ, List.replicate_succ, List.flatten_cons, ih]; rfl
theorem due_vals {before : Bool} {bits : List Bool} {after : Bool} {at_ : Int} {n m : Nat} (hn : (n : Int) = at_ + 60) (hs : n + bits.length + m = 130) : List.replicate n before ++ bits ++ List.replicate m after = valsL (obG before at_ bits after) (-60) 130 := by
  refine List.ext_getElem? fun k => ?_
  rcases Nat.lt_or_ge k 130 with lt | ge
  · rw [due_at hn (by omega)]
    unfold valsL
    rw [List.getElem?_map, List.getElem?_range lt]; rfl
  · rw [List.getElem?_eq_none (by rw [List.length_append, List.length_append, List.length_replicate, List.length_replicate]; omega), List.getElem?_eq_none (by unfold valsL; rw [List.length_map, List.length_range]; exact ge)]
/-- the numbers -60 .. 69 -/
def spanV : List V := (List.range 130).map fun i : Nat => V.int (-60 + (i : Int))
theorem spanV_at {j : Nat} {y : V} (h : spanV[j]? = some y) : j < 130 ∧ y = .int (-60 + (j : Int)) := by
  unfold spanV at h
  rw [List.getElem?_map] at h
  rcases Nat.lt_or_ge j 130 with lt | ge
  · rw [List.getElem?_range lt] at h
    exact ⟨lt, (Option.some.inj h).symm⟩
  · rw [List.getElem?_eq_none (by rw [List.length_range]; exact ge)] at h
    cases h
structure C36 (C : Addr) (Hh : Hp) (o1 t1 sp l1 l2 xa La xb Lb : Addr) (s1 s2 : Bool) (ts1 ts2 : List Int) : Prop where
  o1 : Hh o1 = some (.tup [.bl s1, .ref t1])
  t1 : Hh t1 = some (.lst (ts1.map V.int))
  sp : Hh sp = some (.lst spanV)
  l1 : Hh l1 = some (.lst ((valsL (wval s1 ts1) (-60) 130).map V.bl))
  l2 : Hh l2 = some (.lst ((valsL (wval s2 ts2) (-60) 130).map V.bl))
  wa : WaveAt C Hh xa La s1 ts1
  wb : WaveAt C Hh xb Lb s2 ts2
theorem C36.ex {C : Addr} {Hh H' : Hp} {o1 t1 sp l1 l2 xa La xb Lb : Addr} {s1 s2 : Bool} {ts1 ts2 : List Int} (e : Ex Hh H') (h : C36 C Hh o1 t1 sp l1 l2 xa La xb Lb s1 s2 ts1 ts2) : C36 C H' o1 t1 sp l1 l2 xa La xb Lb s1 s2 ts1 ts2 :=
  ⟨e _ _ h.o1, e _ _ h.t1, e _ _ h.sp, e _ _ h.l1, e _ _ h.l2, h.wa.ex e, h.wb.ex e⟩
theorem WaveAt.hid_ {C : Addr} {H : Hp} {p a x L : Addr} {st : Bool} {ts : List Int} (hp : PoolOk p a H) (nL : L ≠ p) (h : WaveAt C H x L st ts) : WaveAt C (hid p H) x L st ts := by
  obtain ⟨dx, e1⟩ := h.ob
  obtain ⟨_, _, _, _, _, e, _⟩ := hp
  exact ⟨⟨dx, by rw [hid_ne (ne_of e1 e (by intro z; cases z))]; exact e1⟩, by rw [hid_ne nL]; exact h.li⟩
section
variable {P : Program} {w : World} {K : PySem.W.Frag} {mg : Str → Option Value} {base : Heap}
def spLawIs (C : Addr) : Sp := fun vs H Q _ => ∃ (x L l : Addr) (st : Bool) (ts : List Int) (F : Int → Bool) (lo : Int) (n : Nat), vs = [.ref x, .ref l, .int lo] ∧ WaveAt C H x L st ts ∧ H l = some (.lst ((valsL F lo n).map V.bl)) ∧ 0 < n ∧ n ≤ 1000 ∧ Shows st ts F ∧ (∀ t ∈ ts, lo < t ∧ t < lo + n) ∧ ∀ H', Ex H H' → Q (.bl true) H'
theorem sc_law_is : FnScope ["wave", "values", "first", "changes", "k"] ["wave", "values", "first"] (defScope s_law_is) := ⟨rfl, rfl, rfl, by decide +kernel, rfl, by decide +kernel, by decide +kernel⟩
theorem ok_law_is {C : Addr} {f1 f3 p3 : Addr} {d1 d3 : FuncData} (DF : Dfd K mg "_law_is" s_law_is ["wave", "values", "first"]) (T : TxtS mg) (W : Cl_Waveform K mg C) (C1 : Has P w K mg base 2 "_law_same" ["actual", "due"] (spSame 2))
    (M_Waveform_changes : Meth K C "changes" f1) (G_Waveform_changes : FnOk P w K mg base CX0 1 f1 d1 ["self"] (spWChanges C)) (b_Waveform_changes : Binds K d1 ["self"] [])
    (P_Waveform_start : PropOf K C "start" p3 f3) (G_Waveform_start : FnOk P w K mg base CX0 1 f3 d3 ["self"] (spWStart C)) (b_Waveform_start : Binds K d3 ["self"] []) : Has P w K mg base 3 "_law_is" ["wave", "values", "first"] (spLawIs C) := by
  obtain ⟨f_law_same, d_law_same, G_law_same, g_law_same, k_law_same, b_law_same⟩ := C1
  have c_Waveform := W.cl
  refine DF.has fun f fd F => F.ok sc_law_is (fun vs H Q E h => ?_) (fun cdv A outer s H vs Q E hr h => ?_)
  · obtain ⟨x, L, l, st, ts, F', lo, n, rfl, _⟩ := h
    rfl
  · obtain ⟨x, L, l, st, ts, F', lo, n, rfl, hW, hl, n0, n1, hs, hb, q⟩ := h
    refine ⟨_, (pss_cons (ps_setLc (i := 3) (own := [("k", 4)]) (g := gName 4) (tt := _) rfl sc_law_is.nd rfl rfl (sw_true rfl rfl rfl (by decide +kernel)) (pi_range2 rfl T.range (pa_cons pe_int (pa_cons (pe_callB call_len_seq (by rfl) T.len (by decide +kernel) (pa_cons (pv 1) pa_nil)) pa_nil))) (blkOk_by (N := ["wave", "values", "first", "changes", "k"]) (sc := defScope s_law_is) (own := [("k", 4)]) (by decide +kernel)) (fun _ _ _ _ _ => (pg_name (i := 4) sc_law_is.nd rfl (.inl rfl))) (fun _ _ _ _ _ => pts_one (pt_cmpR op_ne (pe_ix (kIxL (K := K) rfl) (pv 1) (pv 4) (fun _ _ => rfl)) (pe_ix (kIxL (K := K) rfl) (pv 1) (pe_op op_sub (pv 4) pe_int) (fun _ _ => rfl)) (nomark _))) (fun _ _ _ _ _ => (pe_op op_add (pv 2) (pv 4))))
    (pss_one (ps_ret (pe_and (pe_call G_law_same (hr.mono (by omega)) (by rfl) g_law_same k_law_same b_law_same .nil pass0 (pa_cons (pe_prop (pv 0) c_Waveform P_Waveform_start G_Waveform_start (hr.mono (by omega)) b_Waveform_start .nil pass0 rfl) (pa_cons (pe_ix ix_list (pv 1) pe_int (fun _ _ => rfl)) pa_nil))) (pe_one (pe_call G_law_same (hr.mono (by omega)) (by rfl) g_law_same k_law_same b_law_same .nil pass0 (pa_cons (pe_meth0 (pv 0) c_Waveform M_Waveform_changes G_Waveform_changes (hr.mono (by omega)) b_Waveform_changes .nil pass0) (pa_cons (pv 3) pa_nil)))))))), ?_⟩
    have hlen := valsL_len F' lo n
    refine ⟨_, rfl, _, _, rfl, .inl (SqL.of hl), 1, n, by rw [hlen], by omega, fun DL nDL => lc_range (lo := 1) (n := (((n : Nat) : Int) - 1).toNat) (fun j H' => Ex H H' ∧ H' DL = some (.lst ((((List.range j).filter fun j : Nat => decide (F' (lo + (1 + (j : Int))) ≠ F' (lo + (1 + (j : Int)) - 1))).map fun j : Nat => lo + (1 + (j : Int))).map V.int))) ⟨Ex.new nDL, upd_same⟩ ?_ ?_⟩
    · rintro j H2 hj ⟨E2, hD⟩
      refine ⟨rfl, ?_⟩
      simp only [wipe, _root_.L2.start, List.map_cons, List.map_nil, List.length_cons, List.length_nil, Nat.reduceAdd, Nat.reduceSub, List.replicate_succ, List.replicate_zero, List.cons_append, List.nil_append, List.set_cons_zero, List.set_cons_succ]
      have g1 := valsL_at F' lo (n := n) (k := j + 1) (by omega)
      have g2 := valsL_at F' lo (n := n) (k := j) (by omega)
      rw [show lo + ((j + 1 : Nat) : Int) = lo + (1 + (j : Int)) by omega] at g1
      rw [show lo + (j : Int) = lo + (1 + (j : Int)) - 1 by omega] at g2
      have hlj : ((List.range j).filter fun j : Nat => decide (F' (lo + (1 + (j : Int))) ≠ F' (lo + (1 + (j : Int)) - 1))).length ≤ j := by
        have := List.length_filter_le (fun j : Nat => decide (F' (lo + (1 + (j : Int))) ≠ F' (lo + (1 + (j : Int)) - 1))) (List.range j)
        rwa [List.length_range] at this
      refine ⟨_, rfl, _, rfl, _, _, _, _, rfl, rfl, SqL.of (E2 _ _ hl), at_of (j := j + 1) (by omega) g1, _, rfl, _, rfl, _, _, rfl, rfl, _, _, _, _, rfl, rfl, SqL.of (E2 _ _ hl), at_of (j := j) (by omega) g2, rfl, _, rfl, ?_⟩
      rw [neb]
      refine ite2 (fun c => ?_) (fun c => ?_)
      · have hne : F' (lo + (1 + (j : Int))) ≠ F' (lo + (1 + (j : Int)) - 1) := by revert c; cases F' (lo + (1 + (j : Int))) <;> cases F' (lo + (1 + (j : Int)) - 1) <;> decide
        refine ⟨_, rfl, _, rfl, _, _, rfl, rfl, _, hD, sz_lt (by rw [List.length_map, List.length_map]; omega), E2.mut nDL, ?_⟩
        rw [upd_same, List.range_succ, List.filter_append, List.map_append, List.map_append, List.filter_cons, if_pos (decide_eq_true hne)]; rfl
      · have heq : F' (lo + (1 + (j : Int))) = F' (lo + (1 + (j : Int)) - 1) := by revert c; cases F' (lo + (1 + (j : Int))) <;> cases F' (lo + (1 + (j : Int)) - 1) <;> decide
        refine ⟨E2, ?_⟩
        rw [hD, List.range_succ, List.filter_append, List.filter_cons, if_neg (by rw [decide_eq_true_iff]; exact fun z => z heq), List.filter_nil, List.append_nil]
    · rintro H2 ⟨E2, hD⟩
      have hD2 : H2 DL = some (.lst (ts.map V.int)) := by
        rw [hD, show (((n : Nat) : Int) - 1).toNat = n - 1 by omega, hs.chg hb]; rfl
      have hW2 := hW.ex E2
      obtain ⟨dx, hob⟩ := hW2.ob
      have g0 : ((valsL F' lo n).map V.bl)[0]? = some (.bl st) := by
        rw [valsL_at F' lo n0, hs.start fun t m => (hb t m).1, show lo + ((0 : Nat) : Int) = lo by omega]
      have hln : ts.length ≤ 1000 := by
        rw [hs.chg hb]
        unfold chgL
        rw [List.length_map]
        have := List.length_filter_le (fun j : Nat => decide (F' (lo + (1 + (j : Int))) ≠ F' (lo + (1 + (j : Int)) - 1))) (List.range (n - 1))
        rw [List.length_range] at this
        omega
      refine ⟨_, rfl, x, dx, _, rfl, hob, x, L, st, ts, rfl, hW2, _, rfl, _, _, _, _, rfl, rfl, SqL.of (E2 _ _ hl), atI_nat (j := 0) g0, _, _, .bl st, rfl, .bl _, .bl _, trivial, _, rfl, iteT ?_⟩
      refine ⟨_, rfl, x, dx, _, rfl, hob, wfl_no _ _ (by decide +kernel) (by decide +kernel), x, L, st, ts, rfl, hW2, fun l2 nl2 => ⟨_, rfl, _, _, .lst (ts.map D.int), rfl, rep_ints upd_same, rep_ints ?_, okD_ints (by omega), q _ (E2.trans (Ex.new nl2))⟩⟩
      exact Ex.new nl2 _ _ hD2
end
end G
namespace G
open PySem PySem.Spec PyProof.Rows L2 Evl TL
section
variable {P : Program} {w : World} {K : PySem.W.Frag} {mg : Str → Option Value} {base : Heap}
structure Two (Hh : Hp) (o1 t1 o2 t2 : Addr) (s1 s2 : Bool) (ts1 ts2 : List Int) : Prop where
  a : Hh o1 = some (.tup [.bl s1, .ref t1])
  t1 : Hh t1 = some (.lst (ts1.map V.int))
  b : Hh o2 = some (.tup [.bl s2, .ref t2])
  t2 : Hh t2 = some (.lst (ts2.map V.int))
theorem Two.ex {Hh H' : Hp} {o1 t1 o2 t2 : Addr} {s1 s2 : Bool} {ts1 ts2 : List Int} (e : Ex Hh H') (h : Two Hh o1 t1 o2 t2 s1 s2 ts1 ts2) : Two H' o1 t1 o2 t2 s1 s2 ts1 ts2 := ⟨e _ _ h.a, e _ _ h.t1, e _ _ h.b, e _ _ h.t2⟩
def spLaw (K : PySem.W.Frag) : Sp := fun vs H Q _ => ∃ (a : Addr) (ns : List Int), vs = [.ref a] ∧ SqL K H a (ns.map V.int) ∧ ns.length ≤ 63 ∧ ∀ H', Q (.bl true) H'
theorem sc_law : FnScope ["script", "pool", "one", "two", "turn", "a", "b", "span", "first", "second", "many", "by", "bits", "at", "before", "after", "due", "time", "k", "bit"] ["script"] (defScope s_law) := ⟨rfl, rfl, rfl, by decide +kernel, rfl, by decide +kernel, by decide +kernel⟩
theorem fn_law {C B : Addr} {f f0 fi fan fo fx fs ff gb pb : Addr} {fd d0 di dan do_ dx_ ds df db : FuncData} {dsb : List Value} (F : Fun K "law" "law" s_law f fd) (T : TxtS mg) (W : Cl_Waveform K mg C) (C1 : Has P w K mg base 1 "_law_pool" ["script"] (spPool K)) (C2 : Has P w K mg base 2 "_law_draw" ["pool", "many"] spDrawX) (C3 : Has P w K mg base 3 "_law_changes" ["pool", "most", "first", "wide"] spChanges)
    (C4 : Has P w K mg base 1 "_law_wave_value" ["wave", "time"] spWV) (C5 : Has P w K mg base 3 "_law_is" ["wave", "values", "first"] (spLawIs C)) (C7 : Has P w K mg base 2 "_law_same" ["actual", "due"] (spSame 2))
    (Mk_Waveform : Mk K C f0) (G_Waveform_init : FnOk P w K mg base (L2.CX P w) 2 f0 d0 ["self", "start", "changes"] (spWInit C B)) (b_Waveform_init : Binds K d0 ["self", "start", "changes"] [])
    (M_inv : Meth K C "__invert__" fi) (G_inv : FnOk P w K mg base CX0 4 fi di ["self"] (spWInv C)) (b_inv : Binds K di ["self"] [])
    (M_and : Meth K C "__and__" fan) (G_and : FnOk P w K mg base CX0 5 fan dan ["self", "other"] (spWOp C [false, false, false, true])) (b_and : Binds K dan ["self", "other"] [])
    (M_or : Meth K C "__or__" fo) (G_or : FnOk P w K mg base CX0 5 fo do_ ["self", "other"] (spWOp C [false, true, true, true])) (b_or : Binds K do_ ["self", "other"] [])
    (M_xor : Meth K C "__xor__" fx) (G_xor : FnOk P w K mg base CX0 5 fx dx_ ["self", "other"] (spWOp C [false, true, true, false])) (b_xor : Binds K dx_ ["self", "other"] [])
    (M_Waveform_same_as : Meth K C "same_as" fs) (G_Waveform_same_as : FnOk P w K mg base CX0 1 fs ds ["self", "other"] (spWSame C)) (b_Waveform_same_as : Binds K ds ["self", "other"] [])
    (M_Waveform_shifted : Meth K C "shifted" ff) (G_Waveform_shifted : FnOk P w K mg base CX0 4 ff df ["self", "by"] (spWShift C)) (b_Waveform_shifted : Binds K df ["self", "by"] [])
    (R_ob : ClX.CRead K C (.type "type")) (M_ob : ClX.CMet K C (.type "type") "of_bits" pb gb) (G_ob : FnOk P w K mg base CX0 4 gb db ["cls", "first", "bits", "before", "after"] (spWBits C))
    (k_ob : KBn K db ["cls", "first", "bits", "before", "after"] 3 ["before", "after"] (fun us ws => us ++ ws) (fun vs zs => vs ++ zs)) (v_ob : Vals [V.bl false, V.bl false] dsb) (b_ob : Binds K db ["cls", "first", "bits", "before", "after"] dsb) : FnOk P w K mg base CX0 6 f fd ["script"] (spLaw K) := by
  obtain ⟨f_law_pool, d_law_pool, G_law_pool, g_law_pool, k_law_pool, b_law_pool⟩ := C1
  obtain ⟨f_law_draw, d_law_draw, G_law_draw, g_law_draw, k_law_draw, b_law_draw⟩ := C2
  obtain ⟨f_law_changes, d_law_changes, G_law_changes, g_law_changes, k_law_changes, b_law_changes⟩ := C3
  obtain ⟨f_law_wave_value, d_law_wave_value, G_law_wave_value, g_law_wave_value, k_law_wave_value, b_law_wave_value⟩ := C4
  obtain ⟨f_law_is, d_law_is, G_law_is, g_law_is, k_law_is, b_law_is⟩ := C5
  obtain ⟨f_law_same, d_law_same, G_law_same, g_law_same, k_law_same, b_law_same⟩ := C7
  have c_Waveform := W.cl
  have g_Waveform := W.gC
  refine F.ok sc_law (fun vs H Q E h => ?_) (fun cdv A outer s H vs Q E hr h => ?_)
  · obtain ⟨a, ns, rfl, _⟩ := h
    rfl
  obtain ⟨sa, ns, rfl, hs, hn, q⟩ := h
  refine ⟨_, (pss_cons (ps_set (i := 1) sc_law.nd rfl (.inr rfl) (pe_call G_law_pool (hr.mono (by omega)) (by rfl) g_law_pool k_law_pool b_law_pool .nil pass0 (pa_cons (pv 0) pa_nil)))
    (pss_cons (ps_set (i := 2) sc_law.nd rfl (.inr rfl) (pe_tup (pa_cons (pe_cmpR op_eq (pe_call G_law_draw (hr.mono (by omega)) (by rfl) g_law_draw k_law_draw b_law_draw .nil pass0 (pa_cons (pv 1) (pa_cons pe_int pa_nil))) pe_int (nomark _)) (pa_cons (pe_call G_law_changes (hr.mono (by omega)) (by rfl) g_law_changes k_law_changes b_law_changes .nil pass0 (pa_cons (pv 1) (pa_cons pe_int (pa_cons (pe_un un_neg pe_int) (pa_cons pe_int pa_nil))))) pa_nil))))
    (pss_cons (ps_set (i := 3) sc_law.nd rfl (.inr rfl) (pe_tup (pa_cons (pe_cmpR op_eq (pe_call G_law_draw (hr.mono (by omega)) (by rfl) g_law_draw k_law_draw b_law_draw .nil pass0 (pa_cons (pv 1) (pa_cons pe_int pa_nil))) pe_int (nomark _)) (pa_cons (pe_call G_law_changes (hr.mono (by omega)) (by rfl) g_law_changes k_law_changes b_law_changes .nil pass0 (pa_cons (pv 1) (pa_cons pe_int (pa_cons (pe_un un_neg pe_int) (pa_cons pe_int pa_nil))))) pa_nil))))
    (pss_cons (ps_set (i := 4) sc_law.nd rfl (.inl rfl) (pe_call G_law_draw (hr.mono (by omega)) (by rfl) g_law_draw k_law_draw b_law_draw .nil pass0 (pa_cons (pv 1) (pa_cons pe_int pa_nil))))
    (pss_cut (ps_if (pt_cmpR op_lt (pv 4) pe_int (nomark _))
      (pss_one (ps_set (i := 3) sc_law.nd rfl (.inr rfl) (pe_tup (pa_cons (pe_cmpR op_ne (pe_ix ix_tup (pv 2) pe_int (fun _ _ => rfl)) (pe_cmpR op_eq (pv 4) pe_int (nomark _)) (nomark _)) (pa_cons (pe_callTy call_list_of (by rfl) T.list (by decide +kernel) (pa_cons (pe_ix ix_tup (pv 2) pe_int (fun _ _ => rfl)) pa_nil)) pa_nil)))))
      pss_nil)
    (pss_cons (ps_set (i := 5) sc_law.nd rfl (.inl rfl) (pe_make Mk_Waveform G_Waveform_init (hr.mono (by omega)) (by rfl) g_Waveform b_Waveform_init .nil passX0 (pa_cons (pe_ix ix_tup (pv 2) pe_int (fun _ _ => rfl)) (pa_cons (pe_ix ix_tup (pv 2) pe_int (fun _ _ => rfl)) pa_nil))))
    (pss_cons (ps_set (i := 6) sc_law.nd rfl (.inl rfl) (pe_make Mk_Waveform G_Waveform_init (hr.mono (by omega)) (by rfl) g_Waveform b_Waveform_init .nil passX0 (pa_cons (pe_ix ix_tup (pv 3) pe_int (fun _ _ => rfl)) (pa_cons (pe_ix ix_tup (pv 3) pe_int (fun _ _ => rfl)) pa_nil))))
    (pss_cons (ps_set (i := 7) sc_law.nd rfl (.inl rfl) (pe_listRg rfl (by rfl) T.list (prg_2 (by rfl) T.range (pe_un un_neg pe_int) pe_int)))
    (pss_cons (ps_set (i := 8) sc_law.nd rfl (.inr rfl) (pe_lc (own := [("time", 17)]) (g := gName 17) (tt := tYes) rfl sc_law.nd (pi_list (pv 7)) (blkOk_by (N := ["script", "pool", "one", "two", "turn", "a", "b", "span", "first", "second", "many", "by", "bits", "at", "before", "after", "due", "time", "k", "bit"]) (sc := defScope s_law) (own := [("time", 17)]) (by decide +kernel)) (fun _ _ _ _ _ => (pg_name (i := 17) sc_law.nd rfl (.inl rfl))) (fun _ _ _ _ _ => pts_nil) (fun _ _ _ _ _ => (pe_call G_law_wave_value (hr.mono (by omega)) (by rfl) g_law_wave_value k_law_wave_value b_law_wave_value .nil pass0 (pa_cons (pv 2) (pa_cons (pv 17) pa_nil))))))
    (pss_cons (ps_set (i := 9) sc_law.nd rfl (.inr rfl) (pe_lc (own := [("time", 17)]) (g := gName 17) (tt := tYes) rfl sc_law.nd (pi_list (pv 7)) (blkOk_by (N := ["script", "pool", "one", "two", "turn", "a", "b", "span", "first", "second", "many", "by", "bits", "at", "before", "after", "due", "time", "k", "bit"]) (sc := defScope s_law) (own := [("time", 17)]) (by decide +kernel)) (fun _ _ _ _ _ => (pg_name (i := 17) sc_law.nd rfl (.inl rfl))) (fun _ _ _ _ _ => pts_nil) (fun _ _ _ _ _ => (pe_call G_law_wave_value (hr.mono (by omega)) (by rfl) g_law_wave_value k_law_wave_value b_law_wave_value .nil pass0 (pa_cons (pv 3) (pa_cons (pv 17) pa_nil))))))
    (pss_cons (ps_set (i := 10) sc_law.nd rfl (.inl rfl) (pe_callB call_len_seq (by rfl) T.len (by decide +kernel) (pa_cons (pv 8) pa_nil)))
    (pss_cons (ps_if (pt_not (pt_val (pe_call G_law_is (hr.mono (by omega)) (by rfl) g_law_is k_law_is b_law_is .nil pass0 (pa_cons (pe_un (un_own1 M_inv G_inv (hr.mono (by omega)) b_inv pass0) (pv 5)) (pa_cons (pe_lc (own := [("bit", 19)]) (g := gName 19) (tt := tYes) rfl sc_law.nd (pi_list (pv 8)) (blkOk_by (N := ["script", "pool", "one", "two", "turn", "a", "b", "span", "first", "second", "many", "by", "bits", "at", "before", "after", "due", "time", "k", "bit"]) (sc := defScope s_law) (own := [("bit", 19)]) (by decide +kernel)) (fun _ _ _ _ _ => (pg_name (i := 19) sc_law.nd rfl (.inl rfl))) (fun _ _ _ _ _ => pts_nil) (fun _ _ _ _ _ => (pe_not (pv 19)))) (pa_cons (pe_un un_neg pe_int) pa_nil))))))
      (pss_one (ps_ret pe_bl))
      pss_nil)
    (pss_cons (ps_if (pt_not (pt_val (pe_call G_law_is (hr.mono (by omega)) (by rfl) g_law_is k_law_is b_law_is .nil pass0 (pa_cons (pe_op (op_own2 W.sf M_and G_and (hr.mono (by omega)) b_and pass0) (pv 5) (pv 6)) (pa_cons (pe_lc (own := [("k", 18)]) (g := gName 18) (tt := tYes) rfl sc_law.nd (pi_range1 rfl T.range (pa_cons (pv 10) pa_nil)) (blkOk_by (N := ["script", "pool", "one", "two", "turn", "a", "b", "span", "first", "second", "many", "by", "bits", "at", "before", "after", "due", "time", "k", "bit"]) (sc := defScope s_law) (own := [("k", 18)]) (by decide +kernel)) (fun _ _ _ _ _ => (pg_name (i := 18) sc_law.nd rfl (.inl rfl))) (fun _ _ _ _ _ => pts_nil) (fun _ _ _ _ _ => (pe_and (pe_ix (kIxL (K := K) rfl) (pv 8) (pv 18) (fun _ _ => rfl)) (pe_one (pe_ix (kIxL (K := K) rfl) (pv 9) (pv 18) (fun _ _ => rfl)))))) (pa_cons (pe_un un_neg pe_int) pa_nil))))))
      (pss_one (ps_ret pe_bl))
      pss_nil)
    (pss_cons (ps_if (pt_not (pt_val (pe_call G_law_is (hr.mono (by omega)) (by rfl) g_law_is k_law_is b_law_is .nil pass0 (pa_cons (pe_op (op_own2 W.sf M_or G_or (hr.mono (by omega)) b_or pass0) (pv 5) (pv 6)) (pa_cons (pe_lc (own := [("k", 18)]) (g := gName 18) (tt := tYes) rfl sc_law.nd (pi_range1 rfl T.range (pa_cons (pv 10) pa_nil)) (blkOk_by (N := ["script", "pool", "one", "two", "turn", "a", "b", "span", "first", "second", "many", "by", "bits", "at", "before", "after", "due", "time", "k", "bit"]) (sc := defScope s_law) (own := [("k", 18)]) (by decide +kernel)) (fun _ _ _ _ _ => (pg_name (i := 18) sc_law.nd rfl (.inl rfl))) (fun _ _ _ _ _ => pts_nil) (fun _ _ _ _ _ => (pe_or (pe_ix (kIxL (K := K) rfl) (pv 8) (pv 18) (fun _ _ => rfl)) (pe_one (pe_ix (kIxL (K := K) rfl) (pv 9) (pv 18) (fun _ _ => rfl)))))) (pa_cons (pe_un un_neg pe_int) pa_nil))))))
      (pss_one (ps_ret pe_bl))
      pss_nil)
    (pss_cons (ps_if (pt_not (pt_val (pe_call G_law_is (hr.mono (by omega)) (by rfl) g_law_is k_law_is b_law_is .nil pass0 (pa_cons (pe_op (op_own2 W.sf M_xor G_xor (hr.mono (by omega)) b_xor pass0) (pv 5) (pv 6)) (pa_cons (pe_lc (own := [("k", 18)]) (g := gName 18) (tt := tYes) rfl sc_law.nd (pi_range1 rfl T.range (pa_cons (pv 10) pa_nil)) (blkOk_by (N := ["script", "pool", "one", "two", "turn", "a", "b", "span", "first", "second", "many", "by", "bits", "at", "before", "after", "due", "time", "k", "bit"]) (sc := defScope s_law) (own := [("k", 18)]) (by decide +kernel)) (fun _ _ _ _ _ => (pg_name (i := 18) sc_law.nd rfl (.inl rfl))) (fun _ _ _ _ _ => pts_nil) (fun _ _ _ _ _ => (pe_cmpR op_ne (pe_ix (kIxL (K := K) rfl) (pv 8) (pv 18) (fun _ _ => rfl)) (pe_ix (kIxL (K := K) rfl) (pv 9) (pv 18) (fun _ _ => rfl)) (nomark _)))) (pa_cons (pe_un un_neg pe_int) pa_nil))))))
      (pss_one (ps_ret pe_bl))
      pss_nil)
    (pss_cons (ps_set (i := 11) sc_law.nd rfl (.inr rfl) (pe_op op_sub (pe_call G_law_draw (hr.mono (by omega)) (by rfl) g_law_draw k_law_draw b_law_draw .nil pass0 (pa_cons (pv 1) (pa_cons pe_int pa_nil))) pe_int))
    (pss_cons (ps_if (pt_not (pt_val (pe_call G_law_is (hr.mono (by omega)) (by rfl) g_law_is k_law_is b_law_is .nil pass0 (pa_cons (pe_meth (pv 5) c_Waveform M_Waveform_shifted G_Waveform_shifted (hr.mono (by omega)) b_Waveform_shifted .nil pass0 (pa_cons (pv 11) pa_nil)) (pa_cons (pe_lc (own := [("time", 17)]) (g := gName 17) (tt := tYes) rfl sc_law.nd (pi_list (pv 7)) (blkOk_by (N := ["script", "pool", "one", "two", "turn", "a", "b", "span", "first", "second", "many", "by", "bits", "at", "before", "after", "due", "time", "k", "bit"]) (sc := defScope s_law) (own := [("time", 17)]) (by decide +kernel)) (fun _ _ _ _ _ => (pg_name (i := 17) sc_law.nd rfl (.inl rfl))) (fun _ _ _ _ _ => pts_nil) (fun _ _ _ _ _ => (pe_call G_law_wave_value (hr.mono (by omega)) (by rfl) g_law_wave_value k_law_wave_value b_law_wave_value .nil pass0 (pa_cons (pv 2) (pa_cons (pe_op op_sub (pv 17) (pv 11)) pa_nil))))) (pa_cons (pe_un un_neg pe_int) pa_nil))))))
      (pss_one (ps_ret pe_bl))
      pss_nil)
    (pss_cut (ps_if (PW.pt (pw_or (pt_not (pt_val (pe_call G_law_same (hr.mono (by omega)) (by rfl) g_law_same k_law_same b_law_same .nil pass0 (pa_cons (pe_meth (pv 5) c_Waveform M_Waveform_same_as G_Waveform_same_as (hr.mono (by omega)) b_Waveform_same_as .nil pass0 (pa_cons (pv 6) pa_nil)) (pa_cons (pe_cmpR (op_eqD hr.units) (pv 8) (pv 9) (nomark _)) pa_nil))))) (pw_or1 (pt_not (pt_val (pe_call G_law_same (hr.mono (by omega)) (by rfl) g_law_same k_law_same b_law_same .nil pass0 (pa_cons (pe_meth (pe_op (op_own2 W.sf M_and G_and (hr.mono (by omega)) b_and pass0) (pv 5) (pv 6)) c_Waveform M_Waveform_same_as G_Waveform_same_as (hr.mono (by omega)) b_Waveform_same_as .nil pass0 (pa_cons (pe_op (op_own2 W.sf M_and G_and (hr.mono (by omega)) b_and pass0) (pv 6) (pv 5)) pa_nil)) (pa_cons pe_bl pa_nil))))))))
      (pss_one (ps_ret pe_bl))
      pss_nil)
    (pss_cons (ps_setLc (i := 12) (own := [("k", 18)]) (g := gName 18) (tt := tYes) rfl sc_law.nd rfl rfl (sw_true rfl rfl rfl (by decide +kernel)) (pi_range1 rfl T.range (pa_cons (pe_call G_law_draw (hr.mono (by omega)) (by rfl) g_law_draw k_law_draw b_law_draw .nil pass0 (pa_cons (pv 1) (pa_cons pe_int pa_nil))) pa_nil)) (blkOk_by (N := ["script", "pool", "one", "two", "turn", "a", "b", "span", "first", "second", "many", "by", "bits", "at", "before", "after", "due", "time", "k", "bit"]) (sc := defScope s_law) (own := [("k", 18)]) (by decide +kernel)) (fun _ _ _ _ _ => (pg_name (i := 18) sc_law.nd rfl (.inl rfl))) (fun _ _ _ _ _ => pts_nil) (fun _ _ _ _ _ => (pe_cmpR op_eq (pe_call G_law_draw (hr.mono (by omega)) (by rfl) g_law_draw k_law_draw b_law_draw .nil pass0 (pa_cons (pv 1) (pa_cons pe_int pa_nil))) pe_int (nomark _))))
    (pss_cons (ps_set (i := 13) sc_law.nd rfl (.inl rfl) (pe_op op_sub (pe_call G_law_draw (hr.mono (by omega)) (by rfl) g_law_draw k_law_draw b_law_draw .nil pass0 (pa_cons (pv 1) (pa_cons pe_int pa_nil))) pe_int))
    (pss_cons (ps_set (i := 14) sc_law.nd rfl (.inl rfl) (pe_cmpR op_eq (pe_call G_law_draw (hr.mono (by omega)) (by rfl) g_law_draw k_law_draw b_law_draw .nil pass0 (pa_cons (pv 1) (pa_cons pe_int pa_nil))) pe_int (nomark _)))
    (pss_cons (ps_set (i := 15) sc_law.nd rfl (.inl rfl) (pe_cmpR op_eq (pe_call G_law_draw (hr.mono (by omega)) (by rfl) g_law_draw k_law_draw b_law_draw .nil pass0 (pa_cons (pv 1) (pa_cons pe_int pa_nil))) pe_int (nomark _)))
    (pss_cons (ps_set (i := 16) sc_law.nd rfl (.inl rfl) (pe_op op_cat (pe_op op_cat (pe_op op_rep (pe_lst (pa_cons (pv 14) pa_nil)) (pe_op op_add (pv 13) pe_int)) (pv 12)) (pe_op op_rep (pe_lst (pa_cons (pv 15) pa_nil)) (pe_op op_sub (pe_op op_sub pe_int (pv 13)) (pe_callB call_len_seq (by rfl) T.len (by decide +kernel) (pa_cons (pv 12) pa_nil))))))
    (pss_cons (ps_if (pt_not (pt_val (pe_call G_law_is (hr.mono (by omega)) (by rfl) g_law_is k_law_is b_law_is .nil pass0 (pa_cons (pe_cmethK (gRef rfl g_Waveform) R_ob M_ob G_ob (hr.mono (by omega)) k_ob pass0 (pa_cons (pv 13) (pa_cons (pv 12) pa_nil)) (pk_cons (pv 14) (pk_cons (pv 15) pk_nil))) (pa_cons (pv 16) (pa_cons (pe_un un_neg pe_int) pa_nil))))))
      (pss_one (ps_ret pe_bl))
      pss_nil)
    (pss_cons (ps_set (i := 16) sc_law.nd rfl (.inl rfl) (pe_op op_cat (pe_op op_cat (pe_op op_rep (pe_lst (pa_cons pe_bl pa_nil)) (pe_op op_add (pv 13) pe_int)) (pv 12)) (pe_op op_rep (pe_lst (pa_cons pe_bl pa_nil)) (pe_op op_sub (pe_op op_sub pe_int (pv 13)) (pe_callB call_len_seq (by rfl) T.len (by decide +kernel) (pa_cons (pv 12) pa_nil))))))
    (pss_one (ps_ret (pe_and (pe_call G_law_is (hr.mono (by omega)) (by rfl) g_law_is k_law_is b_law_is .nil pass0 (pa_cons (ClX.pe_cmeth (gRef rfl g_Waveform) R_ob M_ob (fnR_of G_ob b_ob v_ob) (hr.mono (by omega)) pass0 (pa_cons (pv 13) (pa_cons (pv 12) pa_nil))) (pa_cons (pv 16) (pa_cons (pe_un un_neg pe_int) pa_nil)))) (pe_and (pe_call G_law_is (hr.mono (by omega)) (by rfl) g_law_is k_law_is b_law_is .nil pass0 (pa_cons (pv 5) (pa_cons (pv 8) (pa_cons (pe_un un_neg pe_int) pa_nil)))) (pe_one (pe_call G_law_is (hr.mono (by omega)) (by rfl) g_law_is k_law_is b_law_is .nil pass0 (pa_cons (pv 6) (pa_cons (pv 9) (pa_cons (pe_un un_neg pe_int) pa_nil)))))))))))))))))))))))))))))))))), ?_⟩
  refine ⟨_, rfl, sa, ns, rfl, hs, by omega, fun p a H0 hp E0 np => ?_⟩
  refine ⟨_, rfl, p, a, 2, rfl, by decide, by decide, hp, fun v1 H1 h1 X1 _ => ⟨rfl, ?_⟩⟩
  obtain ⟨s1, es1⟩ : ∃ st : Bool, st = decide (V.int (v1 : Int) = V.int 1) := ⟨_, rfl⟩
  rw [← es1]
  refine ⟨_, rfl, _, rfl, p, a, 6, 20, -20, rfl, by decide, by decide, by decide, X1.pool, fun t1 ts1 H2 X2 nt1 ht1 hp1 hn1 hb1 => ⟨by show 2 ≤ sizeLine; decide, fun o1 no1 => ?_⟩⟩
  have X3 := (Px.refl X2.pool).new (o := .tup [.bl s1, .ref t1]) no1
  have ho1 := X3.seen no1 upd_same
  replace ht1 := X3.get ht1
  have P3 := X3.pool
  generalize upd H2 o1 (.tup [.bl s1, .ref t1]) = H3 at *
  have b1 : ∀ t ∈ ts1, -60 < t ∧ t < -60 + ((130 : Nat) : Int) := fun t h => by have := hb1 t h; omega
  have c1 : ∀ t ∈ ts1, -20 ≤ t ∧ t < 30 := fun t h => by have := hb1 t h; omega
  clear hb1 es1 h1 X1 X2 X3 no1 nt1
  refine ⟨_, rfl, p, a, 2, rfl, by decide, by decide, P3, fun v2 H4 h4 X4 _ => ⟨rfl, ?_⟩⟩
  obtain ⟨s2, es2⟩ : ∃ st : Bool, st = decide (V.int (v2 : Int) = V.int 1) := ⟨_, rfl⟩
  rw [← es2]
  refine ⟨_, rfl, _, rfl, p, a, 6, 20, -20, rfl, by decide, by decide, by decide, X4.pool, fun t2 ts2 H5 X5 nt2 ht2 hp2 hn2 hb2 => ⟨by show 2 ≤ sizeLine; decide, fun o2 no2 => ?_⟩⟩
  have X6 := (Px.refl X5.pool).new (o := .tup [.bl s2, .ref t2]) no2
  have hT : Two (hid p (upd H5 o2 (.tup [.bl s2, .ref t2]))) o1 t1 o2 t2 s1 s2 ts1 ts2 := ⟨X6.get (X5.get (X4.get ho1)), X6.get (X5.get (X4.get ht1)), X6.seen no2 upd_same, X6.get ht2⟩
  have P6 := X6.pool
  generalize upd H5 o2 (.tup [.bl s2, .ref t2]) = H6 at *
  have b2 : ∀ t ∈ ts2, -60 < t ∧ t < -60 + ((130 : Nat) : Int) := fun t h => by have := hb2 t h; omega
  clear hb2 es2 h4 X4 X5 X6 no2 nt2 ht2 ho1 ht1
  refine ⟨_, rfl, p, a, 6, rfl, by decide, by decide, P6, fun u H7 h7 X7 _ => ?_⟩
  replace hT := hT.ex X7.ex
  have P7 := X7.pool
  clear X7 h7
  refine ⟨fun σ H' => PoolOk p a H' ∧ ∃ (o2 t2 : Addr) (s2 : Bool) (ts2 : List Int), Two (hid p H') o1 t1 o2 t2 s1 s2 ts1 ts2 ∧ ts2.Pairwise (· < ·) ∧ ts2.length ≤ 6 ∧ (∀ t ∈ ts2, -60 < t ∧ t < -60 + ((130 : Nat) : Int)) ∧
    σ = [some (.ref sa), some (.ref p), some (.ref o1), some (.ref o2), some (.int (u : Int)), none, none, none, none, none, none, none, none, none, none, none, none, none, none, none], ?_, ?_⟩
  · refine ⟨_, rfl, _, _, rfl, rfl, _, rfl, ite2 (fun c => ?_) (fun c => ⟨P7, o2, t2, s2, ts2, hT, hp2, hn2, b2, rfl⟩)⟩
    refine ⟨_, rfl, _, _, _, _, rfl, rfl, SqT.of (hid_get hT.a), atI_nat (j := 0) rfl, _, rfl, rfl, rfl, _, rfl, _, _, _, _, rfl, rfl, SqT.of (hid_get hT.a), atI_nat (j := 1) rfl, _, _, rfl, .inl (SqL.of (hid_get hT.t1)), fun t3 nt3 => ⟨by show 2 ≤ sizeLine; decide, fun o3 no3 => ?_⟩⟩
    have X8 := (Px.refl P7).new (o := .lst (ts1.map V.int)) nt3
    have X9 := (Px.refl X8.pool).new (o := .tup [.bl (!decide (V.bl s1 = V.bl (decide (V.int (u : Int) = V.int 1)))), .ref t3]) no3
    exact ⟨X9.pool, o3, t3, _, ts1, ⟨X9.get (X8.get hT.a), X9.get (X8.get hT.t1), X9.seen no3 upd_same, X9.get (X8.seen nt3 upd_same)⟩, hp1, hn1, b1, rfl⟩
  clear hT hp2 hn2 b2 P7 s2 ts2 o2 t2
  rintro σ Hj ⟨Pj, o2, t2, s2, ts2, hT, hp2, hn2, b2, rfl⟩
  refine ⟨_, rfl, _, _, _, _, rfl, rfl, SqT.of (hid_get hT.a), atI_nat (j := 0) rfl, _, rfl, _, _, _, _, rfl, rfl, SqT.of (hid_get hT.a), atI_nat (j := 1) rfl, fun xa da nxa nda ne => ⟨xa, da, t1, s1, ts1, rfl, upd_same, made_old nxa nda (hid_get hT.t1), by omega, fun _ La H8 nLa eb hWa => ⟨rfl, ?_⟩, fun hbad _ _ => ?_⟩⟩
  case refine_2 => rw [ascB_pw hp1] at hbad; cases hbad
  have X8 := Px.ofEx Pj (ExBut.made nxa nda eb)
  have hWa' := hWa.hid_ X8.pool (Pj.ne (made_free nLa))
  replace hT := hT.ex X8.ex
  have P8 := X8.pool
  clear X8 hWa eb nLa nxa nda ne Pj
  refine ⟨_, rfl, _, _, _, _, rfl, rfl, SqT.of (hid_get hT.b), atI_nat (j := 0) rfl, _, rfl, _, _, _, _, rfl, rfl, SqT.of (hid_get hT.b), atI_nat (j := 1) rfl, fun xb db nxb ndb ne => ⟨xb, db, t2, s2, ts2, rfl, upd_same, made_old nxb ndb (hid_get hT.t2), by omega, fun _ Lb H9 nLb eb hWb => ⟨rfl, ?_⟩, fun hbad _ _ => ?_⟩⟩
  case refine_2 => rw [ascB_pw hp2] at hbad; cases hbad
  have X9 := Px.ofEx P8 (ExBut.made nxb ndb eb)
  have hWb' := hWb.hid_ X9.pool (P8.ne (made_free nLb))
  replace hWa' := hWa'.ex X9.ex
  replace hT := hT.ex X9.ex
  have P9 := X9.pool
  clear X9 hWb eb nLb nxb ndb ne P8
  refine ⟨_, rfl, -60, 70, rfl, rfl, ⟨by decide, by decide, by decide, by decide, by decide⟩, fun sp nsp => ?_⟩
  have X10 := (Px.refl P9).new (o := .lst (rgV (-60) 70)) nsp
  have hsp : hid p (upd H9 sp (.lst (rgV (-60) 70))) sp = some (.lst spanV) := X10.seen nsp upd_same
  replace hWa' := hWa'.ex X10.ex
  replace hWb' := hWb'.ex X10.ex
  replace hT := hT.ex X10.ex
  have P10 := X10.pool
  generalize upd H9 sp (.lst (rgV (-60) 70)) = H10 at *
  clear X10 nsp P9
  refine ⟨_, rfl, sp, rfl, ⟨_, SqL.of (hid_get hsp)⟩, fun l1 nl1 => wk_list (K := K) (a := sp) (xs := spanV) (fun j H' => Ex H10 H' ∧ H' l1 = some (.lst ((valsL (wval s1 ts1) (-60) j).map V.bl))) ⟨Ex.new nl1, upd_same⟩ (fun j H' _ g => SqL.of (g.1 _ _ (hid_get hsp))) ?_ ?_⟩
  · rintro j y H2 hy ⟨E2, hD⟩
    obtain ⟨hj, rfl⟩ := spanV_at hy
    refine ⟨rfl, tYes_in ?_⟩
    simp only [wipe, _root_.L2.start, List.map_cons, List.map_nil, List.length_cons, List.length_nil, Nat.reduceAdd, Nat.reduceSub, List.replicate_succ, List.replicate_zero, List.cons_append, List.nil_append, List.set_cons_zero, List.set_cons_succ]
    refine ⟨_, rfl, _, rfl, o1, t1, s1, ts1, _, rfl, E2 _ _ (hid_get hT.a), E2 _ _ (hid_get hT.t1), by omega, fun H3 E3 => ⟨_, E3 _ _ hD, sz_lt (by rw [valsL_len]; omega), (E2.trans E3).mut nl1, ?_⟩⟩
    rw [upd_same, valsL_succ]
  rintro H11 ⟨E11, hl1⟩
  have X11 := Px.ofEx P10 E11
  have hl1' : hid p H11 l1 = some (.lst ((valsL (wval s1 ts1) (-60) 130).map V.bl)) := X11.seen nl1 hl1
  replace hsp := X11.get hsp
  replace hWa' := hWa'.ex X11.ex
  replace hWb' := hWb'.ex X11.ex
  replace hT := hT.ex X11.ex
  have P11 := X11.pool
  clear X11 E11 nl1 hl1 P10
  refine ⟨_, rfl, sp, rfl, ⟨_, SqL.of (hid_get hsp)⟩, fun l2 nl2 => wk_list (K := K) (a := sp) (xs := spanV) (fun j H' => Ex H11 H' ∧ H' l2 = some (.lst ((valsL (wval s2 ts2) (-60) j).map V.bl))) ⟨Ex.new nl2, upd_same⟩ (fun j H' _ g => SqL.of (g.1 _ _ (hid_get hsp))) ?_ ?_⟩
  · rintro j y H2 hy ⟨E2, hD⟩
    obtain ⟨hj, rfl⟩ := spanV_at hy
    refine ⟨rfl, tYes_in ?_⟩
    simp only [wipe, _root_.L2.start, List.map_cons, List.map_nil, List.length_cons, List.length_nil, Nat.reduceAdd, Nat.reduceSub, List.replicate_succ, List.replicate_zero, List.cons_append, List.nil_append, List.set_cons_zero, List.set_cons_succ]
    refine ⟨_, rfl, _, rfl, o2, t2, s2, ts2, _, rfl, E2 _ _ (hid_get hT.b), E2 _ _ (hid_get hT.t2), by omega, fun H3 E3 => ⟨_, E3 _ _ hD, sz_lt (by rw [valsL_len]; omega), (E2.trans E3).mut nl2, ?_⟩⟩
    rw [upd_same, valsL_succ]
  rintro H12 ⟨E12, hl2⟩
  have X12 := Px.ofEx P11 E12
  have hCh : C36 C (hid p H12) o1 t1 sp l1 l2 xa La xb Lb s1 s2 ts1 ts2 := ⟨X12.get hT.a, X12.get hT.t1, X12.get hsp, X12.get hl1', X12.seen nl2 hl2, hWa'.ex X12.ex, hWb'.ex X12.ex⟩
  have P12 := X12.pool
  clear X12 E12 nl2 hl2 P11 hT hsp hl1' hWa' hWb'
  have hX := Px.refl P12
  have hC := hCh.ex hid_ex
  obtain ⟨dxa, hoba⟩ := hC.wa.ob
  obtain ⟨dxb, hobb⟩ := hC.wb.ob
  have hlk : ∀ m : Str, ¬ m = "_changes" → ¬ m = "_start" → (wfl s1 La).lookup m = none := fun m h1 h2 => wfl_no _ _ h1 h2
  refine ⟨_, rfl, _, _, rfl, .inl (SqL.of hC.l1), ?_⟩
  rw [valsL_len]
  refine ⟨_, rfl, xa, dxa, _, rfl, hoba, xa, La, s1, ts1, rfl, hC.wa, by omega, hp1, fun y M Hn En hW => ?_⟩
  refine ⟨_, rfl, l1, rfl, ⟨_, SqL.of (En _ _ hC.l1)⟩, fun DL nDL => wk_list (K := K) (a := l1) (xs := (valsL (wval s1 ts1) (-60) 130).map V.bl) (fun j H2 => Ex Hn H2 ∧ H2 DL = some (.lst ((valsL (fun t => !wval s1 ts1 t) (-60) j).map V.bl))) ⟨Ex.new nDL, upd_same⟩ (fun j H2 _ g => SqL.of (g.1 _ _ (En _ _ hC.l1))) ?_ ?_⟩
  · rintro j y2 H2 hy ⟨E2, hD⟩
    have hj : j < 130 := by have := (List.getElem?_eq_some_iff.mp hy).1; rwa [valsL_len] at this
    rw [valsL_at _ _ hj] at hy
    cases hy
    refine ⟨rfl, tYes_in ?_⟩
    simp only [wipe, _root_.L2.start, List.map_cons, List.map_nil, List.length_cons, List.length_nil, Nat.reduceAdd, Nat.reduceSub, List.replicate_succ, List.replicate_zero, List.cons_append, List.nil_append, List.set_cons_zero, List.set_cons_succ]
    refine ⟨_, rfl, _, rfl, _, hD, sz_lt (by rw [valsL_len]; omega), E2.mut nDL, ?_⟩
    rw [upd_same, valsL_succ]
  rintro Hm ⟨Em, hD⟩
  rw [valsL_len] at hD
  refine ⟨_, rfl, y, M, DL, _, _, fun t => !wval s1 ts1 t, -60, 130, rfl, hW.ex Em, hD, by decide, by decide, (shows_wval hp1).neg, b1, fun He Ee => ⟨_, rfl, iteF ?_⟩⟩
  replace hC := hC.ex (En.trans (Em.trans Ee))
  replace hoba := (En.trans (Em.trans Ee)) _ _ hoba
  replace hobb := (En.trans (Em.trans Ee)) _ _ hobb
  replace hX := hX.more (En.trans (Em.trans Ee))
  clear hW hD nDL En Em Ee
  clear hn hs np E0

  refine ⟨_, rfl, _, rfl, xa, xb, dxa, dxb, _, _, rfl, rfl, hoba, hobb, xa, La, xb, Lb, s1, s2, ts1, ts2, rfl, hC.wa, hC.wb, by omega, by omega, hp1, hp2, fun y M us Hn En hus hm hul hW => ⟨y, rfl, ?_⟩⟩
  refine ⟨_, rfl, 130, rfl, by decide, by decide, fun DL nDL => lc_range (lo := 0) (n := 130) (fun j H2 => Ex Hn H2 ∧ H2 DL = some (.lst ((valsL (fun t => wval s1 ts1 t && wval s2 ts2 t) (-60) j).map V.bl))) ⟨Ex.new nDL, upd_same⟩ ?_ ?_⟩
  · rintro j H2 hj ⟨E2, hD⟩
    refine ⟨rfl, tYes_in ?_⟩
    simp only [wipe, _root_.L2.start, List.map_cons, List.map_nil, List.length_cons, List.length_nil, Nat.reduceAdd, Nat.reduceSub, List.replicate_succ, List.replicate_zero, List.cons_append, List.nil_append, List.set_cons_zero, List.set_cons_succ]
    have h1j := (hC.ex (En.trans E2)).l1
    have h2j := (hC.ex (En.trans E2)).l2
    refine tif_by (tt := tAndV _ _) (fun v H' => v = .bl (wval s1 ts1 (-60 + (j : Int)) && wval s2 ts2 (-60 + (j : Int))) ∧ H' = H2) (fun Q' k => ?_) ?_
    · refine ⟨_, rfl, _, rfl, _, _, _, _, rfl, rfl, SqL.of h1j, at_of (j := j) (by omega) (valsL_at _ _ hj), _, rfl, ?_⟩
      cases hb : wval s1 ts1 (-60 + (j : Int)) with
      | false => exact iteF (k _ _ ⟨by rw [hb]; rfl, rfl⟩)
      | true => exact iteT ⟨_, rfl, _, rfl, _, _, _, _, rfl, rfl, SqL.of h2j, at_of (j := j) (by omega) (valsL_at _ _ hj), k _ _ ⟨by rw [hb]; rfl, rfl⟩⟩
    rintro _ H2 ⟨rfl, rfl⟩
    refine ⟨_, hD, sz_lt (by rw [valsL_len]; omega), E2.mut nDL, ?_⟩
    rw [upd_same, valsL_succ]
  rintro Hm ⟨Em, hD⟩
  refine ⟨_, rfl, y, M, DL, _, _, fun t => wval s1 ts1 t && wval s2 ts2 t, -60, 130, rfl, hW.ex Em, hD, by decide, by decide, (cmb_shows hp1 hp2 hus hm).ext fun t => op2_and _ _, cmb_bound hm b1 b2, fun He Ee => ⟨_, rfl, iteF ?_⟩⟩
  replace hC := hC.ex (En.trans (Em.trans Ee))
  replace hoba := (En.trans (Em.trans Ee)) _ _ hoba
  replace hobb := (En.trans (Em.trans Ee)) _ _ hobb
  replace hX := hX.more (En.trans (Em.trans Ee))
  clear hW hD hul hm hus nDL

  refine ⟨_, rfl, _, rfl, xa, xb, dxa, dxb, _, _, rfl, rfl, hoba, hobb, xa, La, xb, Lb, s1, s2, ts1, ts2, rfl, hC.wa, hC.wb, by omega, by omega, hp1, hp2, fun y M us Hn En hus hm hul hW => ⟨y, rfl, ?_⟩⟩
  refine ⟨_, rfl, 130, rfl, by decide, by decide, fun DL nDL => lc_range (lo := 0) (n := 130) (fun j H2 => Ex Hn H2 ∧ H2 DL = some (.lst ((valsL (fun t => wval s1 ts1 t || wval s2 ts2 t) (-60) j).map V.bl))) ⟨Ex.new nDL, upd_same⟩ ?_ ?_⟩
  · rintro j H2 hj ⟨E2, hD⟩
    refine ⟨rfl, tYes_in ?_⟩
    simp only [wipe, _root_.L2.start, List.map_cons, List.map_nil, List.length_cons, List.length_nil, Nat.reduceAdd, Nat.reduceSub, List.replicate_succ, List.replicate_zero, List.cons_append, List.nil_append, List.set_cons_zero, List.set_cons_succ]
    have h1j := (hC.ex (En.trans E2)).l1
    have h2j := (hC.ex (En.trans E2)).l2
    refine tif_by (tt := tOrV _ _) (fun v H' => v = .bl (wval s1 ts1 (-60 + (j : Int)) || wval s2 ts2 (-60 + (j : Int))) ∧ H' = H2) (fun Q' k => ?_) ?_
    · refine ⟨_, rfl, _, rfl, _, _, _, _, rfl, rfl, SqL.of h1j, at_of (j := j) (by omega) (valsL_at _ _ hj), _, rfl, ?_⟩
      cases hb : wval s1 ts1 (-60 + (j : Int)) with
      | true => exact iteT (k _ _ ⟨by rw [hb]; rfl, rfl⟩)
      | false => exact iteF ⟨_, rfl, _, rfl, _, _, _, _, rfl, rfl, SqL.of h2j, at_of (j := j) (by omega) (valsL_at _ _ hj), k _ _ ⟨by rw [hb]; rfl, rfl⟩⟩
    rintro _ H2 ⟨rfl, rfl⟩
    refine ⟨_, hD, sz_lt (by rw [valsL_len]; omega), E2.mut nDL, ?_⟩
    rw [upd_same, valsL_succ]
  rintro Hm ⟨Em, hD⟩
  refine ⟨_, rfl, y, M, DL, _, _, fun t => wval s1 ts1 t || wval s2 ts2 t, -60, 130, rfl, hW.ex Em, hD, by decide, by decide, (cmb_shows hp1 hp2 hus hm).ext fun t => op2_or _ _, cmb_bound hm b1 b2, fun He Ee => ⟨_, rfl, iteF ?_⟩⟩
  replace hC := hC.ex (En.trans (Em.trans Ee))
  replace hoba := (En.trans (Em.trans Ee)) _ _ hoba
  replace hobb := (En.trans (Em.trans Ee)) _ _ hobb
  replace hX := hX.more (En.trans (Em.trans Ee))
  clear hW hD hul hm hus nDL

  refine ⟨_, rfl, _, rfl, xa, xb, dxa, dxb, _, _, rfl, rfl, hoba, hobb, xa, La, xb, Lb, s1, s2, ts1, ts2, rfl, hC.wa, hC.wb, by omega, by omega, hp1, hp2, fun y M us Hn En hus hm hul hW => ⟨y, rfl, ?_⟩⟩
  refine ⟨_, rfl, 130, rfl, by decide, by decide, fun DL nDL => lc_range (lo := 0) (n := 130) (fun j H2 => Ex Hn H2 ∧ H2 DL = some (.lst ((valsL (fun t => wval s1 ts1 t != wval s2 ts2 t) (-60) j).map V.bl))) ⟨Ex.new nDL, upd_same⟩ ?_ ?_⟩
  · rintro j H2 hj ⟨E2, hD⟩
    refine ⟨rfl, tYes_in ?_⟩
    simp only [wipe, _root_.L2.start, List.map_cons, List.map_nil, List.length_cons, List.length_nil, Nat.reduceAdd, Nat.reduceSub, List.replicate_succ, List.replicate_zero, List.cons_append, List.nil_append, List.set_cons_zero, List.set_cons_succ]
    have h1j := (hC.ex (En.trans E2)).l1
    have h2j := (hC.ex (En.trans E2)).l2
    refine ⟨_, rfl, _, rfl, _, _, _, _, rfl, rfl, SqL.of h1j, at_of (j := j) (by omega) (valsL_at _ _ hj), _, rfl, _, rfl, _, _, _, _, rfl, rfl, SqL.of h2j, at_of (j := j) (by omega) (valsL_at _ _ hj), rfl, ?_⟩
    rw [neb]
    refine ⟨_, hD, sz_lt (by rw [valsL_len]; omega), E2.mut nDL, ?_⟩
    rw [upd_same, valsL_succ]
  rintro Hm ⟨Em, hD⟩
  refine ⟨_, rfl, y, M, DL, _, _, fun t => wval s1 ts1 t != wval s2 ts2 t, -60, 130, rfl, hW.ex Em, hD, by decide, by decide, (cmb_shows hp1 hp2 hus hm).ext fun t => op2_xor _ _, cmb_bound hm b1 b2, fun He Ee => ⟨_, rfl, iteF ?_⟩⟩
  replace hC := hC.ex (En.trans (Em.trans Ee))
  replace hoba := (En.trans (Em.trans Ee)) _ _ hoba
  replace hobb := (En.trans (Em.trans Ee)) _ _ hobb
  replace hX := hX.more (En.trans (Em.trans Ee))
  clear hW hD hul hm hus nDL

  -- shifted
  refine ⟨_, rfl, p, a, 15, rfl, by decide, by decide, hX.pool, fun vb Hd hvb Xd _ => ⟨_, _, rfl, rfl, ?_⟩⟩
  obtain ⟨bv, ebv⟩ : ∃ z : Int, z = (vb : Int) - 7 := ⟨_, rfl⟩
  dsimp only
  rw [← ebv]
  replace hCh := hCh.ex (hX.trans Xd).ex
  replace hX := Px.refl Xd.pool
  replace hC := hCh.ex hid_ex
  clear hoba hobb dxa dxb
  obtain ⟨dxa, hoba⟩ := hC.wa.ob
  obtain ⟨dxb, hobb⟩ := hC.wb.ob
  refine ⟨_, rfl, xa, dxa, _, rfl, hoba, hlk _ (by decide +kernel) (by decide +kernel), _, rfl, xa, La, s1, ts1, bv, rfl, hC.wa, by omega, hp1, fun y M Hn En hW => ?_⟩
  refine ⟨_, rfl, sp, rfl, ⟨_, SqL.of (En _ _ hC.sp)⟩, fun DL nDL => wk_list (K := K) (a := sp) (xs := spanV) (fun j H2 => Ex Hn H2 ∧ H2 DL = some (.lst ((valsL (fun t => wval s1 ts1 (t - bv)) (-60) j).map V.bl))) ⟨Ex.new nDL, upd_same⟩ (fun j H2 _ g => SqL.of (g.1 _ _ (En _ _ hC.sp))) ?_ ?_⟩
  · rintro j y2 H2 hy ⟨E2, hD⟩
    obtain ⟨hj, rfl⟩ := spanV_at hy
    refine ⟨rfl, tYes_in ?_⟩
    simp only [wipe, _root_.L2.start, List.map_cons, List.map_nil, List.length_cons, List.length_nil, Nat.reduceAdd, Nat.reduceSub, List.replicate_succ, List.replicate_zero, List.cons_append, List.nil_append, List.set_cons_zero, List.set_cons_succ]
    have e2 := En.trans E2
    refine ⟨_, rfl, _, rfl, _, rfl, _, _, rfl, rfl, o1, t1, s1, ts1, _, rfl, e2 _ _ hC.o1, e2 _ _ hC.t1, by omega, fun H3 E3 => ⟨_, E3 _ _ hD, sz_lt (by rw [valsL_len]; omega), (E2.trans E3).mut nDL, ?_⟩⟩
    rw [upd_same, valsL_succ]
  rintro Hm ⟨Em, hD⟩
  refine ⟨_, rfl, y, M, DL, _, _, fun t => wval s1 ts1 (t - bv), -60, 130, rfl, hW.ex Em, hD, by decide, by decide, (shows_wval hp1).shift bv, fun t ht => ?_, fun He Ee => ⟨_, rfl, iteF ?_⟩⟩
  · obtain ⟨x, hx, rfl⟩ := List.mem_map.mp ht
    have := c1 x hx
    omega
  replace hC := hC.ex (En.trans (Em.trans Ee))
  replace hoba := (En.trans (Em.trans Ee)) _ _ hoba
  replace hobb := (En.trans (Em.trans Ee)) _ _ hobb
  replace hX := hX.more (En.trans (Em.trans Ee))
  clear hW hD nDL En Em Ee
  -- same_as
  refine ⟨fun σ H' => Px p a Hd H' ∧ σ = [some (.ref sa), some (.ref p), some (.ref o1), some (.ref o2), some (.int (u : Int)), some (.ref xa), some (.ref xb), some (.ref sp), some (.ref l1), some (.ref l2), some (.int ((130 : Nat) : Int)), some (.int bv), none, none, none, none, none, none, none, none], ?_, ?_⟩
  · refine ⟨_, rfl, xa, dxa, _, rfl, hoba, hlk _ (by decide +kernel) (by decide +kernel), _, rfl, xa, La, xb, Lb, s1, s2, ts1, ts2, rfl, hC.wa, hC.wb, ?_⟩
    refine ⟨_, rfl, _, rfl, _, _, dp_bls hC.l1, dp_bls hC.l2, shaped_bls _, shaped_bls _, ?_⟩
    rw [eqv_bls, same_iff hp1 hp2 (by decide) b1 b2]
    refine ⟨_, _, .bl _, rfl, .bl _, .bl _, trivial, _, rfl, iteF ?_⟩
    refine ⟨_, rfl, _, rfl, xa, xb, dxa, dxb, _, _, rfl, rfl, hoba, hobb, xa, La, xb, Lb, s1, s2, ts1, ts2, rfl, hC.wa, hC.wb, by omega, by omega, hp1, hp2, fun y M us Hn En hus hm hul hW => ⟨y, rfl, ?_⟩⟩
    obtain ⟨dy, hoby⟩ := hW.ob
    refine ⟨y, dy, _, rfl, hoby, wfl_no _ _ (by decide +kernel) (by decide +kernel), _, rfl, _, rfl, xb, xa, dxb, dxa, _, _, rfl, rfl, En _ _ hobb, En _ _ hoba, xb, Lb, xa, La, s2, s1, ts2, ts1, rfl, hC.wb.ex En, hC.wa.ex En, by omega, by omega, hp2, hp1, fun z N us2 Hm Em hus2 hm2 hul2 hW2 => ⟨z, rfl, ?_⟩⟩
    refine ⟨y, M, z, N, _, _, _, _, rfl, hW.ex Em, hW2, ?_⟩
    have S1 := cmb_shows (f := op2 [false, false, false, true]) (st1 := s1) (st2 := s2) hp1 hp2 hus hm
    have S2 := (cmb_shows (f := op2 [false, false, false, true]) (st1 := s2) (st2 := s1) hp2 hp1 hus2 hm2).ext (F' := F2 (op2 [false, false, false, true]) s1 s2 ts1 ts2) fun t => by unfold F2; rw [op2_and, op2_and, Bool.and_comm]
    obtain ⟨e1, e2⟩ := S1.uniq S2
    rw [decide_eq_true e1, decide_eq_true e2]
    exact ⟨_, _, .bl true, rfl, .bl _, .bl _, trivial, _, rfl, iteF ⟨hX.more (En.trans Em), rfl⟩⟩
  clear hC hoba hobb hX
  rintro σ Hk ⟨hX, rfl⟩
  -- of bits
  refine ⟨_, rfl, p, a, 10, rfl, by decide, by decide, hX.pool, fun m H13 hm13 X13 _ => ⟨m, rfl, by omega, by omega, fun bl nbl => lc_range (lo := 0) (n := ((m : Nat) : Int).toNat) (fun j H' => Px p a H13 H' ∧ ∃ bs : List Bool, bs.length = j ∧ hid p H' bl = some (.lst (bs.map V.bl))) ⟨(Px.refl X13.pool).new nbl, [], rfl, ((Px.refl X13.pool).new nbl).seen nbl upd_same⟩ ?_ ?_⟩⟩
  · rintro j H2 hj ⟨X2, bs, hbs, hbl⟩
    refine ⟨rfl, tYes_in ?_⟩
    simp only [wipe, _root_.L2.start, List.map_cons, List.map_nil, List.length_cons, List.length_nil, Nat.reduceAdd, Nat.reduceSub, List.replicate_succ, List.replicate_zero, List.cons_append, List.nil_append, List.set_cons_zero, List.set_cons_succ]
    refine ⟨_, rfl, p, a, 2, rfl, by decide, by decide, X2.pool, fun v3 H3 h3 X3 _ => ⟨rfl, _, hid_get (X3.get hbl), sz_lt (by rw [List.length_map]; omega), (X2.trans X3).mut nbl, bs ++ [decide (V.int (v3 : Int) = V.int 1)], by rw [List.length_append, hbs]; rfl, ?_⟩⟩
    rw [hid_ne (hid_neq hbl), upd_same, List.map_append]; rfl
  rintro H14 ⟨X14, bs, hbs, hbl⟩
  rw [Int.toNat_natCast] at hbs
  replace hX := (hX.trans X13).trans X14
  clear X13 X14 nbl
  refine ⟨_, rfl, p, a, 25, rfl, by decide, by decide, hX.pool, fun v4 H15 h15 X15 _ => ⟨_, _, rfl, rfl, _, rfl, p, a, 2, rfl, by decide, by decide, X15.pool, fun v5 H16 h16 X16 _ => ⟨rfl, _, rfl, p, a, 2, rfl, by decide, by decide, X16.pool, fun v6 H17 h17 X17 _ => ⟨rfl, ?_⟩⟩⟩⟩
  obtain ⟨at_, eat⟩ : ∃ z : Int, z = (v4 : Int) - 12 := ⟨_, rfl⟩
  dsimp only
  rw [← eat]
  obtain ⟨bf, ebf⟩ : ∃ z : Bool, z = decide (V.int (v5 : Int) = V.int 1) := ⟨_, rfl⟩
  rw [← ebf]
  obtain ⟨af, eaf⟩ : ∃ z : Bool, z = decide (V.int (v6 : Int) = V.int 1) := ⟨_, rfl⟩
  rw [← eaf]
  replace hbl := X17.get (X16.get (X15.get hbl))
  replace hX := ((hX.trans X15).trans X16).trans X17
  replace hCh := hCh.ex hX.ex
  replace hC := hCh.ex hid_ex
  replace hbl := hid_get hbl
  clear X15 X16 X17 ebf eaf hX hCh
  have sum : (at_ + 60).toNat + bs.length + (70 - at_ - (bs.length : Int)).toNat = 130 := by omega
  have hat : (((at_ + 60).toNat : Nat) : Int) = at_ + 60 := by omega
  have hbb : ∀ bf af, ∀ t ∈ obL bf at_ bs af (bs.length + 1), -60 < t ∧ t < -60 + ((130 : Nat) : Int) := fun bf af t ht => by
    have := ob_bound ht
    omega
  have hlb : (bs.map V.bl).length = bs.length := by rw [List.length_map]
  refine ⟨_, rfl, by show 1 ≤ sizeLine; decide, fun q1 nq1 => ⟨_, rfl, _, _, rfl, rfl, q1, _, _, rfl, rfl, upd_same, by omega, by omega, sz_of (by show 1 * _ ≤ _; omega), fun q2 nq2 => ⟨_, rfl, q2, bl, _, _, rfl, rfl, upd_same, (Ex.new nq2) _ _ ((Ex.new nq1) _ _ hbl), sz_of (by rw [rep_one, List.length_replicate, hlb]; omega), fun q3 nq3 => ?_⟩⟩⟩
  have Ea := (Ex.new (o := .lst [.bl bf]) nq1).trans ((Ex.new (o := .lst (List.replicate (at_ + 60).toNat [.bl bf]).flatten) nq2).trans (Ex.new (o := .lst ((List.replicate (at_ + 60).toNat [.bl bf]).flatten ++ bs.map V.bl)) nq3))
  have h3 : upd (upd (upd H17 q1 (.lst [.bl bf])) q2 (.lst (List.replicate (at_ + 60).toNat [.bl bf]).flatten)) q3 (.lst ((List.replicate (at_ + 60).toNat [.bl bf]).flatten ++ bs.map V.bl)) q3 = some (.lst ((List.replicate (at_ + 60).toNat [.bl bf]).flatten ++ bs.map V.bl)) := upd_same
  replace hC := hC.ex Ea
  replace hbl := Ea _ _ hbl
  generalize upd (upd (upd H17 q1 (.lst [.bl bf])) q2 (.lst (List.replicate (at_ + 60).toNat [.bl bf]).flatten)) q3 (.lst ((List.replicate (at_ + 60).toNat [.bl bf]).flatten ++ bs.map V.bl)) = HA1 at *
  clear Ea
  refine ⟨_, rfl, by show 1 ≤ sizeLine; decide, fun q4 nq4 => ⟨_, rfl, _, _, rfl, rfl, _, rfl, _, _, rfl, .inl (SqL.of ((Ex.new nq4) _ _ hbl)), ?_⟩⟩
  rw [hlb]
  refine ⟨_, _, rfl, rfl, q4, _, _, rfl, rfl, upd_same, by omega, by omega, sz_of (by show 1 * _ ≤ _; omega), fun q5 nq5 => ⟨q3, q5, _, _, rfl, rfl, (Ex.new nq5) _ _ ((Ex.new nq4) _ _ h3), upd_same, sz_of (by rw [rep_one, rep_one, List.length_append, List.length_replicate, List.length_replicate, hlb]; omega), fun q6 nq6 => ?_⟩⟩
  rw [rep_one, rep_one]
  have Eb := (Ex.new (o := .lst [.bl af]) nq4).trans ((Ex.new (o := .lst (List.replicate (70 - at_ - (bs.length : Int)).toNat [.bl af]).flatten) nq5).trans (Ex.new (o := .lst (List.replicate (at_ + 60).toNat (.bl bf) ++ bs.map V.bl ++ List.replicate (70 - at_ - (bs.length : Int)).toNat (.bl af))) nq6))
  rw [rep_one] at Eb
  have hdue : upd (upd (upd HA1 q4 (.lst [.bl af])) q5 (.lst (List.replicate (70 - at_ - (bs.length : Int)).toNat (.bl af)))) q6 (.lst (List.replicate (at_ + 60).toNat (.bl bf) ++ bs.map V.bl ++ List.replicate (70 - at_ - (bs.length : Int)).toNat (.bl af))) q6 = some (.lst ((valsL (obG bf at_ bs af) (-60) 130).map V.bl)) := by
    rw [upd_same, ← due_vals hat sum, List.map_append, List.map_append, List.map_replicate, List.map_replicate]
  replace hC := hC.ex Eb
  replace hbl := Eb _ _ hbl
  generalize upd (upd (upd HA1 q4 (.lst [.bl af])) q5 (.lst (List.replicate (70 - at_ - (bs.length : Int)).toNat (.bl af)))) q6 (.lst (List.replicate (at_ + 60).toNat (.bl bf) ++ bs.map V.bl ++ List.replicate (70 - at_ - (bs.length : Int)).toNat (.bl af))) = HB1 at *
  clear Eb h3
  refine ⟨rfl, _, rfl, _, rfl, _, rfl, _, rfl, rfl, rfl, bl, bs, at_, bf, af, rfl, hbl, by omega, by omega, by omega, fun z M Hn En hW => ?_⟩
  refine ⟨_, rfl, _, rfl, z, M, q6, bf, _, obG bf at_ bs af, -60, 130, rfl, hW, En _ _ hdue, by decide, by decide, ob_shows bf at_ bs af, hbb bf af, fun He Ee => ⟨_, rfl, iteF ?_⟩⟩
  replace hC := hC.ex (En.trans Ee)
  replace hbl := (En.trans Ee) _ _ hbl
  clear hW hdue En Ee
  refine ⟨by show 1 ≤ sizeLine; decide, fun q1 nq1 => ⟨_, rfl, _, _, rfl, rfl, q1, _, _, rfl, rfl, upd_same, by omega, by omega, sz_of (by show 1 * _ ≤ _; omega), fun q2 nq2 => ⟨_, rfl, q2, bl, _, _, rfl, rfl, upd_same, (Ex.new nq2) _ _ ((Ex.new nq1) _ _ hbl), sz_of (by rw [rep_one, List.length_replicate, hlb]; omega), fun q3 nq3 => ?_⟩⟩⟩
  have Ea := (Ex.new (o := .lst [.bl false]) nq1).trans ((Ex.new (o := .lst (List.replicate (at_ + 60).toNat [.bl false]).flatten) nq2).trans (Ex.new (o := .lst ((List.replicate (at_ + 60).toNat [.bl false]).flatten ++ bs.map V.bl)) nq3))
  have h3 : upd (upd (upd He q1 (.lst [.bl false])) q2 (.lst (List.replicate (at_ + 60).toNat [.bl false]).flatten)) q3 (.lst ((List.replicate (at_ + 60).toNat [.bl false]).flatten ++ bs.map V.bl)) q3 = some (.lst ((List.replicate (at_ + 60).toNat [.bl false]).flatten ++ bs.map V.bl)) := upd_same
  replace hC := hC.ex Ea
  replace hbl := Ea _ _ hbl
  generalize upd (upd (upd He q1 (.lst [.bl false])) q2 (.lst (List.replicate (at_ + 60).toNat [.bl false]).flatten)) q3 (.lst ((List.replicate (at_ + 60).toNat [.bl false]).flatten ++ bs.map V.bl)) = HA2 at *
  clear Ea
  refine ⟨by show 1 ≤ sizeLine; decide, fun q4 nq4 => ⟨_, rfl, _, _, rfl, rfl, _, rfl, _, _, rfl, .inl (SqL.of ((Ex.new nq4) _ _ hbl)), ?_⟩⟩
  rw [hlb]
  refine ⟨_, _, rfl, rfl, q4, _, _, rfl, rfl, upd_same, by omega, by omega, sz_of (by show 1 * _ ≤ _; omega), fun q5 nq5 => ⟨q3, q5, _, _, rfl, rfl, (Ex.new nq5) _ _ ((Ex.new nq4) _ _ h3), upd_same, sz_of (by rw [rep_one, rep_one, List.length_append, List.length_replicate, List.length_replicate, hlb]; omega), fun q6 nq6 => ?_⟩⟩
  rw [rep_one, rep_one]
  have Eb := (Ex.new (o := .lst [.bl false]) nq4).trans ((Ex.new (o := .lst (List.replicate (70 - at_ - (bs.length : Int)).toNat [.bl false]).flatten) nq5).trans (Ex.new (o := .lst (List.replicate (at_ + 60).toNat (.bl false) ++ bs.map V.bl ++ List.replicate (70 - at_ - (bs.length : Int)).toNat (.bl false))) nq6))
  rw [rep_one] at Eb
  have hdue : upd (upd (upd HA2 q4 (.lst [.bl false])) q5 (.lst (List.replicate (70 - at_ - (bs.length : Int)).toNat (.bl false)))) q6 (.lst (List.replicate (at_ + 60).toNat (.bl false) ++ bs.map V.bl ++ List.replicate (70 - at_ - (bs.length : Int)).toNat (.bl false))) q6 = some (.lst ((valsL (obG false at_ bs false) (-60) 130).map V.bl)) := by
    rw [upd_same, ← due_vals hat sum, List.map_append, List.map_append, List.map_replicate, List.map_replicate]
  replace hC := hC.ex Eb
  replace hbl := Eb _ _ hbl
  generalize upd (upd (upd HA2 q4 (.lst [.bl false])) q5 (.lst (List.replicate (70 - at_ - (bs.length : Int)).toNat (.bl false)))) q6 (.lst (List.replicate (at_ + 60).toNat (.bl false) ++ bs.map V.bl ++ List.replicate (70 - at_ - (bs.length : Int)).toNat (.bl false))) = HB2 at *
  clear Eb h3
  refine ⟨rfl, _, rfl, _, rfl, bl, bs, at_, false, false, rfl, hbl, by omega, by omega, by omega, fun z M Hn En hW => ?_⟩
  refine ⟨_, rfl, _, rfl, z, M, q6, false, _, obG false at_ bs false, -60, 130, rfl, hW, En _ _ hdue, by decide, by decide, ob_shows false at_ bs false, hbb false false, fun He Ee => ⟨_, rfl, iteT ?_⟩⟩
  replace hC := hC.ex (En.trans Ee)
  refine ⟨_, rfl, _, rfl, _, rfl, xa, La, l1, s1, ts1, wval s1 ts1, -60, 130, rfl, hC.wa, hC.l1, by decide, by decide, shows_wval hp1, b1, fun Hf Ef => ⟨_, rfl, iteT ?_⟩⟩
  replace hC := hC.ex Ef
  exact ⟨_, rfl, _, rfl, _, rfl, xb, Lb, l2, s2, ts2, wval s2 ts2, -60, 130, rfl, hC.wb, hC.l2, by decide, by decide, shows_wval hp2, b2, fun Hg Eg => q Hg⟩
end
end G
namespace G
open PySem PySem.Spec PyProof.Rows L2
/-- the defs and the built-in names as the top has left them -/
structure All (K : PySem.W.Frag) (mg : Str → Option Value) : Prop where
  d_wall : Dfd K mg "_wall" s_wall ["k"]
  d_is_ascending : Dfd K mg "is_ascending" s_is_ascending ["numbers"]
  d_look_up : Dfd K mg "look_up" s_look_up ["table", "bits"]
  d_law_same : Dfd K mg "_law_same" s_law_same ["actual", "due"]
  d_law_pool : Dfd K mg "_law_pool" s_law_pool ["script"]
  d_law_spread : Dfd K mg "_law_spread" s_law_spread ["cell"]
  d_law_draw : Dfd K mg "_law_draw" s_law_draw ["pool", "many"]
  d_law_changes : Dfd K mg "_law_changes" s_law_changes ["pool", "most", "first", "wide"]
  d_law_wave_value : Dfd K mg "_law_wave_value" s_law_wave_value ["wave", "time"]
  d_law_is : Dfd K mg "_law_is" s_law_is ["wave", "values", "first"]
  z_all : mg "all" = none
  z_range : mg "range" = none
  z_len : mg "len" = none
  z_sum : mg "sum" = none
  z_enumerate : mg "enumerate" = none
  z_list : mg "list" = none
  z_set : mg "set" = none
  z_sorted : mg "sorted" = none
  z_property : mg "property" = none
  z_classmethod : mg "classmethod" = none
  z_isinstance : mg "isinstance" = none
  z_tuple : mg "tuple" = none
  z_bool : mg "bool" = none
  z_int : mg "int" = none
  z_str : mg "str" = none
  z_ValueError : mg "ValueError" = none
  c_BOTH : ∃ a, mg "BOTH" = some (.ref a) ∧ ∀ H, SqT K H a [.bl false, .bl false, .bl false, .bl true]
  c_EITHER : ∃ a, mg "EITHER" = some (.ref a) ∧ ∀ H, SqT K H a [.bl false, .bl true, .bl true, .bl true]
  c_DIFFERENT : ∃ a, mg "DIFFERENT" = some (.ref a) ∧ ∀ H, SqT K H a [.bl false, .bl true, .bl true, .bl false]
  k_Waveform : ∃ C : Addr, Cl_Waveform K mg C
  e_BadArgument : ∃ C : Addr, ExcH K mg "BadArgument" C
end G
namespace G
open PySem PySem.Spec PyProof.Rows L2
theorem glue {P : Program} {w : World} {K : PySem.W.Frag} {mg : Str → Option Value} {base : Heap} (A : All K mg) {f : Addr} {fd : FuncData} (F : Fun K "law" "law" s_law f fd) : FnOk P w K mg base CX0 6 f fd ["script"] (spLaw K) := by
  have TL : TxtL mg := ⟨A.z_int, A.z_len, A.z_list, A.z_range⟩
  have TS : TxtS mg := ⟨A.z_isinstance, A.z_tuple, A.z_list, A.z_len, A.z_range, A.z_bool, A.z_int, A.z_str⟩
  have TW : TxtW mg := ⟨A.z_len, A.z_all, A.z_range, A.z_list⟩
  have TV : TxtV mg := ⟨A.z_sum, A.z_enumerate, A.z_set, A.z_sorted, A.z_list⟩
  obtain ⟨B, U⟩ := A.e_BadArgument
  obtain ⟨C, W⟩ := A.k_Waveform
  obtain ⟨fi, di, Mi, Fi, bi⟩ := W.m_init
  obtain ⟨fc, dc, Mc, Fc, bc⟩ := W.m_changes
  obtain ⟨f1, d1, M1, F1, b1⟩ := W.m_shifted
  obtain ⟨f2, d2, M2, F2, b2⟩ := W.m_invert
  obtain ⟨f3, d3, M3, F3, b3⟩ := W.m_and
  obtain ⟨f4, d4, M4, F4, b4⟩ := W.m_or
  obtain ⟨f5, d5, M5, F5, b5⟩ := W.m_xor
  obtain ⟨f6, d6, M6, F6, b6⟩ := W.m_same_as
  obtain ⟨p7, f7, d7, R7, M7, F7, k7, ds7, v7, b7⟩ := W.m_of_bits
  obtain ⟨f8, d8, M8, F8, b8⟩ := W.m_combined
  obtain ⟨ps, fs, ds, Ps, Fs, bs⟩ := W.p_start
  have hd := drawX (P := P) (w := w) (base := base) (ok_law_draw A.d_law_draw TL (ok_law_spread A.d_law_spread TL))
  have gi := ok_Waveform_init (P := P) (w := w) (base := base) Fi W TW U.u (ok_is_ascending A.d_is_ascending TW)
  have gc := ok_Waveform_combined (P := P) (w := w) (base := base) F8 W TV (ok_look_up2 A.d_look_up TV) Mi gi bi
  exact fn_law F TS W (ok_law_pool A.d_law_pool TL) hd (ok_law_changes A.d_law_changes TS hd) (ok_law_wave_value A.d_law_wave_value TS)
    (ok_law_is A.d_law_is TS W (ok_law_same A.d_law_same TS 2) Mc (ok_Waveform_changes Fc W TW) bc Ps (ok_Waveform_start Fs W) bs)
    (ok_law_same A.d_law_same TS 2) Mi gi bi M2 (ok_Waveform_invert F2 W Mi gi bi) b2 M3 (ok_Waveform_and F3 W A.c_BOTH M8 gc b8) b3 M4 (ok_Waveform_or F4 W A.c_EITHER M8 gc b8) b4
    M5 (ok_Waveform_xor F5 W A.c_DIFFERENT M8 gc b8) b5 M6 (ok_Waveform_same_as F6 W) b6 M1 (ok_Waveform_shifted F1 W Mi gi bi) b1 R7 M7 (ok_Waveform_of_bits F7 TV Mi gi bi) k7 v7 b7
end G
namespace G
open PySem PySem.Spec PyProof.Rows L2
theorem all_mk {l : PySem.W.OpenLaw} {w : World} {K : PySem.W.Frag} {h : Heap} {mg : Str → Option Value} {fa f0 f1 f2 f3 f4 f5 f6 f7 f8 f9 f10 : Addr} (X : K.In h) (G : h.Ns mainGlobals mg) (hfa : mg "law" = some (.ref fa))
    {od0 an0 od1 an1 od2 an2 od3 an3 od4 an4 od5 an5 od6 an6 od7 an7 od8 an8 od9 an9 od10 an10 : Option Addr} {sl0 sl1 sl2 sl3 sl4 sl5 sl6 sl7 sl8 sl9 sl10 : Array (Option Value)} {oc0 kv0 dc0 pm0 cd0 ct0 oc1 kv1 dc1 pm1 cd1 ct1 oc2 kv2 dc2 pm2 cd2 ct2 oc3 kv3 dc3 pm3 cd3 ct3 oc4 kv4 dc4 pm4 cd4 ct4 oc5 kv5 dc5 pm5 cd5 ct5 oc6 kv6 dc6 pm6 cd6 ct6 oc7 kv7 dc7 pm7 cd7 ct7 oc8 kv8 dc8 pm8 cd8 ct8 oc9 kv9 dc9 pm9 cd9 ct9 oc10 kv10 dc10 pm10 cd10 ct10 : Value}
    (a0 : PySem.W.nsIn K mainGlobals "_wall" = some (some (.ref f0))) (l0 : K.lookup f0 = some ⟨oc0, od0, .func (PySem.W.fnOf "_wall" "_wall" (defArgs s_wall) (defBody s_wall) (defScope s_wall) .none kv0 dc0 pm0 an0 cd0 ct0), sl0⟩) (c0 : PySem.W.codeIn K cd0 "_wall" = true) (k0 : PySem.W.keepIn K (.ref f0) = true)
    (a1 : PySem.W.nsIn K mainGlobals "is_ascending" = some (some (.ref f1))) (l1 : K.lookup f1 = some ⟨oc1, od1, .func (PySem.W.fnOf "is_ascending" "is_ascending" (defArgs s_is_ascending) (defBody s_is_ascending) (defScope s_is_ascending) .none kv1 dc1 pm1 an1 cd1 ct1), sl1⟩) (c1 : PySem.W.codeIn K cd1 "is_ascending" = true) (k1 : PySem.W.keepIn K (.ref f1) = true)
    (a2 : PySem.W.nsIn K mainGlobals "look_up" = some (some (.ref f2))) (l2 : K.lookup f2 = some ⟨oc2, od2, .func (PySem.W.fnOf "look_up" "look_up" (defArgs s_look_up) (defBody s_look_up) (defScope s_look_up) .none kv2 dc2 pm2 an2 cd2 ct2), sl2⟩) (c2 : PySem.W.codeIn K cd2 "look_up" = true) (k2 : PySem.W.keepIn K (.ref f2) = true)
    (a3 : PySem.W.nsIn K mainGlobals "_law_same" = some (some (.ref f3))) (l3 : K.lookup f3 = some ⟨oc3, od3, .func (PySem.W.fnOf "_law_same" "_law_same" (defArgs s_law_same) (defBody s_law_same) (defScope s_law_same) .none kv3 dc3 pm3 an3 cd3 ct3), sl3⟩) (c3 : PySem.W.codeIn K cd3 "_law_same" = true) (k3 : PySem.W.keepIn K (.ref f3) = true)
    (a4 : PySem.W.nsIn K mainGlobals "_law_pool" = some (some (.ref f4))) (l4 : K.lookup f4 = some ⟨oc4, od4, .func (PySem.W.fnOf "_law_pool" "_law_pool" (defArgs s_law_pool) (defBody s_law_pool) (defScope s_law_pool) .none kv4 dc4 pm4 an4 cd4 ct4), sl4⟩) (c4 : PySem.W.codeIn K cd4 "_law_pool" = true) (k4 : PySem.W.keepIn K (.ref f4) = true)
    (a5 : PySem.W.nsIn K mainGlobals "_law_spread" = some (some (.ref f5))) (l5 : K.lookup f5 = some ⟨oc5, od5, .func (PySem.W.fnOf "_law_spread" "_law_spread" (defArgs s_law_spread) (defBody s_law_spread) (defScope s_law_spread) .none kv5 dc5 pm5 an5 cd5 ct5), sl5⟩) (c5 : PySem.W.codeIn K cd5 "_law_spread" = true) (k5 : PySem.W.keepIn K (.ref f5) = true)
    (a6 : PySem.W.nsIn K mainGlobals "_law_draw" = some (some (.ref f6))) (l6 : K.lookup f6 = some ⟨oc6, od6, .func (PySem.W.fnOf "_law_draw" "_law_draw" (defArgs s_law_draw) (defBody s_law_draw) (defScope s_law_draw) .none kv6 dc6 pm6 an6 cd6 ct6), sl6⟩) (c6 : PySem.W.codeIn K cd6 "_law_draw" = true) (k6 : PySem.W.keepIn K (.ref f6) = true)
    (a7 : PySem.W.nsIn K mainGlobals "_law_changes" = some (some (.ref f7))) (l7 : K.lookup f7 = some ⟨oc7, od7, .func (PySem.W.fnOf "_law_changes" "_law_changes" (defArgs s_law_changes) (defBody s_law_changes) (defScope s_law_changes) .none kv7 dc7 pm7 an7 cd7 ct7), sl7⟩) (c7 : PySem.W.codeIn K cd7 "_law_changes" = true) (k7 : PySem.W.keepIn K (.ref f7) = true)
    (a8 : PySem.W.nsIn K mainGlobals "_law_wave_value" = some (some (.ref f8))) (l8 : K.lookup f8 = some ⟨oc8, od8, .func (PySem.W.fnOf "_law_wave_value" "_law_wave_value" (defArgs s_law_wave_value) (defBody s_law_wave_value) (defScope s_law_wave_value) .none kv8 dc8 pm8 an8 cd8 ct8), sl8⟩) (c8 : PySem.W.codeIn K cd8 "_law_wave_value" = true) (k8 : PySem.W.keepIn K (.ref f8) = true)
    (a9 : PySem.W.nsIn K mainGlobals "_law_is" = some (some (.ref f9))) (l9 : K.lookup f9 = some ⟨oc9, od9, .func (PySem.W.fnOf "_law_is" "_law_is" (defArgs s_law_is) (defBody s_law_is) (defScope s_law_is) .none kv9 dc9 pm9 an9 cd9 ct9), sl9⟩) (c9 : PySem.W.codeIn K cd9 "_law_is" = true) (k9 : PySem.W.keepIn K (.ref f9) = true)
    (a10 : PySem.W.nsIn K mainGlobals "law" = some (some (.ref f10))) (l10 : K.lookup f10 = some ⟨oc10, od10, .func (PySem.W.fnOf "law" "law" (defArgs s_law) (defBody s_law) (defScope s_law) .none kv10 dc10 pm10 an10 cd10 ct10), sl10⟩) (c10 : PySem.W.codeIn K cd10 "law" = true) (k10 : PySem.W.keepIn K (.ref f10) = true)
    {ca0 : Addr} {cdd0 : Option Addr} {cn0 : Nat} {csl0 : Array (Option Value)} (g0 : PySem.W.nsIn K mainGlobals "BOTH" = some (some (.ref ca0))) (h0 : K.lookup ca0 = some ⟨.type "tuple", cdd0, .seq #[.bool false, .bool false, .bool false, .bool true] cn0, csl0⟩)
    {ca1 : Addr} {cdd1 : Option Addr} {cn1 : Nat} {csl1 : Array (Option Value)} (g1 : PySem.W.nsIn K mainGlobals "EITHER" = some (some (.ref ca1))) (h1 : K.lookup ca1 = some ⟨.type "tuple", cdd1, .seq #[.bool false, .bool true, .bool true, .bool true] cn1, csl1⟩)
    {ca2 : Addr} {cdd2 : Option Addr} {cn2 : Nat} {csl2 : Array (Option Value)} (g2 : PySem.W.nsIn K mainGlobals "DIFFERENT" = some (some (.ref ca2))) (h2 : K.lookup ca2 = some ⟨.type "tuple", cdd2, .seq #[.bool false, .bool true, .bool true, .bool false] cn2, csl2⟩)
    {xC0 : Addr} (u0_0 : PySem.W.nsIn K mainGlobals "BadArgument" = some (some (.ref xC0))) (u0_1 : PySem.W.excIn K xC0 [.type "ValueError", .type "Exception", .type "BaseException", .type "object"] "ValueError.__new__" = true) (u0_2 : PySem.W.keepIn K (.ref xC0) = true) (u0_3 : PySem.W.subIn K (.ref xC0) (.type "BaseException") = some true) (u0_4 : PySem.W.typeIn K (.ref xC0) = some (.type "type")) (u0_5 : PySem.W.hasDictIn K xC0 = true) (u0_6 : PySem.W.subIn K (.ref xC0) (.ref xC0) = some true)
    {yC0 : Addr} {f0m0 : Addr} {od0m0 an0m0 : Option Addr} {sl0m0 : Array (Option Value)} {oc0m0 kv0m0 dc0m0 pm0m0 cd0m0 ct0m0 : Value} {f0m1 : Addr} {od0m1 an0m1 : Option Addr} {sl0m1 : Array (Option Value)} {oc0m1 kv0m1 dc0m1 pm0m1 cd0m1 ct0m1 : Value} {f0m2 : Addr} {od0m2 an0m2 : Option Addr} {sl0m2 : Array (Option Value)} {oc0m2 kv0m2 dc0m2 pm0m2 cd0m2 ct0m2 : Value} {f0m3 : Addr} {od0m3 an0m3 : Option Addr} {sl0m3 : Array (Option Value)} {oc0m3 kv0m3 dc0m3 pm0m3 cd0m3 ct0m3 : Value} {f0m4 : Addr} {od0m4 an0m4 : Option Addr} {sl0m4 : Array (Option Value)} {oc0m4 kv0m4 dc0m4 pm0m4 cd0m4 ct0m4 : Value} {f0m5 : Addr} {od0m5 an0m5 : Option Addr} {sl0m5 : Array (Option Value)} {oc0m5 kv0m5 dc0m5 pm0m5 cd0m5 ct0m5 : Value} {f0m6 : Addr} {od0m6 an0m6 : Option Addr} {sl0m6 : Array (Option Value)} {oc0m6 kv0m6 dc0m6 pm0m6 cd0m6 ct0m6 : Value} {f0m7 : Addr} {od0m7 an0m7 : Option Addr} {sl0m7 : Array (Option Value)} {oc0m7 kv0m7 dc0m7 pm0m7 cd0m7 ct0m7 : Value} {p0m8 : Addr} {rs0m8 : List Value} {f0m8 kd0m8 : Addr} {od0m8 an0m8 : Option Addr} {sl0m8 : Array (Option Value)} {oc0m8 dc0m8 pm0m8 cd0m8 ct0m8 : Value} {f0m9 : Addr} {od0m9 an0m9 : Option Addr} {sl0m9 : Array (Option Value)} {oc0m9 kv0m9 dc0m9 pm0m9 cd0m9 ct0m9 : Value} {f0p0 : Addr} {od0p0 an0p0 : Option Addr} {sl0p0 : Array (Option Value)} {oc0p0 kv0p0 dc0p0 pm0p0 cd0p0 ct0p0 : Value} {p0p0 : Addr} {rs0p0 : List Value}
    (y0_0 : PySem.W.nsIn K mainGlobals "Waveform" = some (some (.ref yC0))) (y0_4 : PySem.W.findIn K (.ref yC0) "__setattr__" = some (some (.builtin "object.__setattr__"))) (y0_11 : PySem.W.findIn K (.ref yC0) "__init__" = some (some (.ref f0m0))) (y0_16 : PySem.W.findIn K (.ref yC0) "changes" = some (some (.ref f0m1))) (y0_21 : PySem.W.findIn K (.ref yC0) "shifted" = some (some (.ref f0m2))) (y0_26 : PySem.W.findIn K (.ref yC0) "__invert__" = some (some (.ref f0m3))) (y0_31 : PySem.W.findIn K (.ref yC0) "__and__" = some (some (.ref f0m4))) (y0_36 : PySem.W.findIn K (.ref yC0) "__or__" = some (some (.ref f0m5))) (y0_41 : PySem.W.findIn K (.ref yC0) "__xor__" = some (some (.ref f0m6))) (y0_46 : PySem.W.findIn K (.ref yC0) "same_as" = some (some (.ref f0m7))) (y0_48 : PySem.W.findCls K (.ref yC0) (.type "type") "of_bits" = some (.get (.builtin "classmethod.__get__") (.ref p0m8) .none (.ref yC0))) (y0_61 : PySem.W.findIn K (.ref yC0) "_combined" = some (some (.ref f0m9))) (y0_66 : PySem.W.findIn K (.ref yC0) "start" = some (some (.ref p0p0))) (y0_70 : PySem.W.findIn K (.ref yC0) "_start" = some none) (y0_71 : PySem.W.findIn K (.ref yC0) "_changes" = some none) (y0_49 : PySem.W.recIn K p0m8 "classmethod" = some (.ref f0m8 :: rs0m8)) (y0_69 : PySem.W.recIn K p0p0 "property" = some (.ref f0p0 :: rs0p0)) (y0_1 : PySem.W.plainGet K yC0 Str.empty = true) (y0_2 : PySem.W.hasDictIn K yC0 = true) (y0_3 : PySem.W.plainOver K yC0 = true) (y0_5 : PySem.W.makesIn K yC0 = true) (y0_6 : PySem.W.keepIn K (.ref yC0) = true) (y0_7 : PySem.W.selfFirst K yC0 = true) (y0_8 : K.lookup f0m0 = some ⟨oc0m0, od0m0, .func (PySem.W.fnOf "__init__" "Waveform.__init__" (defArgs s_Waveform_init) (defBody s_Waveform_init) (defScope s_Waveform_init) .none kv0m0 dc0m0 pm0m0 an0m0 cd0m0 ct0m0), sl0m0⟩) (y0_9 : PySem.W.codeIn K cd0m0 "Waveform.__init__" = true) (y0_10 : PySem.W.keepIn K (.ref f0m0) = true) (y0_12 : PySem.W.isFn K (.ref f0m0) = true) (y0_13 : K.lookup f0m1 = some ⟨oc0m1, od0m1, .func (PySem.W.fnOf "changes" "Waveform.changes" (defArgs s_Waveform_changes) (defBody s_Waveform_changes) (defScope s_Waveform_changes) .none kv0m1 dc0m1 pm0m1 an0m1 cd0m1 ct0m1), sl0m1⟩) (y0_14 : PySem.W.codeIn K cd0m1 "Waveform.changes" = true) (y0_15 : PySem.W.keepIn K (.ref f0m1) = true) (y0_17 : PySem.W.isFn K (.ref f0m1) = true) (y0_18 : K.lookup f0m2 = some ⟨oc0m2, od0m2, .func (PySem.W.fnOf "shifted" "Waveform.shifted" (defArgs s_Waveform_shifted) (defBody s_Waveform_shifted) (defScope s_Waveform_shifted) .none kv0m2 dc0m2 pm0m2 an0m2 cd0m2 ct0m2), sl0m2⟩) (y0_19 : PySem.W.codeIn K cd0m2 "Waveform.shifted" = true) (y0_20 : PySem.W.keepIn K (.ref f0m2) = true) (y0_22 : PySem.W.isFn K (.ref f0m2) = true) (y0_23 : K.lookup f0m3 = some ⟨oc0m3, od0m3, .func (PySem.W.fnOf "__invert__" "Waveform.__invert__" (defArgs s_Waveform_invert) (defBody s_Waveform_invert) (defScope s_Waveform_invert) .none kv0m3 dc0m3 pm0m3 an0m3 cd0m3 ct0m3), sl0m3⟩) (y0_24 : PySem.W.codeIn K cd0m3 "Waveform.__invert__" = true) (y0_25 : PySem.W.keepIn K (.ref f0m3) = true) (y0_27 : PySem.W.isFn K (.ref f0m3) = true) (y0_28 : K.lookup f0m4 = some ⟨oc0m4, od0m4, .func (PySem.W.fnOf "__and__" "Waveform.__and__" (defArgs s_Waveform_and) (defBody s_Waveform_and) (defScope s_Waveform_and) .none kv0m4 dc0m4 pm0m4 an0m4 cd0m4 ct0m4), sl0m4⟩) (y0_29 : PySem.W.codeIn K cd0m4 "Waveform.__and__" = true) (y0_30 : PySem.W.keepIn K (.ref f0m4) = true) (y0_32 : PySem.W.isFn K (.ref f0m4) = true) (y0_33 : K.lookup f0m5 = some ⟨oc0m5, od0m5, .func (PySem.W.fnOf "__or__" "Waveform.__or__" (defArgs s_Waveform_or) (defBody s_Waveform_or) (defScope s_Waveform_or) .none kv0m5 dc0m5 pm0m5 an0m5 cd0m5 ct0m5), sl0m5⟩) (y0_34 : PySem.W.codeIn K cd0m5 "Waveform.__or__" = true) (y0_35 : PySem.W.keepIn K (.ref f0m5) = true) (y0_37 : PySem.W.isFn K (.ref f0m5) = true) (y0_38 : K.lookup f0m6 = some ⟨oc0m6, od0m6, .func (PySem.W.fnOf "__xor__" "Waveform.__xor__" (defArgs s_Waveform_xor) (defBody s_Waveform_xor) (defScope s_Waveform_xor) .none kv0m6 dc0m6 pm0m6 an0m6 cd0m6 ct0m6), sl0m6⟩) (y0_39 : PySem.W.codeIn K cd0m6 "Waveform.__xor__" = true) (y0_40 : PySem.W.keepIn K (.ref f0m6) = true) (y0_42 : PySem.W.isFn K (.ref f0m6) = true) (y0_43 : K.lookup f0m7 = some ⟨oc0m7, od0m7, .func (PySem.W.fnOf "same_as" "Waveform.same_as" (defArgs s_Waveform_same_as) (defBody s_Waveform_same_as) (defScope s_Waveform_same_as) .none kv0m7 dc0m7 pm0m7 an0m7 cd0m7 ct0m7), sl0m7⟩) (y0_44 : PySem.W.codeIn K cd0m7 "Waveform.same_as" = true) (y0_45 : PySem.W.keepIn K (.ref f0m7) = true) (y0_47 : PySem.W.isFn K (.ref f0m7) = true) (y0_50 : K.lookup f0m8 = some ⟨oc0m8, od0m8, .func (PySem.W.fnOf "of_bits" "Waveform.of_bits" (defArgs s_Waveform_of_bits) (defBody s_Waveform_of_bits) (defScope s_Waveform_of_bits) .none (.ref kd0m8) dc0m8 pm0m8 an0m8 cd0m8 ct0m8), sl0m8⟩) (y0_51 : PySem.W.codeIn K cd0m8 "Waveform.of_bits" = true) (y0_52 : PySem.W.keepIn K (.ref f0m8) = true) (y0_53 : PySem.W.nsIn K kd0m8 "before" = some (some (.bool false))) (y0_54 : PySem.W.nsIn K kd0m8 "after" = some (some (.bool false))) (y0_55 : PySem.W.fnIn K f0m8 = true) (y0_56 : PySem.W.readsIn K yC0 (.type "type") = true) (y0_57 : PySem.W.specialIn K (.ref yC0) "__getattribute__" = some (some (.builtin "type.__getattribute__"))) (y0_58 : K.lookup f0m9 = some ⟨oc0m9, od0m9, .func (PySem.W.fnOf "_combined" "Waveform._combined" (defArgs s_Waveform_combined) (defBody s_Waveform_combined) (defScope s_Waveform_combined) .none kv0m9 dc0m9 pm0m9 an0m9 cd0m9 ct0m9), sl0m9⟩) (y0_59 : PySem.W.codeIn K cd0m9 "Waveform._combined" = true) (y0_60 : PySem.W.keepIn K (.ref f0m9) = true) (y0_62 : PySem.W.isFn K (.ref f0m9) = true) (y0_63 : K.lookup f0p0 = some ⟨oc0p0, od0p0, .func (PySem.W.fnOf "start" "Waveform.start" (defArgs s_Waveform_start) (defBody s_Waveform_start) (defScope s_Waveform_start) .none kv0p0 dc0p0 pm0p0 an0p0 cd0p0 ct0p0), sl0p0⟩) (y0_64 : PySem.W.codeIn K cd0p0 "Waveform.start" = true) (y0_65 : PySem.W.keepIn K (.ref f0p0) = true) (y0_67 : PySem.W.specialIn K (.ref p0p0) "__get__" = some (some (.builtin "property.__get__"))) (y0_68 : PySem.W.takesIn K (.ref p0p0) = some true)
    (z0 : PySem.W.nsIn K mainGlobals "all" = some none) (z1 : PySem.W.nsIn K mainGlobals "range" = some none) (z2 : PySem.W.nsIn K mainGlobals "len" = some none) (z3 : PySem.W.nsIn K mainGlobals "sum" = some none) (z4 : PySem.W.nsIn K mainGlobals "enumerate" = some none) (z5 : PySem.W.nsIn K mainGlobals "list" = some none) (z6 : PySem.W.nsIn K mainGlobals "set" = some none) (z7 : PySem.W.nsIn K mainGlobals "sorted" = some none) (z8 : PySem.W.nsIn K mainGlobals "property" = some none) (z9 : PySem.W.nsIn K mainGlobals "classmethod" = some none) (z10 : PySem.W.nsIn K mainGlobals "isinstance" = some none) (z11 : PySem.W.nsIn K mainGlobals "tuple" = some none) (z12 : PySem.W.nsIn K mainGlobals "bool" = some none) (z13 : PySem.W.nsIn K mainGlobals "int" = some none) (z14 : PySem.W.nsIn K mainGlobals "str" = some none) (z15 : PySem.W.nsIn K mainGlobals "ValueError" = some none) :
    ∃ fd : FuncData, (∀ (s : Shared) (v : Value), BindsTo s fd ⟨[v], []⟩ [("script", v)]) ∧ ∀ base : Heap, K.In base → base.Ns mainGlobals mg → FnOk l.prog w K mg base CX0 6 fa fd ["script"] (spLaw K) := by
  have e := hfa.symm.trans (PySem.W.mg_of X G a10)
  cases e
  have F0 := fun_mk (st := s_wall) l0 c0 k0
  have F1 := fun_mk (st := s_is_ascending) l1 c1 k1
  have F2 := fun_mk (st := s_look_up) l2 c2 k2
  have F3 := fun_mk (st := s_law_same) l3 c3 k3
  have F4 := fun_mk (st := s_law_pool) l4 c4 k4
  have F5 := fun_mk (st := s_law_spread) l5 c5 k5
  have F6 := fun_mk (st := s_law_draw) l6 c6 k6
  have F7 := fun_mk (st := s_law_changes) l7 c7 k7
  have F8 := fun_mk (st := s_law_wave_value) l8 c8 k8
  have F9 := fun_mk (st := s_law_is) l9 c9 k9
  have F10 := fun_mk (st := s_law) l10 c10 k10
  have A : All K mg := ⟨⟨f0, _, F0, PySem.W.mg_of X G a0, F0.binds (ps := ["k"]) fun _ _ _ _ _ _ us hl => match us, hl with | [_], _ => rfl⟩,
    ⟨f1, _, F1, PySem.W.mg_of X G a1, F1.binds (ps := ["numbers"]) fun _ _ _ _ _ _ us hl => match us, hl with | [_], _ => rfl⟩,
    ⟨f2, _, F2, PySem.W.mg_of X G a2, F2.binds (ps := ["table", "bits"]) fun _ _ _ _ _ _ us hl => match us, hl with | [_, _], _ => rfl⟩,
    ⟨f3, _, F3, PySem.W.mg_of X G a3, F3.binds (ps := ["actual", "due"]) fun _ _ _ _ _ _ us hl => match us, hl with | [_, _], _ => rfl⟩,
    ⟨f4, _, F4, PySem.W.mg_of X G a4, F4.binds (ps := ["script"]) fun _ _ _ _ _ _ us hl => match us, hl with | [_], _ => rfl⟩,
    ⟨f5, _, F5, PySem.W.mg_of X G a5, F5.binds (ps := ["cell"]) fun _ _ _ _ _ _ us hl => match us, hl with | [_], _ => rfl⟩,
    ⟨f6, _, F6, PySem.W.mg_of X G a6, F6.binds (ps := ["pool", "many"]) fun _ _ _ _ _ _ us hl => match us, hl with | [_, _], _ => rfl⟩,
    ⟨f7, _, F7, PySem.W.mg_of X G a7, F7.binds (ps := ["pool", "most", "first", "wide"]) fun _ _ _ _ _ _ us hl => match us, hl with | [_, _, _, _], _ => rfl⟩,
    ⟨f8, _, F8, PySem.W.mg_of X G a8, F8.binds (ps := ["wave", "time"]) fun _ _ _ _ _ _ us hl => match us, hl with | [_, _], _ => rfl⟩,
    ⟨f9, _, F9, PySem.W.mg_of X G a9, F9.binds (ps := ["wave", "values", "first"]) fun _ _ _ _ _ _ us hl => match us, hl with | [_, _, _], _ => rfl⟩,
    PySem.W.mg_none_of X G z0,
    PySem.W.mg_none_of X G z1,
    PySem.W.mg_none_of X G z2,
    PySem.W.mg_none_of X G z3,
    PySem.W.mg_none_of X G z4,
    PySem.W.mg_none_of X G z5,
    PySem.W.mg_none_of X G z6,
    PySem.W.mg_none_of X G z7,
    PySem.W.mg_none_of X G z8,
    PySem.W.mg_none_of X G z9,
    PySem.W.mg_none_of X G z10,
    PySem.W.mg_none_of X G z11,
    PySem.W.mg_none_of X G z12,
    PySem.W.mg_none_of X G z13,
    PySem.W.mg_none_of X G z14,
    PySem.W.mg_none_of X G z15,
    ⟨ca0, PySem.W.mg_of X G g0, fun _ => .inr ⟨_, _, _, h0, rfl, rfl, (by show 4 ≤ sizeLine; decide), (.cons rfl (.cons rfl (.cons rfl (.cons rfl .nil))))⟩⟩,
    ⟨ca1, PySem.W.mg_of X G g1, fun _ => .inr ⟨_, _, _, h1, rfl, rfl, (by show 4 ≤ sizeLine; decide), (.cons rfl (.cons rfl (.cons rfl (.cons rfl .nil))))⟩⟩,
    ⟨ca2, PySem.W.mg_of X G g2, fun _ => .inr ⟨_, _, _, h2, rfl, rfl, (by show 4 ≤ sizeLine; decide), (.cons rfl (.cons rfl (.cons rfl (.cons rfl .nil))))⟩⟩,
    ⟨yC0, ⟨PySem.W.mg_of X G y0_0, ⟨y0_1, y0_2, y0_3, y0_4⟩, y0_7, ⟨f0m0, _, ⟨y0_5, y0_11, y0_12, y0_6⟩, (fun_mk (st := s_Waveform_init) y0_8 y0_9 y0_10), (fun_mk (st := s_Waveform_init) y0_8 y0_9 y0_10).binds (ps := ["self", "start", "changes"]) fun _ _ _ _ _ _ us hl => match us, hl with | [_, _, _], _ => rfl⟩, ⟨f0m1, _, ⟨y0_16, y0_17, y0_15⟩, (fun_mk (st := s_Waveform_changes) y0_13 y0_14 y0_15), (fun_mk (st := s_Waveform_changes) y0_13 y0_14 y0_15).binds (ps := ["self"]) fun _ _ _ _ _ _ us hl => match us, hl with | [_], _ => rfl⟩, ⟨f0m2, _, ⟨y0_21, y0_22, y0_20⟩, (fun_mk (st := s_Waveform_shifted) y0_18 y0_19 y0_20), (fun_mk (st := s_Waveform_shifted) y0_18 y0_19 y0_20).binds (ps := ["self", "by"]) fun _ _ _ _ _ _ us hl => match us, hl with | [_, _], _ => rfl⟩, ⟨f0m3, _, ⟨y0_26, y0_27, y0_25⟩, (fun_mk (st := s_Waveform_invert) y0_23 y0_24 y0_25), (fun_mk (st := s_Waveform_invert) y0_23 y0_24 y0_25).binds (ps := ["self"]) fun _ _ _ _ _ _ us hl => match us, hl with | [_], _ => rfl⟩, ⟨f0m4, _, ⟨y0_31, y0_32, y0_30⟩, (fun_mk (st := s_Waveform_and) y0_28 y0_29 y0_30), (fun_mk (st := s_Waveform_and) y0_28 y0_29 y0_30).binds (ps := ["self", "other"]) fun _ _ _ _ _ _ us hl => match us, hl with | [_, _], _ => rfl⟩, ⟨f0m5, _, ⟨y0_36, y0_37, y0_35⟩, (fun_mk (st := s_Waveform_or) y0_33 y0_34 y0_35), (fun_mk (st := s_Waveform_or) y0_33 y0_34 y0_35).binds (ps := ["self", "other"]) fun _ _ _ _ _ _ us hl => match us, hl with | [_, _], _ => rfl⟩, ⟨f0m6, _, ⟨y0_41, y0_42, y0_40⟩, (fun_mk (st := s_Waveform_xor) y0_38 y0_39 y0_40), (fun_mk (st := s_Waveform_xor) y0_38 y0_39 y0_40).binds (ps := ["self", "other"]) fun _ _ _ _ _ _ us hl => match us, hl with | [_, _], _ => rfl⟩, ⟨f0m7, _, ⟨y0_46, y0_47, y0_45⟩, (fun_mk (st := s_Waveform_same_as) y0_43 y0_44 y0_45), (fun_mk (st := s_Waveform_same_as) y0_43 y0_44 y0_45).binds (ps := ["self", "other"]) fun _ _ _ _ _ _ us hl => match us, hl with | [_, _], _ => rfl⟩, ⟨p0m8, f0m8, _, ⟨y0_56, y0_57⟩, ⟨y0_48, ⟨_, y0_49⟩, y0_55⟩, (fun_mk (st := s_Waveform_of_bits) y0_50 y0_51 y0_52), Fun.kbn2 (n := 3) (ps := ["cls", "first", "bits", "before", "after"]) (fun_mk (st := s_Waveform_of_bits) y0_50 y0_51 y0_52) fun _ _ _ _ _ _ _ _ us hl => match us, hl with | [_, _, _], _ => rfl, kwd2 (y := "before") (z := "after") (n := 3) (ps := ["cls", "first", "bits", "before", "after"]) (st := s_Waveform_of_bits) y0_50 y0_51 y0_52 ⟨_, y0_53, rfl⟩ ⟨_, y0_54, rfl⟩ fun _ _ _ _ _ _ us ks h1 h2 => match us, ks, h1, h2 with | [_, _, _], [_, _], _, _ => ⟨_, _, _, _, _, _, rfl, rfl, ⟨_, _, _, _, _, _, rfl, rfl, rfl⟩⟩⟩, ⟨f0m9, _, ⟨y0_61, y0_62, y0_60⟩, (fun_mk (st := s_Waveform_combined) y0_58 y0_59 y0_60), (fun_mk (st := s_Waveform_combined) y0_58 y0_59 y0_60).binds (ps := ["self", "other", "table"]) fun _ _ _ _ _ _ us hl => match us, hl with | [_, _, _], _ => rfl⟩, ⟨p0p0, f0p0, _, ⟨y0_66, y0_67, y0_68, _, y0_69⟩, (fun_mk (st := s_Waveform_start) y0_63 y0_64 y0_65), (fun_mk (st := s_Waveform_start) y0_63 y0_64 y0_65).binds (ps := ["self"]) fun _ _ _ _ _ _ us hl => match us, hl with | [_], _ => rfl⟩, y0_70, y0_71⟩⟩,
    ⟨xC0, ⟨⟨PySem.W.mg_of X G u0_0, u0_1, u0_2, u0_3, u0_4⟩, u0_5, u0_6⟩⟩⟩
  exact ⟨_, fun s v => .of_eq rfl, fun base _ _ => glue A F10⟩
end G
open PySem PySem.W PyProof.Rows
set_option maxRecDepth 100000 in
set_option maxHeartbeats 0 in
theorem PySem.Challenge.cw_signoff_k36_waveforms_combined_holds : PySem.Challenge.rw_signoff_k36_waveforms_combined.Holds := by
  w_on; o_law; k_head; (case hw => w_witness2)
  k_fill
  refine L2.walk_of (l := PySem.Challenge.rw_signoff_k36_waveforms_combined) (n := 63) (k := 6) (x := "script") (CX := fun _ => L2.CX0) (sp := fun w => G.spLaw _) rfl (by decide) rfl ⟨rfl, by decide, by decide⟩ (fun w h Y => PySem.W.kIn_of Y) ?F (fun _ _ a ns hl _ hS => ⟨a, ns, rfl, hS, hl, fun _ => rfl⟩) (fun _ _ _ _ _ h => h)
  case F =>
    intro w mg fa h KX GN hmg
    refine' G.all_mk KX GN hmg ?a0 ?l0 ?c0 ?k0 ?a1 ?l1 ?c1 ?k1 ?a2 ?l2 ?c2 ?k2 ?a3 ?l3 ?c3 ?k3 ?a4 ?l4 ?c4 ?k4 ?a5 ?l5 ?c5 ?k5 ?a6 ?l6 ?c6 ?k6 ?a7 ?l7 ?c7 ?k7 ?a8 ?l8 ?c8 ?k8 ?a9 ?l9 ?c9 ?k9 ?a10 ?l10 ?c10 ?k10 ?cg0 ?ch0 ?cg1 ?ch1 ?cg2 ?ch2 ?xu0_0 ?xu0_1 ?xu0_2 ?xu0_3 ?xu0_4 ?xu0_5 ?xu0_6 ?vy0_0 ?vy0_4 ?vy0_11 ?vy0_16 ?vy0_21 ?vy0_26 ?vy0_31 ?vy0_36 ?vy0_41 ?vy0_46 ?vy0_48 ?vy0_61 ?vy0_66 ?vy0_70 ?vy0_71 ?vy0_49 ?vy0_69 ?vy0_1 ?vy0_2 ?vy0_3 ?vy0_5 ?vy0_6 ?vy0_7 ?vy0_8 ?vy0_9 ?vy0_10 ?vy0_12 ?vy0_13 ?vy0_14 ?vy0_15 ?vy0_17 ?vy0_18 ?vy0_19 ?vy0_20 ?vy0_22 ?vy0_23 ?vy0_24 ?vy0_25 ?vy0_27 ?vy0_28 ?vy0_29 ?vy0_30 ?vy0_32 ?vy0_33 ?vy0_34 ?vy0_35 ?vy0_37 ?vy0_38 ?vy0_39 ?vy0_40 ?vy0_42 ?vy0_43 ?vy0_44 ?vy0_45 ?vy0_47 ?vy0_50 ?vy0_51 ?vy0_52 ?vy0_53 ?vy0_54 ?vy0_55 ?vy0_56 ?vy0_57 ?vy0_58 ?vy0_59 ?vy0_60 ?vy0_62 ?vy0_63 ?vy0_64 ?vy0_65 ?vy0_67 ?vy0_68 ?z0 ?z1 ?z2 ?z3 ?z4 ?z5 ?z6 ?z7 ?z8 ?z9 ?z10 ?z11 ?z12 ?z13 ?z14 ?z15
    (case a0 => k_is)
    (case l0 => k_is)
    (case c0 => k_is)
    (case k0 => k_is)
    (case a1 => k_is)
    (case l1 => k_is)
    (case c1 => k_is)
    (case k1 => k_is)
    (case a2 => k_is)
    (case l2 => k_is)
    (case c2 => k_is)
    (case k2 => k_is)
    (case a3 => k_is)
    (case l3 => k_is)
    (case c3 => k_is)
    (case k3 => k_is)
    (case a4 => k_is)
    (case l4 => k_is)
    (case c4 => k_is)
    (case k4 => k_is)
    (case a5 => k_is)
    (case l5 => k_is)
    (case c5 => k_is)
    (case k5 => k_is)
    (case a6 => k_is)
    (case l6 => k_is)
    (case c6 => k_is)
    (case k6 => k_is)
    (case a7 => k_is)
    (case l7 => k_is)
    (case c7 => k_is)
    (case k7 => k_is)
    (case a8 => k_is)
    (case l8 => k_is)
    (case c8 => k_is)
    (case k8 => k_is)
    (case a9 => k_is)
    (case l9 => k_is)
    (case c9 => k_is)
    (case k9 => k_is)
    (case a10 => k_is)
    (case l10 => k_is)
    (case c10 => k_is)
    (case k10 => k_is)
    (case cg0 => k_is)
    (case ch0 => k_is)
    (case cg1 => k_is)
    (case ch1 => k_is)
    (case cg2 => k_is)
    (case ch2 => k_is)
    (case xu0_0 => first | k_exc | k_is | rfl)
    (case xu0_1 => first | k_exc | k_is | rfl)
    (case xu0_2 => first | k_exc | k_is | rfl)
    (case xu0_3 => first | k_exc | k_is | rfl)
    (case xu0_4 => first | k_exc | k_is | rfl)
    (case xu0_5 => first | k_exc | k_is | rfl)
    (case xu0_6 => first | k_exc | k_is | rfl)
    (case vy0_0 => k_is)
    (case vy0_4 => k_is)
    (case vy0_11 => k_is)
    (case vy0_16 => k_is)
    (case vy0_21 => k_is)
    (case vy0_26 => k_is)
    (case vy0_31 => k_is)
    (case vy0_36 => k_is)
    (case vy0_41 => k_is)
    (case vy0_46 => k_is)
    (case vy0_48 => k_is)
    (case vy0_61 => k_is)
    (case vy0_66 => k_is)
    (case vy0_70 => k_is)
    (case vy0_71 => k_is)
    (case vy0_49 => k_is)
    (case vy0_69 => k_is)
    (case vy0_1 => k_is)
    (case vy0_2 => k_is)
    (case vy0_3 => k_is)
    (case vy0_5 => k_is)
    (case vy0_6 => k_is)
    (case vy0_7 => k_is)
    (case vy0_8 => k_is)
    (case vy0_9 => k_is)
    (case vy0_10 => k_is)
    (case vy0_12 => k_is)
    (case vy0_13 => k_is)
    (case vy0_14 => k_is)
    (case vy0_15 => k_is)
    (case vy0_17 => k_is)
    (case vy0_18 => k_is)
    (case vy0_19 => k_is)
    (case vy0_20 => k_is)
    (case vy0_22 => k_is)
    (case vy0_23 => k_is)
    (case vy0_24 => k_is)
    (case vy0_25 => k_is)
    (case vy0_27 => k_is)
    (case vy0_28 => k_is)
    (case vy0_29 => k_is)
    (case vy0_30 => k_is)
    (case vy0_32 => k_is)
    (case vy0_33 => k_is)
    (case vy0_34 => k_is)
    (case vy0_35 => k_is)
    (case vy0_37 => k_is)
    (case vy0_38 => k_is)
    (case vy0_39 => k_is)
    (case vy0_40 => k_is)
    (case vy0_42 => k_is)
    (case vy0_43 => k_is)
    (case vy0_44 => k_is)
    (case vy0_45 => k_is)
    (case vy0_47 => k_is)
    (case vy0_50 => k_is)
    (case vy0_51 => k_is)
    (case vy0_52 => k_is)
    (case vy0_53 => k_is)
    (case vy0_54 => k_is)
    (case vy0_55 => k_is)
    (case vy0_56 => k_is)
    (case vy0_57 => k_is)
    (case vy0_58 => k_is)
    (case vy0_59 => k_is)
    (case vy0_60 => k_is)
    (case vy0_62 => k_is)
    (case vy0_63 => k_is)
    (case vy0_64 => k_is)
    (case vy0_65 => k_is)
    (case vy0_67 => k_is)
    (case vy0_68 => k_is)
    (case z0 => k_is)
    (case z1 => k_is)
    (case z2 => k_is)
    (case z3 => k_is)
    (case z4 => k_is)
    (case z5 => k_is)
    (case z6 => k_is)
    (case z7 => k_is)
    (case z8 => k_is)
    (case z9 => k_is)
    (case z10 => k_is)
    (case z11 => k_is)
    (case z12 => k_is)
    (case z13 => k_is)
    (case z14 => k_is)
    (case z15 => k_is)
#print axioms PySem.Challenge.cw_signoff_k36_waveforms_combined_holds
