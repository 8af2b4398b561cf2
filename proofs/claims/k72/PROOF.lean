import PyProof.Rows.All
import Wide.All
import OpenK.AllK
import Wide.FinOn
import HandS.ForMost
import HandS.Evl
import HandS.Wide
import HandS.WideBits
import HandS.Flow
import HandS.IsInst
import HandS.TupAny
import HandS.Walk
import HandS.Zip
import HandS.Steps
import KE.GoesMore
import KE.GoesEnum
import KE.KEqSeq
import HandS.StrMore
import PyProof.StrLawsFirst
import KE.IntTextLaws
import PyProof.Rows.StrDigitsNeg
import HandS.FStr
import HandS.Style
import HandS.ForExc
import HandS.ExcIs
import HandS.CallSlots
import HandS.Property
import HandS.Small
import HandS.SetTxt0
import HandS.Set
import HandS.SetFor
import HandS.Strs
import HandS.DictComp
import KE.GoesSet
import HandS.More
import KE.GoesComp
import KE.GoesRaise
import PyProof.Rows.StrMul
import KE.IntTextText
import PySem.Challenge.RW_signoff_k72_reports_refused
set_option Elab.async false
set_option linter.all false
set_option maxRecDepth 100000
set_option maxHeartbeats 4000000
set_option Elab.async false
set_option linter.all false
set_option maxRecDepth 100000
set_option maxHeartbeats 4000000
namespace G
open PySem PySem.Spec PyProof.Rows L2 Evl
/-! ## defs by name -/
def Dfd (K : PySem.W.Frag) (mg : Str → Option Value) (x : Str) (st : Stmt) (ps : List Str) : Prop := ∃ (f : Addr) (fd : FuncData), Fun K x x st f fd ∧ mg x = some (.ref f) ∧ Binds K fd ps []
def Has (P : Program) (w : World) (K : PySem.W.Frag) (mg : Str → Option Value) (base : Heap) (k : Nat) (x : Str) (ps : List Str) (sp : Sp) : Prop :=
  ∃ (f : Addr) (fd : FuncData), FnOk P w K mg base CX0 k f fd ps sp ∧ mg x = some (.ref f) ∧ PySem.W.keepIn K (.ref f) = true ∧ Binds K fd ps []
section
variable {P : Program} {w : World} {K : PySem.W.Frag} {mg : Str → Option Value} {base : Heap}
theorem Dfd.has {x : Str} {st : Stmt} {ps : List Str} {k : Nat} {sp : Sp} (d : Dfd K mg x st ps) (h : ∀ f fd, Fun K x x st f fd → FnOk P w K mg base CX0 k f fd ps sp) : Has P w K mg base k x ps sp := by
  obtain ⟨f, fd, F, g, b⟩ := d
  exact ⟨f, fd, h f fd F, g, F.kp, b⟩
theorem Has.mono {x : Str} {ps : List Str} {j k : Nat} {sp : Sp} (h : Has P w K mg base j x ps sp) (l : j ≤ k) : Has P w K mg base k x ps sp := by
  obtain ⟨f, fd, F, g⟩ := h
  exact ⟨f, fd, F.mono l, g⟩
theorem Has.imp {x : Str} {ps : List Str} {k : Nat} {sp sp' : Sp} (h : Has P w K mg base k x ps sp) (i : ∀ vs H Q E, sp' vs H Q E → sp vs H Q E) : Has P w K mg base k x ps sp' := by
  obtain ⟨f, fd, F, g⟩ := h
  exact ⟨f, fd, F.imp i, g⟩
end
/-! ## heaps -/
theorem sq_ex {K : PySem.W.Frag} {H H' : Hp} {a : Addr} {xs : List V} (e : Ex H H') (h : SqL K H a xs) : SqL K H' a xs := ex_l e h
/-- the heap without what stands at p -/
def hid (p : Addr) (H : Hp) : Hp := fun b => if b = p then none else H b
theorem hid_self {p : Addr} {H : Hp} : hid p H p = none := by unfold hid; rw [if_pos rfl]
theorem hid_ne {p b : Addr} {H : Hp} (h : b ≠ p) : hid p H b = H b := by unfold hid; rw [if_neg h]
theorem hid_get {p b : Addr} {H : Hp} {o : HO} (h : hid p H b = some o) : H b = some o := by
  by_cases e : b = p
  · subst e; rw [hid_self] at h; cases h
  · rw [hid_ne e] at h; exact h
theorem hid_neq {p b : Addr} {H : Hp} {o : HO} (h : hid p H b = some o) : b ≠ p := by
  intro e; subst e; rw [hid_self] at h; cases h
theorem hid_ex {p : Addr} {H : Hp} : Ex (hid p H) H := fun _ _ h => hid_get h
theorem hid_upd {p : Addr} {H : Hp} {o : HO} : hid p (upd H p o) = hid p H := by
  funext b
  by_cases e : b = p
  · subst e; rw [hid_self, hid_self]
  · rw [hid_ne e, hid_ne e, upd_ne e]
theorem hid_upd_ne {p q : Addr} {H : Hp} {o : HO} (h : q ≠ p) : hid p (upd H q o) = upd (hid p H) q o := by
  funext b
  by_cases e2 : b = q
  · subst e2; rw [hid_ne h, upd_same, upd_same]
  · rw [upd_ne e2]
    by_cases e : b = p
    · subst e; rw [hid_self, hid_self]
    · rw [hid_ne e, hid_ne e, upd_ne e2]
theorem hid_none {p b : Addr} {H : Hp} (h : H b = none) : hid p H b = none := by
  unfold hid; split
  · rfl
  · exact h
/-! ## the pool of draws: the list at p, the script's copy at a -/
def PoolOk (p a : Addr) (H : Hp) : Prop := ∃ (ns : List Int) (i : Nat) (c k s : Int), H p = some (.lst [.ref a, .int i, .int c, .int k, .int s]) ∧ hid p H a = some (.lst (ns.map V.int)) ∧ ns.length ≤ 1000
/-- from H to H' all but the pool is kept, and the pool is a pool -/
structure Px (p a : Addr) (H H' : Hp) : Prop where
  was : PoolOk p a H
  pool : PoolOk p a H'
  ex : Ex (hid p H) (hid p H')
section
variable {p a : Addr} {H H1 H2 H' : Hp}
theorem Px.refl (h : PoolOk p a H) : Px p a H H := ⟨h, h, Ex.refl _⟩
theorem Px.trans (x : Px p a H H1) (y : Px p a H1 H2) : Px p a H H2 := ⟨x.was, y.pool, x.ex.trans y.ex⟩
theorem PoolOk.ne {b : Addr} (h : PoolOk p a H) (n : H b = none) : b ≠ p := by
  obtain ⟨_, _, _, _, _, e, _⟩ := h
  exact (ne_of_none e n).symm
theorem PoolOk.ne2 {b : Addr} (h : PoolOk p a H) (n : H b = none) : a ≠ b := by
  obtain ⟨_, _, _, _, _, _, e, _⟩ := h
  exact ne_of_none (hid_get e) n
theorem PoolOk.kept (h : PoolOk p a H) (e : Ex H H') : PoolOk p a H' := by
  obtain ⟨ns, i, c, k, s, h1, h2, h3⟩ := h
  exact ⟨ns, i, c, k, s, e _ _ h1, by rw [hid_ne (hid_neq h2)]; exact e _ _ (hid_get h2), h3⟩
theorem Px.ofEx (h : PoolOk p a H) (e : Ex H H') : Px p a H H' := ⟨h, h.kept e, fun b o hb => by rw [hid_ne (hid_neq hb)]; exact e _ _ (hid_get hb)⟩
theorem Px.more (x : Px p a H H1) (e : Ex H1 H2) : Px p a H H2 := x.trans (Px.ofEx x.pool e)
theorem Px.draw {o : HO} (w : PoolOk p a H) (h : PoolOk p a (upd H p o)) : Px p a H (upd H p o) := ⟨w, h, by rw [hid_upd]; exact Ex.refl _⟩
theorem Px.new (x : Px p a H H1) {l : Addr} {o : HO} (n : H1 l = none) : Px p a H (upd H1 l o) := x.more (Ex.new n)
/-- what H has is kept -/
theorem Px.get (x : Px p a H H1) {b : Addr} {o : HO} (h : hid p H b = some o) : hid p H1 b = some o := x.ex _ _ h
theorem Px.at_ (x : Px p a H H1) {b : Addr} {o : HO} (h : hid p H b = some o) : H1 b = some o := hid_get (x.ex _ _ h)
theorem Px.free (x : Px p a H H1) {b : Addr} (n : H1 b = none) : H b = none := by
  cases e : H b with
  | none => rfl
  | some o =>
    have hb : b ≠ p := x.pool.ne n
    have := x.ex b o (by rw [hid_ne hb]; exact e)
    rw [hid_get this] at n; cases n
/-- an object that H does not have may change -/
theorem Px.mut (x : Px p a H H1) {l : Addr} {o : HO} (n : H l = none) : Px p a H (upd H1 l o) := by
  have hl : l ≠ p := x.was.ne n
  have ha : a ≠ l := x.was.ne2 n
  refine ⟨x.was, ?_, ?_⟩
  · obtain ⟨ns, i, c, k, s, h1, h2, h3⟩ := x.pool
    exact ⟨ns, i, c, k, s, by rw [upd_ne hl.symm]; exact h1, by rw [hid_upd_ne hl, upd_ne ha]; exact h2, h3⟩
  · rw [hid_upd_ne hl]; exact Ex.mut x.ex (hid_none n)
/-- a fresh object stands apart from the pool -/
theorem Px.seen (x : Px p a H H1) {l : Addr} {o : HO} (n : H l = none) (e : H1 l = some o) : hid p H1 l = some o := by
  rw [hid_ne (x.was.ne n)]; exact e
end
end G
namespace G
open PySem PySem.Spec PyProof.Rows L2 Evl
/-! ## comprehensions whose elements are plain values -/
theorem given_all {n : Nat} {v : Nat → V} : given n (fun _ => true) v = (List.range n).map v := by
  unfold given
  rw [List.filter_eq_self.mpr (fun _ _ => rfl)]
section
variable {lo : Int} {n j : Nat} {tt : TT} {te : TE} {vs : List Nat} {σ : L2.St} {H1 : Hp} {D : Addr} {Qd : Hp → Prop} {K : PySem.W.Frag} {a : Addr} {xs : List V}
theorem lc_turn {f : Nat → Bool} {v : Nat → V} {i : Nat} {H : Hp} {σ2 : L2.St} (e : H = upd H1 D (.lst (given i f v))) (hi : i < 100000) (ht : Ans tt σ2 H (f i)) (he : f i = true → Val te σ2 H (v i)) :
    tt σ2 H fun b H3 => if b = true then te σ2 H3 fun y H4 => ∃ acc, H4 D = some (.lst acc) ∧ acc.length < sizeLine ∧ (upd H4 D (.lst (acc ++ [y]))) = upd H1 D (.lst (given (i + 1) f v)) else H3 = upd H1 D (.lst (given (i + 1) f v)) := by
  refine ht _ ?_
  subst e
  cases hf : f i with
  | true =>
    refine iteT (he hf _ ⟨_, upd_same, sz_lt (by have := given_len i f v; omega), ?_⟩)
    rw [given_yes hf, upd_upd]
  | false =>
    refine iteF ?_
    rw [given_no hf]
theorem lcR (f : Nat → Bool) (v : Nat → V) (hn : n ≤ 100000) (hw : ∀ x, wipe ((wipe σ vs).set j (some x)) vs = wipe σ vs)
    (ht : ∀ (i : Nat) (H : Hp), i < n → H = upd H1 D (.lst (given i f v)) → Ans tt ((wipe σ vs).set j (some (.int (lo + i)))) H (f i))
    (he : ∀ (i : Nat) (H : Hp), i < n → H = upd H1 D (.lst (given i f v)) → f i = true → Val te ((wipe σ vs).set j (some (.int (lo + i)))) H (v i)) (q : Qd (upd H1 D (.lst (given n f v)))) :
    ∃ W : Nat → Nat → Hp → Prop, (∃ m, W 0 m (upd H1 D (.lst []))) ∧ ∀ i m H, W i m H →
      ((Itr lo n).stop i H ∧ Qd H) ∨ ((Itr lo n).go i H ∧ ∃ Nx : Hp → Prop, (∀ H', Nx H' → ∃ m', m' < m ∧ W (i + 1) m' H') ∧ ∀ x H', (Itr lo n).yld i H x H' → gName j x (wipe σ vs) H' fun σ2 H2 => wipe σ2 vs = wipe σ vs ∧ tt σ2 H2 fun b H3 =>
        if b = true then te σ2 H3 fun y H4 => ∃ acc, H4 D = some (.lst acc) ∧ acc.length < sizeLine ∧ Nx (upd H4 D (.lst (acc ++ [y]))) else Nx H3) :=
  lc_range (fun i H => H = upd H1 D (.lst (given i f v))) rfl (fun i H hi e => ⟨hw _, lc_turn e (by omega) (ht i H hi e) (he i H hi e)⟩) (fun H e => by rw [e]; exact q)
theorem lcRv (v : Nat → V) (hn : n ≤ 100000) (hw : ∀ x, wipe ((wipe σ vs).set j (some x)) vs = wipe σ vs)
    (he : ∀ (i : Nat) (H : Hp), i < n → H = upd H1 D (.lst (given i (fun _ => true) v)) → Val te ((wipe σ vs).set j (some (.int (lo + i)))) H (v i)) (q : Qd (upd H1 D (.lst ((List.range n).map v)))) :
    ∃ W : Nat → Nat → Hp → Prop, (∃ m, W 0 m (upd H1 D (.lst []))) ∧ ∀ i m H, W i m H →
      ((Itr lo n).stop i H ∧ Qd H) ∨ ((Itr lo n).go i H ∧ ∃ Nx : Hp → Prop, (∀ H', Nx H' → ∃ m', m' < m ∧ W (i + 1) m' H') ∧ ∀ x H', (Itr lo n).yld i H x H' → gName j x (wipe σ vs) H' fun σ2 H2 => wipe σ2 vs = wipe σ vs ∧ tYes σ2 H2 fun b H3 =>
        if b = true then te σ2 H3 fun y H4 => ∃ acc, H4 D = some (.lst acc) ∧ acc.length < sizeLine ∧ Nx (upd H4 D (.lst (acc ++ [y]))) else Nx H3) :=
  lcR (fun _ => true) v hn hw (fun _ _ _ _ => fun _ q => q) (fun i H hi e _ => he i H hi e) (by rw [given_all]; exact q)
theorem lcL (f : Nat → Bool) (v : Nat → V) (hx : SqL K H1 a xs) (hD : H1 D = none) (hn : xs.length ≤ 100000) (hw : ∀ x, wipe ((wipe σ vs).set j (some x)) vs = wipe σ vs)
    (ht : ∀ (i : Nat) (x : V) (H : Hp), xs[i]? = some x → H = upd H1 D (.lst (given i f v)) → Ans tt ((wipe σ vs).set j (some x)) H (f i))
    (he : ∀ (i : Nat) (x : V) (H : Hp), xs[i]? = some x → H = upd H1 D (.lst (given i f v)) → f i = true → Val te ((wipe σ vs).set j (some x)) H (v i)) (q : Qd (upd H1 D (.lst (given xs.length f v)))) :
    ∃ W : Nat → Nat → Hp → Prop, (∃ m, W 0 m (upd H1 D (.lst []))) ∧ ∀ i m H, W i m H →
      ((Itl K a).stop i H ∧ Qd H) ∨ ((Itl K a).go i H ∧ ∃ Nx : Hp → Prop, (∀ H', Nx H' → ∃ m', m' < m ∧ W (i + 1) m' H') ∧ ∀ x H', (Itl K a).yld i H x H' → gName j x (wipe σ vs) H' fun σ2 H2 => wipe σ2 vs = wipe σ vs ∧ tt σ2 H2 fun b H3 =>
        if b = true then te σ2 H3 fun y H4 => ∃ acc, H4 D = some (.lst acc) ∧ acc.length < sizeLine ∧ Nx (upd H4 D (.lst (acc ++ [y]))) else Nx H3) :=
  lc_list (fun i H => H = upd H1 D (.lst (given i f v))) rfl (fun i H hi e => by rw [e]; exact ex_l (Ex.new hD) hx) (fun i x H hi e => ⟨hw _, lc_turn e (by have := (List.getElem?_eq_some_iff.mp hi).1; omega) (ht i x H hi e) (he i x H hi e)⟩) (fun H e => by rw [e]; exact q)
theorem lcT (f : Nat → Bool) (v : Nat → V) (hx : SqT K H1 a xs) (hD : H1 D = none) (hn : xs.length ≤ 100000) (hw : ∀ x, wipe ((wipe σ vs).set j (some x)) vs = wipe σ vs)
    (ht : ∀ (i : Nat) (x : V) (H : Hp), xs[i]? = some x → H = upd H1 D (.lst (given i f v)) → Ans tt ((wipe σ vs).set j (some x)) H (f i))
    (he : ∀ (i : Nat) (x : V) (H : Hp), xs[i]? = some x → H = upd H1 D (.lst (given i f v)) → f i = true → Val te ((wipe σ vs).set j (some x)) H (v i)) (q : Qd (upd H1 D (.lst (given xs.length f v)))) :
    ∃ W : Nat → Nat → Hp → Prop, (∃ m, W 0 m (upd H1 D (.lst []))) ∧ ∀ i m H, W i m H →
      ((Itt K a).stop i H ∧ Qd H) ∨ ((Itt K a).go i H ∧ ∃ Nx : Hp → Prop, (∀ H', Nx H' → ∃ m', m' < m ∧ W (i + 1) m' H') ∧ ∀ x H', (Itt K a).yld i H x H' → gName j x (wipe σ vs) H' fun σ2 H2 => wipe σ2 vs = wipe σ vs ∧ tt σ2 H2 fun b H3 =>
        if b = true then te σ2 H3 fun y H4 => ∃ acc, H4 D = some (.lst acc) ∧ acc.length < sizeLine ∧ Nx (upd H4 D (.lst (acc ++ [y]))) else Nx H3) :=
  lc_tup (fun i H => H = upd H1 D (.lst (given i f v))) rfl (fun i H hi e => by rw [e]; exact ex_t (Ex.new hD) hx) (fun i x H hi e => ⟨hw _, lc_turn e (by have := (List.getElem?_eq_some_iff.mp hi).1; omega) (ht i x H hi e) (he i x H hi e)⟩) (fun H e => by rw [e]; exact q)
theorem lcLm (g : V → V) (hx : SqL K H1 a xs) (hD : H1 D = none) (hn : xs.length ≤ 100000) (hw : ∀ x, wipe ((wipe σ vs).set j (some x)) vs = wipe σ vs)
    (he : ∀ (i : Nat) (x : V) (H : Hp), xs[i]? = some x → H = upd H1 D (.lst ((xs.take i).map g)) → Val te ((wipe σ vs).set j (some x)) H (g x)) (q : Qd (upd H1 D (.lst (xs.map g)))) :
    ∃ W : Nat → Nat → Hp → Prop, (∃ m, W 0 m (upd H1 D (.lst []))) ∧ ∀ i m H, W i m H →
      ((Itl K a).stop i H ∧ Qd H) ∨ ((Itl K a).go i H ∧ ∃ Nx : Hp → Prop, (∀ H', Nx H' → ∃ m', m' < m ∧ W (i + 1) m' H') ∧ ∀ x H', (Itl K a).yld i H x H' → gName j x (wipe σ vs) H' fun σ2 H2 => wipe σ2 vs = wipe σ vs ∧ tYes σ2 H2 fun b H3 =>
        if b = true then te σ2 H3 fun y H4 => ∃ acc, H4 D = some (.lst acc) ∧ acc.length < sizeLine ∧ Nx (upd H4 D (.lst (acc ++ [y]))) else Nx H3) :=
  lc_list (fun i H => H = upd H1 D (.lst ((xs.take i).map g))) (by rw [List.take_zero]; rfl) (fun i H hi e => by rw [e]; exact ex_l (Ex.new hD) hx)
    (fun i x H hi e => ⟨hw _, by
      refine iteT (B := H = upd H1 D (.lst ((xs.take (i + 1)).map g))) ?_
      refine he i x H hi e _ ?_
      subst e
      refine ⟨_, upd_same, sz_lt ?_, ?_⟩
      · rw [List.length_map, List.length_take]; have := (List.getElem?_eq_some_iff.mp hi).1; omega
      · rw [upd_upd, List.take_add_one, hi, List.map_append]; rfl⟩) (fun H e => by rw [e, List.take_length]; exact q)
theorem lcTm (g : V → V) (hx : SqT K H1 a xs) (hD : H1 D = none) (hn : xs.length ≤ 100000) (hw : ∀ x, wipe ((wipe σ vs).set j (some x)) vs = wipe σ vs)
    (he : ∀ (i : Nat) (x : V) (H : Hp), xs[i]? = some x → H = upd H1 D (.lst ((xs.take i).map g)) → Val te ((wipe σ vs).set j (some x)) H (g x)) (q : Qd (upd H1 D (.lst (xs.map g)))) :
    ∃ W : Nat → Nat → Hp → Prop, (∃ m, W 0 m (upd H1 D (.lst []))) ∧ ∀ i m H, W i m H →
      ((Itt K a).stop i H ∧ Qd H) ∨ ((Itt K a).go i H ∧ ∃ Nx : Hp → Prop, (∀ H', Nx H' → ∃ m', m' < m ∧ W (i + 1) m' H') ∧ ∀ x H', (Itt K a).yld i H x H' → gName j x (wipe σ vs) H' fun σ2 H2 => wipe σ2 vs = wipe σ vs ∧ tYes σ2 H2 fun b H3 =>
        if b = true then te σ2 H3 fun y H4 => ∃ acc, H4 D = some (.lst acc) ∧ acc.length < sizeLine ∧ Nx (upd H4 D (.lst (acc ++ [y]))) else Nx H3) :=
  lc_tup (fun i H => H = upd H1 D (.lst ((xs.take i).map g))) (by rw [List.take_zero]; rfl) (fun i H hi e => by rw [e]; exact ex_t (Ex.new hD) hx)
    (fun i x H hi e => ⟨hw _, by
      refine iteT (B := H = upd H1 D (.lst ((xs.take (i + 1)).map g))) ?_
      refine he i x H hi e _ ?_
      subst e
      refine ⟨_, upd_same, sz_lt ?_, ?_⟩
      · rw [List.length_map, List.length_take]; have := (List.getElem?_eq_some_iff.mp hi).1; omega
      · rw [upd_upd, List.take_add_one, hi, List.map_append]; rfl⟩) (fun H e => by rw [e, List.take_length]; exact q)
end
end G
namespace G
open PySem PySem.Spec PyProof.Rows L2 Evl
/-! ## rules within a comprehension's block: the written part by its letter -/
section
variable {X : Cx} {K : PySem.W.Frag}
theorem kIxT (h : X.K = K) : IxR X (rIxT K) := by subst h; exact ix_tup
theorem kIxL (h : X.K = K) : IxR X (rIxL K) := by subst h; exact ix_list
theorem kIx (h : X.K = K) : IxR X (rIx K) := by subst h; exact ix_seq
theorem kIn (h : X.K = K) : OpR X (compareOp .In) (rIn K false) := by subst h; exact op_in_seq
theorem kNotIn (h : X.K = K) : OpR X (compareOp .NotIn) (rIn K true) := by subst h; exact op_notIn_seq
theorem kLen (h : X.K = K) : CallR X (.builtin "len") (rLenS K) := by subst h; exact call_len_seq
theorem gStr {x s : Str} {t : Tok} {pos : Pos} (hg : Gl X x) (h : X.mg x = some (.str s t)) (hd : (x == ("__debug__" : Str)) = false := by decide) : PE X (.Name x pos) (tC (.str s)) := pe_glob (v := .str s) hg h ⟨t, rfl⟩ hd
theorem gInt {x : Str} {i : Int} {t : Tok} {pos : Pos} (hg : Gl X x) (h : X.mg x = some (.int i t)) (hd : (x == ("__debug__" : Str)) = false := by decide) : PE X (.Name x pos) (tC (.int i)) := pe_glob (v := .int i) hg h ⟨t, rfl⟩ hd
theorem gRef {x : Str} {a : Addr} {pos : Pos} (hg : Gl X x) (h : X.mg x = some (.ref a)) (hd : (x == ("__debug__" : Str)) = false := by decide) : PE X (.Name x pos) (tC (.ref a)) := pe_glob (v := .ref a) hg h rfl hd
theorem kSlL (h : X.K = K) : SlR X (rSlL K) := by subst h; exact sl_list
theorem kCatA (h : X.K = K) : OpR X (binaryOp .Add) (rCatA K) := by subst h; exact op_catA
theorem kAny (h : X.K = K) (hc : X.calm = true) : CallR X (.builtin "any") (rAny K) := by subst h; exact cr_any hc
theorem kAll (h : X.K = K) (hc : X.calm = true) : CallR X (.builtin "all") (rAll K) := by subst h; exact cr_all hc
theorem kLtT (h : X.K = K) (hu : X.A.units < cLine) : OpR X (compareOp .Lt) (rLtT K) := by subst h; exact op_ltT hu
theorem kPiT {e tg : Expr} {te : TE} (h : X.K = K) (he : PE X e te) : PI X tg e (iTup K te) := by subst h; exact pi_tup he
theorem kPiL {e tg : Expr} {te : TE} (h : X.K = K) (he : PE X e te) : PI X tg e (iList K te) := by subst h; exact pi_list he
theorem kSlA (h : X.K = K) : SlR X (rSlA K) := by subst h; exact sl_tupA
end
end G
namespace G
open PySem PySem.Spec PyProof.Rows L2 Evl
theorem dpAll_map {α : Type} {K : PySem.W.Frag} {H : Hp} {f : α → V} {g : α → PyData} (h : ∀ x, Dp K H (f x) (g x)) : ∀ l : List α, DpAll K H (l.map f) (l.map g)
  | [] => .nil
  | x :: r => .cons (h x) (dpAll_map h r)
theorem dp_ints {K : PySem.W.Frag} {H : Hp} {a : Addr} {ns : List Int} (h : SqL K H a (ns.map V.int)) : Dp K H (.ref a) (.list (ns.map PyData.int)) := .lst h (dpAll_map (fun i => .int i) ns)
theorem dp_nil {K : PySem.W.Frag} {H : Hp} {a : Addr} (h : SqL K H a []) : Dp K H (.ref a) (.list []) := .lst h .nil
theorem eqv_nil (l : List PyData) : PyData.eqv (.list l) (.list []) = l.isEmpty := by cases l <;> rfl
theorem shaped_nil : SeqAt.shaped (.list []) = true := by decide +kernel
end G
/-! enumerate over a tuple -/
namespace PySem
section
variable {prog : Program} {w : World} {A : Around} {E : Value → Shared → Prop} {s : Shared}
theorem G_tupOf {h : Heap} {a : Addr} {xs : Array Value} (p : PyProof.Rows.IsTup h a xs) : h.IsTuple a xs := p
set_option maxHeartbeats 2000000 in
theorem G_enumNew {v : Value} {o : Obj} {Hh : Heap → Prop} (B : Begins v o Hh) :
    Meets (Builtin.«enumerate.__new__» ⟨[.type "enumerate", v], []⟩) (fun _ R s => Hh s.heap ∧
      R (.ok (.ret (.ref (s.heap.push o).objs.size))) { s with heap := (s.heap.push o).push { cls := .type "enumerate", data := .fields #[.none, .bool false, .ref s.heap.objs.size, rawInt 0, .none, .none] } }) :=
  .of_wp fun pr wo ar rr sh hh => by
    obtain ⟨hp, gg, dd, tk, os⟩ := sh; obtain ⟨h1, h2⟩ := hh
    have sub0 := sub_enumerate
    have qq : ∀ {A' : Around} {E : Value → Shared → Prop} {Q : Value → Shared → Prop}, Q (.ref hp.objs.size) ⟨hp.push o, gg, dd, tk, os⟩ → wpAny (model pr wo) A' (pyIter v) Q E ⟨hp, gg, dd, tk, os⟩ :=
      fun z => B.iter pr wo _ _ ⟨hp, gg, dd, tk, os⟩ _ h1 z
    wp_walk using qq
    refine wpAny_stack_any fun _ => wpAny_pure ?_
    split
    · rename_i cc _ _ _ _ _
      cases (cc == Value.type "enumerate") <;> (wp_walk using qq; exact ⟨_, rfl, h2⟩)
    · wp_walk using qq
      exact ⟨_, rfl, h2⟩
theorem G_enumCall {v : Value} {o : Obj} {Hh : Heap → Prop} {Q : Value → Shared → Prop} (B : Begins v o Hh) (h1 : Hh s.heap)
    (k : ∀ h', IsEnum h' (s.heap.objs.size + 1) s.heap.objs.size 0 .none → h'.get? s.heap.objs.size = some o → (∀ b u, s.heap.get? b = some u → h'.get? b = some u) → Q (.ref (s.heap.objs.size + 1)) { s with heap := h' }) :
    wpAny (model prog w) A (call (.type "enumerate") [v]) Q E s := by
  refine callType_new F.called_enumerate (by decide) (F.typeCall_enumerate_1 _) (F.newCall_enumerate_1 _) (fun y => F.args_object_init_2 y _) F.entry_enumerate_new (G_enumNew B) ⟨h1, ?_⟩
  have hz : (s.heap.push o).objs.size = s.heap.objs.size + 1 := Heap.size_push ..
  show _ ∧ _
  rw [hz]
  have he : IsEnum ((s.heap.push o).push { cls := .type "enumerate", data := .fields #[.none, .bool false, .ref s.heap.objs.size, rawInt 0, .none, .none] }) (s.heap.objs.size + 1) s.heap.objs.size 0 .none := by
    have hs := Heap.get?_push_size (s.heap.push o) (o := { cls := .type "enumerate", data := .fields #[.none, .bool false, .ref s.heap.objs.size, rawInt 0, .none, .none] }) rfl
    rw [hz] at hs; exact hs
  exact ⟨⟨_, he, rfl⟩, k _ he (Heap.get?_push_of_some _ (Heap.get?_push_size _ B.free)) fun b u x => Heap.get?_push_of_some _ (Heap.get?_push_of_some _ x)⟩
end
end PySem
namespace G
open PySem PySem.Spec PyProof.Rows L2 Evl
/-- the tuple at a at each turn, each item in a new pair -/
def IteT (K : PySem.W.Frag) (a : Addr) : It :=
  ⟨fun i H => ∃ (xs : List V) (x : V), SqT K H a xs ∧ xs[i]? = some x,
   fun i H v H' => ∃ T x, v = .ref T ∧ H T = none ∧ H' = upd H T (.tup [.int (i : Nat), x]) ∧ ∀ xs, SqT K H a xs → xs[i]? = some x,
   fun i H => ∃ xs : List V, SqT K H a xs ∧ xs.length = i⟩
theorem turn_enumT {P : Program} {w : World} {K : PySem.W.Frag} {elts : List Expr} {kk : Nat} {tpos : Pos} (a e it : Addr) :
    Turn P w K (.Tuple elts kk tpos) (IteT K a) [e, it] e (fun i h => (∃ old, IsEnum h e it ((i : Nat) : Int) old) ∧ h.IsTupleIter it a i ∧ e ≠ it ∧ a ≠ it ∧ a ≠ e) where
  mem := by simp
  obj := fun i h st b hb => by
    obtain ⟨⟨old, he⟩, ⟨o, ho, hc, hd⟩, _⟩ := st
    have hb' : b = e ∨ b = it := by simpa using hb
    rcases hb' with z | z
    · rw [z]; exact ⟨_, he, fun v q => nomatch q⟩
    · rw [z]; exact ⟨o, ho, fun v q => by rw [hd] at q; cases q⟩
  keep := fun i h h' st k => by
    obtain ⟨⟨old, he⟩, hi, hne⟩ := st
    exact ⟨⟨old, k e (by simp) _ he⟩, hi.at fun o q => k it (by simp) o q, hne⟩
  item := by
    intro X hP hw hK hc i pins s σ H E I hf st hg
    subst hP hw hK
    obtain ⟨⟨old, he⟩, hit, hne, hai, hae⟩ := st
    obtain ⟨xs, x, hq, hx⟩ := hg
    obtain ⟨its, rv, p, hz⟩ := I.tuple hq
    obtain ⟨u, hu, ru⟩ := rv.get hx
    have hel : e < s.heap.objs.size := Heap.lt_size he
    have hil : it < s.heap.objs.size := by obtain ⟨_, q, _⟩ := hit; exact Heap.lt_size q
    have hh : X.A.handled = none := I.ok.hd hc
    refine wpAny_pyNext_enum_itemD (Draws.tuple (A := X.A.in1) hh it a hai its.toArray) he ⟨hit, p⟩ ?_ hne ?_ fun y h' tk hy ho hst hT hsz hk => ?_
    · have := (List.getElem?_eq_some_iff.mp hu).1
      simpa using this
    · intro hm
      have hm' : e = it ∨ e = a := by simpa using hm
      rcases hm' with z | z
      · exact hne z
      · exact hae z.symm
    · have ey : y = u := by
        have hy' : its[i]? = some y := by simpa using hy
        exact Option.some.inj (hy'.symm.trans hu)
      subst ey
      refine ⟨_, rfl, wpAny_letOwnedTupleGo_enum (s := { s with heap := h', toks := tk + 1 }) ho fun h'' he' sb => ?_⟩
      have hT2 : h''.get? s.heap.objs.size = some { cls := .type "tuple", data := .seq #[.int i tk, y] } := (sb.2 _ (Nat.ne_of_gt hel)).trans hT
      have new : ObjOk X.prog X.w (upd H s.heap.objs.size (.tup [.int (i : Nat), x])) h'' s.heap.objs.size (.tup [.int (i : Nat), x]) :=
        ⟨by show 2 ≤ sizeLine; decide, [.int i tk, y], .cons ⟨_, rfl⟩ (.cons ru .nil), ⟨_, hT2, rfl, _, rfl⟩⟩
      have I1 : Inv X pins σ (upd H s.heap.objs.size (.tup [.int (i : Nat), x])) { s with heap := h'', toks := tk + 1 } :=
        I.turnedNew (ch := [e, it]) (fun b ob hb q => (sb.2 b (fun z => hb (by simp [z]))).trans (hk b ob (fun z => hb (by simp [z])) (fun z => hb (by simp [z])) q)) hf (Nat.le_refl _) new
      refine ⟨.ref s.heap.objs.size, _, I1, rfl, ⟨_, x, rfl, I.hok.fresh (Nat.le_refl _), rfl, fun ys hy => by rw [I.tuple_inj hy hq]; exact hx⟩, ⟨⟨y, ?_⟩, hst.1.at fun o q => (sb.2 it (Ne.symm hne)).trans q, hne, hai, hae⟩, fun b hb => ?_⟩
      · have e1 : ((i + 1 : Nat) : Int) = (i : Int) + 1 := by omega
        rw [e1]; exact he'
      · have hb' : b < s.heap.objs.size := by
          have hb2 : b = e ∨ b = it := by simpa using hb
          rcases hb2 with z | z
          · rw [z]; exact hel
          · rw [z]; exact hil
        rw [upd_ne (Nat.ne_of_lt hb')]
        exact (hf b hb).1
  done := by
    intro X hP hw hK hc i pins s σ H E I hf st hg
    subst hP hw hK
    obtain ⟨⟨old, he⟩, hit, hne, hai, hae⟩ := st
    obtain ⟨xs, hq, hx⟩ := hg
    obtain ⟨its, rv, p, hz⟩ := I.tuple hq
    obtain ⟨f0, f1, f2, f3, f4, f5⟩ := hf it (by simp)
    have hl := rv.length
    have hh : X.A.handled = none := I.ok.hd hc
    have ei : its.toArray.size = i := by rw [List.size_toArray, ← hl]; exact hx
    have st2 : s.heap.IsTupleIter it a its.toArray.size ∧ s.heap.IsTuple a its.toArray := by rw [ei]; exact ⟨hit, p⟩
    exact wpAny_pyNext_enum_endD (Draws.tuple (A := X.A.in1) hh it a hai its.toArray) he st2 fun h' eb => ⟨rfl, I.turned (t' := s.toks) (fun b o hb q => eb b o hb q) f0 f1 f3 f4 f5⟩
  self := fun A i s Q E st h => by
    obtain ⟨⟨_, he⟩, _⟩ := st
    exact wpAny_pyIter_enum he h
def iEnumT (K : PySem.W.Frag) (ta : TA) : TI := fun σ H R => ta σ H fun vs H1 => ∃ a xs, vs = [.ref a] ∧ SqT K H1 a xs ∧ R (IteT K a) H1
theorem pi_enumT {X : Cx} {e : Expr} {ta : TA} {p pos tpos : Pos} {elts : List Expr} {kk : Nat} (hg : Gl X "enumerate") (hm : X.mg "enumerate" = none) (ha : PA X [e] ta) (hs : starEach [e] X.env = [(false, eval e X.env)] := by rfl) :
    PI X (.Tuple elts kk tpos) (.Call (.Name "enumerate" p) [e] [] pos) (iEnumT X.K ta) := by
  refine ⟨fun pins s σ H R I h => Call_ (ld_blt I hg hm boot_enumerate (PyProof.Rows.callWith_type1 (thn (ha.run pos pins s σ H _ I h) fun us s1 ⟨vs, H1, I1, r1, q1⟩ => ?_) hs rfl))⟩
  obtain ⟨a, xs, rfl, hq, q⟩ := q1
  cases r1 with
  | cons r rr =>
    cases rr
    cases r
    obtain ⟨its, rv, p', hz⟩ := I1.tuple hq
    have hal : a < s1.heap.objs.size := by obtain ⟨o, ho, _⟩ := p'; exact Heap.lt_size ho
    refine G_enumCall (begins_tuple a its.toArray) p' fun h' he hit hk => wpAny_pyIter_enum he ?_
    have I2 : Inv X pins σ H1 { s1 with heap := h' } := I1.kept (t' := s1.toks) hk
    refine ⟨s1.heap.objs.size + 1, [s1.heap.objs.size + 1, s1.heap.objs.size], _, _, H1, rfl, I2, turn_enumT a (s1.heap.objs.size + 1) s1.heap.objs.size,
      ⟨⟨.none, he⟩, ⟨_, hit, rfl, rfl⟩, Nat.succ_ne_self _, Nat.ne_of_lt hal, Nat.ne_of_lt (Nat.lt_succ_of_lt hal)⟩, fun b hb => ?_, q⟩
    have hb' : b = s1.heap.objs.size + 1 ∨ b = s1.heap.objs.size := by simpa using hb
    have hle : s1.heap.objs.size ≤ b := by
      rcases hb' with z | z
      · rw [z]; exact Nat.le_add_right _ _
      · rw [z]; exact Nat.le_refl _
    exact I1.fpOk hle (I1.hok.fresh hle)
theorem walk_enumT {K : PySem.W.Frag} {a : Addr} {xs : List V} : Walk (IteT K a) xs.length (fun H => SqT K H a xs) (YPair (fun i => some (.int (i : Nat))) (fun i => xs[i]?)) := by
  refine ⟨fun i _ hi q => ⟨xs, xs[i], q, by simp [hi]⟩, fun _ q => ⟨xs, q, rfl⟩, fun i H v H' _ q y => ?_⟩
  obtain ⟨T, x, h1, h2, h3, h4⟩ := y
  exact ⟨T, .int (i : Nat), x, h1, h2, h3, rfl, h4 xs q⟩
theorem kPiEnumT {X : Cx} {K : PySem.W.Frag} {e : Expr} {ta : TA} {p pos tpos : Pos} {elts : List Expr} {kk : Nat} (h : X.K = K) (hg : Gl X "enumerate") (hm : X.mg "enumerate" = none) (ha : PA X [e] ta) (hs : starEach [e] X.env = [(false, eval e X.env)] := by rfl) :
    PI X (.Tuple elts kk tpos) (.Call (.Name "enumerate" p) [e] [] pos) (iEnumT K ta) := by subst h; exact pi_enumT hg hm ha hs
end G
/-! t[a::2], t a tuple -/
namespace HT
open PySem PySem.Spec PyProof.Rows L2
section
variable {prog : Program} {w : World} {A : Around} {E : Value → Shared → Prop} {s : Shared}
theorem g_applied {sl : Addr} {vl vu vs : Value} {lo hi : Option Int} {st : Int} {n : Nat} {Q : Int × Int × Nat → Shared → Prop} (hs : s.heap.IsSliceOf sl vl vu vs) (pl : IsPart vl lo) (pu : IsPart vu hi) (ps : IsPart vs (some st)) (h0 : st ≠ 0)
    (h : Q ((Builtin.Slice.sliceAdjust lo hi st (n : Int)).1, st, Builtin.Slice.slicePlaces (Builtin.Slice.sliceAdjust lo hi st (n : Int)).1 (Builtin.Slice.sliceAdjust lo hi st (n : Int)).2 st) s) :
    wpAny (model prog w) A (Builtin.Slice.sliceApplied (.ref sl) (pure (n : Int))) Q E s := by
  obtain ⟨ob, hob, _, hd⟩ := id hs
  unfold Builtin.Slice.sliceApplied Builtin.Slice.sliceFields
  refine wpAny_bind (wpAny_bind (wpAny_field hob hd (x := vl) rfl (wpAny_bind (wpAny_field hob hd (x := vu) rfl (wpAny_bind (wpAny_field hob hd (x := vs) rfl (wpAny_pure ?_)))))))
  refine wpAny_bind (slicePart_ ps ?_)
  show wpAny _ _ (if (st == 0) = true then _ else _) _ _ s
  rw [if_neg (by intro q; exact h0 (eq_of_beq q))]
  exact wpAny_bind (slicePart_ pl (wpAny_bind (slicePart_ pu (wpAny_bind (wpAny_pure (wpAny_pure h))))))
def stepped (xs : List Value) (lo st : Int) (n : Nat) : List Value := (List.range n).filterMap fun (k : Nat) => xs.toArray[(lo + (k : Int) * st).toNat]?
theorem g_getStep {t sl : Addr} {its : List Value} {vl vu vs : Value} {lo hi : Option Int} {st : Int} {Q : Value → Shared → Prop} (ht : IsTup s.heap t its.toArray) (hs : s.heap.IsSliceOf sl vl vu vs) (pl : IsPart vl lo) (pu : IsPart vu hi) (ps : IsPart vs (some st)) (h0 : st ≠ 0) (h1 : st ≠ 1)
    (hz : (stepped its (Builtin.Slice.sliceAdjust lo hi st (its.toArray.size : Int)).1 st (Builtin.Slice.slicePlaces (Builtin.Slice.sliceAdjust lo hi st (its.toArray.size : Int)).1 (Builtin.Slice.sliceAdjust lo hi st (its.toArray.size : Int)).2 st)).length ≤ sizeLine)
    (h : Q (.ref s.heap.objs.size) { s with heap := s.heap.push { cls := .type "tuple", data := .seq (stepped its (Builtin.Slice.sliceAdjust lo hi st (its.toArray.size : Int)).1 st (Builtin.Slice.slicePlaces (Builtin.Slice.sliceAdjust lo hi st (its.toArray.size : Int)).1 (Builtin.Slice.sliceAdjust lo hi st (its.toArray.size : Int)).2 st)).toArray } }) :
    wpAny (model prog w) A (getItem (.ref t) (.ref sl)) Q E s := by
  have ok : sizeOk (.seq (stepped its (Builtin.Slice.sliceAdjust lo hi st (its.toArray.size : Int)).1 st (Builtin.Slice.slicePlaces (Builtin.Slice.sliceAdjust lo hi st (its.toArray.size : Int)).1 (Builtin.Slice.sliceAdjust lo hi st (its.toArray.size : Int)).2 st)).toArray) := by
    show (stepped its _ st _).toArray.size ≤ sizeLine
    rw [List.size_toArray]; exact hz
  obtain ⟨ob, hob, hc, hd⟩ := id hs
  have hTs : s.TypeIs (.ref sl) "slice" := ⟨ob, hob, hc⟩
  unfold getItem
  try with_reducible refine wpAny_holding ?_
  first | refine wpAny_bind (wpAny_pure ?_) | skip
  refine wpAny_bind (wpAny_sequenceKey ht.typeIs (by decide) ?_)
  refine wpAny_bind (wpAny_callSpecial?_slot (name := Str.ofString "__getitem__") ht.typeIs slot_tuple_getitem (wpAny_call_entry slot_tuple_getitem ht.typeIs entry_tuple_getitem ?_ (args_tuple_getitem _ _)))
  show wpAny _ _ (Builtin.Tuple.tupleItemsOf (.ref t) >>= _) _ _ s
  refine wpAny_bind (tupleItemsOf_ ht (wpAny_bind (wpAny_typeOf hTs ?_)))
  rw [if_pos (by decide)]
  refine wpAny_bind (g_applied hs pl pu ps h0 ?_)
  generalize (Builtin.Slice.sliceAdjust lo hi st (its.toArray.size : Int)).1 = l0 at *
  generalize Builtin.Slice.slicePlaces l0 (Builtin.Slice.sliceAdjust lo hi st (its.toArray.size : Int)).2 st = n0 at *
  have hno : ¬ ((l0 == 0 && st == 1 && n0 == its.toArray.size) = true) := by
    intro q
    rw [Bool.and_eq_true, Bool.and_eq_true] at q
    exact h1 (eq_of_beq q.1.2)
  show wpAny _ _ (if (l0 == 0 && st == 1 && n0 == its.toArray.size) = true then _ else _) _ _ s
  rw [if_neg hno]
  first
    | exact wpAny_bind (m := Builtin.Tuple.tupleExact _) (wpAny_newObj_type (wpAny_pure ⟨_, rfl, wpAny_pure h⟩) ok)
    | exact wpAny_bind (m := Builtin.Tuple.tupleExact _) (wpAny_newObj_type (wpAny_bind (wpAny_pure (wpAny_pure ⟨_, rfl, wpAny_pure h⟩))) ok)
    | exact wpAny_bind (wpAny_bind (m := Builtin.Tuple.tupleExact _) (wpAny_newObj_type (wpAny_pure (wpAny_pure ⟨_, rfl, wpAny_pure h⟩)) ok))
    | exact wpAny_bind (wpAny_bind (m := Builtin.Tuple.tupleExact _) (wpAny_newObj_type (wpAny_pure ⟨_, rfl, wpAny_pure h⟩) ok))
end
end HT
namespace G
open PySem PySem.Spec PyProof.Rows L2 Evl
/-- every second item from a on -/
def halfL {α : Type} (a : Nat) (xs : List α) : List α := (List.range ((xs.length - a + 1) / 2)).filterMap fun k => xs[a + 2 * k]?
theorem halfL_len {α : Type} (a : Nat) (xs : List α) : (halfL a xs).length ≤ xs.length + 1 := by
  unfold halfL
  refine Nat.le_trans (List.length_filterMap_le _ _) ?_
  rw [List.length_range]; omega
theorem vals_filterMap {f : Nat → Option V} {g : Nat → Option Value} : ∀ {l : List Nat}, (∀ k, k ∈ l → RelO (f k) (g k)) → Vals (l.filterMap f) (l.filterMap g)
  | [], _ => .nil
  | k :: r, h => by
    have hk := h k (List.mem_cons_self ..)
    have ih := vals_filterMap (l := r) fun j hj => h j (List.mem_cons_of_mem _ hj)
    rw [List.filterMap_cons, List.filterMap_cons]
    cases e : f k with
    | none =>
      cases e2 : g k with
      | none => exact ih
      | some u => rw [e, e2] at hk; exact hk.elim
    | some v =>
      cases e2 : g k with
      | none => rw [e, e2] at hk; exact hk.elim
      | some u => rw [e, e2] at hk; exact .cons hk ih
def tHalf (K : PySem.W.Frag) (a : Nat) (te : TE) : TE := fun σ H Q => te σ H fun x H1 => ∃ t xs, x = .ref t ∧ SqT K H1 t xs ∧ xs.length ≤ 100000 ∧ ∀ p, H1 p = none → Q (.ref p) (upd H1 p (.tup (halfL a xs)))
theorem half_places {a n : Nat} (h : a ≤ 1) : (Builtin.Slice.sliceAdjust (some (a : Int)) none 2 (n : Int)).1 = ((min a n : Nat) : Int) ∧
    Builtin.Slice.slicePlaces (Builtin.Slice.sliceAdjust (some (a : Int)) none 2 (n : Int)).1 (Builtin.Slice.sliceAdjust (some (a : Int)) none 2 (n : Int)).2 2 = (n - a + 1) / 2 := by
  have h2 : ¬ ((2 : Int) < 0) := by omega
  have h3 : (2 : Int) > 0 := by omega
  have ha : ¬ ((a : Int) < 0) := by omega
  have e : Builtin.Slice.sliceAdjust (some (a : Int)) none 2 (n : Int) = (((min a n : Nat) : Int), (n : Int)) := by
    unfold Builtin.Slice.sliceAdjust
    simp only [h2, if_false, ha]
    refine Prod.ext ?_ rfl
    show min (a : Int) (n : Int) = ((min a n : Nat) : Int)
    omega
  rw [e]
  refine ⟨rfl, ?_⟩
  show Builtin.Slice.slicePlaces ((min a n : Nat) : Int) (n : Int) 2 = (n - a + 1) / 2
  unfold Builtin.Slice.slicePlaces
  simp only [h3, if_true]
  split <;> omega
section
variable {X : Cx}
theorem pe_half {e : Expr} {te : TE} {a : Nat} {k1 k2 : Nat} {p1 p2 p3 pos : Pos} (ha : a ≤ 1) (he : PE X e te) : PE X (.Subscript e (.Slice (some (.Constant (.int (a : Int)) k1 p1)) none (some (.Constant (.int 2) k2 p2)) p3) pos) (tHalf X.K a te) := by
  refine ⟨fun pins s σ H Q I h => Subscript_ (thn (he.run pins s σ H _ I h) fun v s1 ⟨x, H1, I1, r1, q1⟩ => ?_)⟩
  obtain ⟨t, xs, rfl, hx, hlen, q⟩ := q1
  cases r1
  have hlo : PO X (some (.Constant (.int (a : Int)) k1 p1)) (tPart (tC (.int (a : Int)))) := po_some pe_int
  have hst : PO X (some (.Constant (.int 2) k2 p2)) (tPart (tC (.int 2))) := po_some pe_int
  refine wpAny_Slice (thn (hlo.run pins s1 σ H1 (fun o H2 => o = some (a : Int) ∧ H2 = H1) I1 ⟨_, rfl, rfl, rfl⟩) fun vl s2 ⟨l, H2, I2, pl, el, e2⟩ => ?_)
  subst el e2
  refine thn (po_none.run pins s2 σ H2 (fun o H3 => o = none ∧ H3 = H2) I2 ⟨rfl, rfl⟩) fun vu s3 ⟨u, H3, I3, pu, eu, e3⟩ => ?_
  subst eu e3
  refine thn (hst.run pins s3 σ H3 (fun o H4 => o = some 2 ∧ H4 = H3) I3 ⟨_, rfl, rfl, rfl⟩) fun vs s4 ⟨o, H4, I4, ps, eo, e4⟩ => ?_
  subst eo e4
  have I5 : Inv X pins σ H4 { s4 with heap := s4.heap.push { cls := .type "slice", data := .fields #[vl, vu, vs] } } := I4.kept (t' := s4.toks) fun b ob q => Heap.get?_push_of_some _ q
  obtain ⟨its, r, ht, hz⟩ := I5.tuple hx
  have hl : its.toArray.size = xs.length := by rw [List.size_toArray]; exact r.length.symm
  obtain ⟨hp1, hp2⟩ := half_places (n := xs.length) ha
  have hrel : Vals (halfL a xs) (HT.stepped its ((min a xs.length : Nat) : Int) 2 ((xs.length - a + 1) / 2)) := by
    unfold halfL HT.stepped
    refine vals_filterMap fun k hk => ?_
    have hk' := List.mem_range.mp hk
    have hi : a + 2 * k < xs.length := by omega
    have en : (((min a xs.length : Nat) : Int) + (k : Int) * 2).toNat = a + 2 * k := by omega
    rw [en, List.getElem?_eq_getElem hi]
    obtain ⟨u, hu, ru⟩ := r.get (List.getElem?_eq_getElem hi)
    rw [List.getElem?_toArray, hu]
    exact ru
  have hsz : (halfL a xs).length ≤ sizeLine := sz_of (by
    unfold halfL
    refine Nat.le_trans (List.length_filterMap_le _ _) ?_
    rw [List.length_range]
    omega)
  show wpAny (model X.prog X.w) X.A (subscriptTail e (.Slice (some (.Constant (.int (a : Int)) k1 p1)) none (some (.Constant (.int 2) k2 p2)) p3) (.ref t) (.ref s4.heap.objs.size)) (EP X pins σ Q) X.xe { s4 with heap := s4.heap.push { cls := .type "slice", data := .fields #[vl, vu, vs] } }
  refine tail_any (ops := [.ref t, .ref s4.heap.objs.size]) ht.typeIs PyProof.Rows.slot_tuple_getitem.lookup ?_ (by with_unfolding_all rfl)
  refine HT.g_getStep ht (Heap.IsSliceOf.new _ vl vu vs) pl pu ps (by decide) (by decide) ?_ ?_
  · rw [hl, hp2, hp1, ← hrel.length]; exact hsz
  · rw [hl, hp2, hp1]
    refine ⟨.ref _, _, I5.laid (t' := s4.toks) (o := .tup (halfL a xs)) (fun b ob q => Heap.get?_push_of_some _ q) (Nat.le_refl _) ?_, rfl, q _ (I5.hok.fresh (Nat.le_refl _))⟩
    exact ⟨hsz, _, hrel, ⟨_, Heap.get?_push_size _ rfl, rfl, _, rfl⟩⟩
end
end G
namespace XS
open PySem PySem.Spec PyProof.Rows L2 PySem.Froz
/-! sets of texts: set(xs), len, in, sorted, add -/
structure TxAt (P : Program) (w : World) (h : Heap) (a : Addr) (l : List Str) : Prop where
  ex : ∃ D : SD, h.get? a = some (sObj "set" D) ∧ TxOk P w D l ∧ Ris D.2.2.place.toList ∧ (w.params.followText "set-order" = true ∨ D.2.2.led = true)
  one : l.Nodup
  few : l.length < 64
theorem tail_ris {ep : Nat} {es : Array (Int × Value)} {t : SetTable} {d : Bool} (r : Ris t.place.toList) : Ris (tailTx ep es t d).2.2.place.toList ∧ (tailTx ep es t d).2.2.led = t.led := by
  unfold tailTx
  split
  · exact ⟨relayAll_ris _ _ _, relayAll_led _ _ _⟩
  · exact ⟨r, rfl⟩
theorem add_ris {D : SD} {h : Int} {v : Value} (r : Ris D.2.2.place.toList) : Ris (addTx h v D).2.2.place.toList ∧ (addTx h v D).2.2.led = D.2.2.led := by
  have r1 := layNew_ris D.2.2 D.1 h v r
  have e1 := layNew_led D.2.2 D.1 h v
  unfold addTx
  refine (fun z => ⟨(tail_ris z.1).1, (tail_ris z.1).2.trans z.2⟩) (?_ : Ris (SetTable.place _).toList ∧ SetTable.led _ = D.2.2.led)
  split
  · exact ⟨r1, e1⟩
  · exact ⟨r1, e1⟩
section
variable {P : Program} {w : World} {A : Around} {E : Value → Shared → Prop} {s : Shared} {a : Addr} {l : List Str}
theorem TxAt.at {h h' : Heap} (R : TxAt P w h a l) (k : ∀ o, h.get? a = some o → h'.get? a = some o) : TxAt P w h' a l := by
  obtain ⟨⟨D, ho, r⟩, x, y⟩ := R
  exact ⟨⟨D, k _ ho, r⟩, x, y⟩
theorem TxAt.setOf {h : Heap} (R : TxAt P w h a l) : h.SetOf (strKind P w) a (fun k => decide (k ∈ l)) l.length := by
  obtain ⟨⟨D, ho, F, _⟩, _, f⟩ := R
  exact ⟨_, D.1, D.2.1, D.2.2, ho, ⟨rfl, rfl, rfl⟩, rfl, F.el, (fun k => by rw [decide_eq_true_eq]; exact F.mem k), by rw [F.sz]; unfold scanBound; omega, F.fit, F.sz⟩
/-- a member added -/
theorem add_at {k : Str} {u : Tok} {Q : Bool → Shared → Prop} (R : TxAt P w s.heap a l) (hb : l.length + 1 < 64)
    (hQ : ∀ h' l' b, Heap.SameBut a s.heap h' → TxAt P w h' a l' → (k ∈ l ∧ l' = l ∨ k ∉ l ∧ l' = k :: l) → Q b { s with heap := h' }) : wpAny (model P w) A (setAddHashed a (.str k u) (hashStr w k)) Q E s := by
  by_cases hk : k ∈ l
  · have R' := R
    obtain ⟨⟨D, ho, F, hr, hl⟩, ho1, hf1⟩ := R
    obtain ⟨es, ep, t⟩ := D
    have hs : es.size = l.length := F.sz
    have hel : ElemsOf (strKind P w) es.toList := F.el
    have hd : (sObj "set" (es, ep, t)).data = .set es ep t := rfl
    unfold setAddHashed setAddHashedIn
    refine wpAny_holding (wpAny_bind (wpAny_setState_of ho hd F.fit ?_))
    dsimp only
    rw [byScan_of rfl (by rw [hs]; unfold scanBound; omega) hel]
    simp only [↓reduceIte]
    unfold setAddByScan
    refine wpAny_bind (wpAny_bind (wpAny_rule (wpAny_bind (wpAny_setScan_of (knd := strKind P w) (k := k) (is_str k u) ho hd F.fit hel ?_))))
    cases hfi : List.findIdx? (fun e => (strKind P w).is k e.2) es.toList with
    | none =>
      obtain ⟨e, he, q⟩ := (F.mem k).mp hk
      have c := List.findIdx?_eq_none_iff.mp hfi e he
      rw [q] at c
      cases c
    | some j =>
      dsimp only
      exact wpAny_pure (wpAny_pure (hQ s.heap l _ (Heap.SameBut.refl a s.heap) R' (.inl ⟨hk, rfl⟩)))
  · obtain ⟨⟨D, ho, F, hr, hl⟩, ho1, hf1⟩ := R
    refine add_x (u := u) ho F hk (by unfold scanBound; omega) (hQ _ (k :: l) _ ⟨Heap.size_update _ _ _, fun b hb => Heap.get?_update_other _ _ (Ne.symm hb)⟩ ⟨⟨_, get_upd _ ho rfl, add_ok u F, (add_ris hr).1, hl.imp id fun z => (add_ris hr).2.trans z⟩, List.nodup_cons.mpr ⟨hk, ho1⟩, hb⟩ (.inr ⟨hk, rfl⟩))
/-- set.add -/
theorem add_call {k : Str} {u : Tok} {Q : Value → Shared → Prop} (R : TxAt P w s.heap a l) (hb : l.length + 1 < 64)
    (hQ : ∀ h' l', Heap.SameBut a s.heap h' → TxAt P w h' a l' → (k ∈ l ∧ l' = l ∨ k ∉ l ∧ l' = k :: l) → Q .none { s with heap := h', toks := s.toks + 1 }) :
    wpAny (model P w) A (call (.builtin "set.add") [.ref a, .str k u]) Q E s := by
  refine wpAny_call_entry F.slot_set_add R.setOf.typeIs F.entry_set_add ?_ (F.args_set_add_2 _ _)
  unfold Builtin.«set.add» Builtin.Frozenset.oneOther
  simp only [List.isEmpty_nil, bind_assoc]
  unfold Builtin.Frozenset.addrOf setAdd
  refine wpAny_bind (wpAny_pure ?_)
  try dsimp only
  refine wpAny_bind (wpAny_pure ?_)
  try dsimp only
  refine wpAny_bind (wpAny_holding (wpAny_bind ((strKind P w).pyHash (strKind_is P w k u) ?_)))
  refine add_at (s := { s with toks := s.toks + 1 }) R hb fun h' l' b sb r z => ?_
  show wpAny _ _ (ret Value.none) _ _ _
  exact wpAny_pure ⟨_, rfl, hQ h' l' sb r z⟩
theorem tx_fresh {h : Heap} (ho : h.get? a = some { cls := .type "set", dict := none, data := .set #[] 0 (.fresh 0 0 (!w.params.followText "set-order")) }) : TxAt P w h a [] where
  ex := ⟨(#[], 0, .fresh 0 0 (!w.params.followText "set-order")), ho, TxOk.nil rfl, List.Pairwise.nil, by
    show _ ∨ (!w.params.followText "set-order") = true
    cases w.params.followText "set-order"
    · exact .inr rfl
    · exact .inl rfl⟩
  one := List.nodup_nil
  few := by show 0 < 64; decide
/-- the first i of xs, each once -/
structure Part (xs : List Str) (i : Nat) (l : List Str) : Prop where
  mem : ∀ x, x ∈ l ↔ x ∈ xs.take i
  len : l.length ≤ i
theorem Part.next {xs : List Str} {i : Nat} {l l' : List Str} {k : Str} (p : Part xs i l) (hk : xs[i]? = some k) (z : k ∈ l ∧ l' = l ∨ k ∉ l ∧ l' = k :: l) : Part xs (i + 1) l' := by
  have e : ∀ x, x ∈ xs.take (i + 1) ↔ x ∈ xs.take i ∨ x = k := fun x => by rw [List.take_add_one, hk]; simp
  rcases z with ⟨h, rfl⟩ | ⟨h, rfl⟩
  · exact ⟨fun x => by rw [e, p.mem]; exact ⟨.inl, fun z => z.elim id fun q => q ▸ (p.mem k).mp h⟩, Nat.le_succ_of_le p.len⟩
  · exact ⟨fun x => by rw [e, List.mem_cons, p.mem]; exact Or.comm, Nat.succ_le_succ p.len⟩
end

section
variable {P : Program} {w : World} {A : Around} {E : Value → Shared → Prop} {s : Shared} {R : Result → Shared → Prop} {I : Addr} {fp wr : List Addr} {G : Array GenState → Array GenState → Prop} {n : Nat} {Pv : Nat → Value → Prop} {St : Nat → Shared → Prop}
theorem upd_loop (W : WalksS P w A.in1 I fp wr G n Pv St) (a : Addr) (ha : a ∉ fp) (xs : List Str) (hn : n = xs.length) (few : xs.length < 64) (hv : ∀ i v, Pv i v → ∃ k u, xs[i]? = some k ∧ v = .str k u) :
    ∀ (m i : Nat) (s : Shared) (l : List Str), n - i = m → i ≤ n → St i s → TxAt P w s.heap a l → Part xs i l →
      (∀ s' l', Moved (a :: wr) G s s' → TxAt P w s'.heap a l' → Part xs n l' → R (.ok (.ret .none)) s') →
      codeAny (model P w) A (.builtin "set.update.loop" ⟨[.ref a, .ref I], []⟩) R s := by
  have aw : a ∉ wr := fun h => ha (W.sub _ h)
  have up : ∀ b ∈ wr, b ∈ a :: wr := fun b hb => List.mem_cons_of_mem _ hb
  intro m
  induction m with
  | zero =>
    intro i s l hm hi st T p hR
    obtain rfl : i = n := by omega
    refine codeAny_builtin F.entry_set_update_loop ?_
    rw [Around.under_plainId F.plain_set_update_loop _]
    show wpAny _ A.in1 (pyNext (.ref I) >>= _) _ _ s
    refine wpAny_bind (W.done s _ _ st fun s' mv => ?_)
    show wpAny _ A.in1 (ret Value.none) _ _ s'
    exact wpAny_pure (hR s' l (mv.mono up) (T.at fun o e => mv.heap a o aw e) p)
  | succ m ih =>
    intro i s l hm hi st T p hR
    have lt : i < n := by omega
    refine codeAny_builtin F.entry_set_update_loop ?_
    rw [Around.under_plainId F.plain_set_update_loop _]
    show wpAny _ A.in1 (pyNext (.ref I) >>= _) _ _ s
    refine wpAny_bind (W.item i s _ _ lt st fun v s' hP st' mv => ?_)
    obtain ⟨k, u, hk, rfl⟩ := hv i v hP
    have T1 : TxAt P w s'.heap a l := T.at fun o e => mv.heap a o aw e
    show wpAny _ A.in1 (holding [Value.str k u] (setAdd a (.str k u)) >>= _) _ _ s'
    refine wpAny_bind (wpAny_holding ?_)
    unfold setAdd
    refine wpAny_holding (wpAny_bind ((strKind P w).pyHash (strKind_is P w k u) ?_))
    refine add_at (s := { s' with toks := s'.toks + 1 }) T1 (by have := p.len; omega) fun h' l' b sb T2 z => ?_
    refine wpAny_pure ⟨plainId_quiet F.plain_set_update_loop _, ih (i + 1) _ l' (by omega) lt (W.frame _ s' _ _ st' (Nat.le_succ _) fun b hb o e => ?_) T2 (p.next hk z) fun s2 l2 mv2 T3 p3 => ?_⟩
    · rw [sb.2 b fun q => ha (q ▸ hb)]; exact e
    · refine hR s2 l2 (Moved.trans W.gtrans ((mv.mono up).then_heap (Nat.le_succ _) fun b o hb e => ?_) mv2) T3 p3
      rw [sb.2 b fun q => hb (q ▸ List.mem_cons_self)]; exact e
end

section
variable {P : Program} {w : World} {A : Around} {E : Value → Shared → Prop} {s : Shared}
/-- an empty set's object -/
def eO (w : World) : Obj := { cls := .type "set", dict := none, data := .set #[] 0 (.fresh 0 0 (!w.params.followText "set-order")) }
set_option maxRecDepth 100000 in
set_option maxHeartbeats 3200000 in
theorem set_list {l : Addr} {items : Array Value} (xs : List Str) {Q : Value → Shared → Prop} (hh : A.handled = none) (hl : s.heap.IsList l items) (hit : StrsAre items.toList xs) (few : xs.length < 64)
    (h : ∀ (h' : Heap) (tk : Nat) (m : List Str), TxAt P w h' s.heap.objs.size m → Part xs xs.length m → (∀ b o, s.heap.get? b = some o → h'.get? b = some o) → Q (.ref s.heap.objs.size) { s with heap := h', toks := tk }) :
    wpAny (model P w) A (call (.type "set") [.ref l]) Q E s := by
  have isz : items.size = xs.length := by rw [← StrsAre.len_eq hit, Array.length_toList]
  obtain ⟨c, tl, hmro⟩ := F.called_set.mro
  have g1 := F.called_set.made
  have g2 := F.called_set.sub
  have g3 := F.called_set.notType
  have g4 := F.called_set.canCreate
  have g5 := F.typeCall_set_1 (.ref l)
  refine wpAny_call (codeAny_of_tree ?_)
  show wpAny _ _ (callAny (.type "set") _) _ _ _
  refine wpAny_pure ⟨Code.quiet_builtin _ (by decide +kernel), codeAny_builtin F.entry_type_call ?_⟩
  rw [Around.under_plain (weight_type_call_type "set" [.ref l] []) rfl]
  repeat (any_goals (first | assumption | wp_step))
  refine codeAny_mono (code_set_led1 (.ref l) (E := E) (Q₁ := fun ob s1 => ob = .ref s.heap.objs.size ∧ s1 = { s with heap := s.heap.push (eO w) }) ⟨rfl, rfl⟩) fun r s1 hr => ?_
  cases r with
  | error e => exact hr
  | ok fl =>
    cases fl with
    | ret ob =>
      obtain ⟨rfl, rfl⟩ := hr
      have hS : (s.heap.push (eO w)).get? s.heap.objs.size = some (eO w) := Heap.get?_push_size _ rfl
      have hT : Shared.TypeIs { s with heap := s.heap.push (eO w) } (.ref s.heap.objs.size) "set" := ⟨_, hS, rfl⟩
      have g6 := F.called_set.init.lookup
      have g7 := F.called_set.init.bind (.ref s.heap.objs.size)
      repeat (any_goals (first | assumption | wp_step))
      refine codeAny_mono (codeAny_call_builtin (R := wants (fun r s2 => r = .none ∧ ∃ h' tk m, s2 = { s with heap := h', toks := tk } ∧ TxAt P w h' s.heap.objs.size m ∧ Part xs xs.length m ∧
          (∀ b o, s.heap.get? b = some o → h'.get? b = some o)) E) F.called_set.init.plain F.entry_set_init (check_set_init_1 hT ?_)) fun r2 s2 hr2 => ?_
      · obtain ⟨⟨ocls, odict, odata, oslots⟩, hol, hcl, nl, hdl⟩ := hl
        simp only at hcl hdl
        subst hcl; subst hdl
        have hol' : (s.heap.push (eO w)).get? l = some { cls := .type "list", dict := odict, data := .seq items nl, slots := oslots } := Heap.get?_push_of_some _ hol
        have g8 := F.sub_list_set
        have g9 := F.sub_list_frozenset
        have g10 : (Value.type "list" == Value.type "dict") = false := by decide
        have hl1 : (s.heap.push (eO w)).IsList l items := ⟨_, hol', rfl, nl, rfl⟩
        unfold Builtin.«set.__init__» noKeywords Builtin.Frozenset.updateFrom
        generalize hPI : pyIter = PI
        wp_walk
        subst hPI
        refine wpAny_pyIter_list hl1 (wpAny_bind (wpAny_runValue ?_))
        have lS : l < s.heap.objs.size := Heap.lt_size hol
        have hh3 : A.in1.in1.in1.handled = none := by simp [hh]
        have nI : l ≠ (s.heap.push (eO w)).objs.size := by rw [Heap.size_push]; exact Nat.ne_of_lt (Nat.lt_succ_of_lt lS)
        have nf : s.heap.objs.size ∉ [(s.heap.push (eO w)).objs.size, l] := by
          rw [Heap.size_push]; simp only [List.mem_cons, List.mem_singleton, List.not_mem_nil, or_false, not_or]
          exact ⟨Nat.ne_of_lt (Nat.lt_succ_self _), Nat.ne_of_gt lS⟩
        refine upd_loop ((Walks.list hh3 _ l nI items).toS) s.heap.objs.size nf xs isz few (fun i v e => ?_) (items.size - 0) 0 _ [] (by omega) (Nat.zero_le _)
          ⟨⟨_, Heap.get?_push_size _ rfl, rfl, rfl⟩, (hl1.push _)⟩ (tx_fresh (Heap.get?_push_of_some _ hS)) ⟨fun x => by simp, Nat.le_refl _⟩ fun s' m mv T p => ?_
        · have q : items.toList[i]? = some v := by rw [Array.getElem?_toList]; exact e
          obtain ⟨t, rfl⟩ := SS.strs_at hit i v q
          have hi : i < xs.length := by rw [← StrsAre.len_eq hit]; exact (List.getElem?_eq_some_iff.mp q).1
          exact ⟨xs[i], t, List.getElem?_eq_getElem hi, by rw [List.getD_eq_getElem?_getD, List.getElem?_eq_getElem hi]; rfl⟩
        · obtain ⟨h', g', d', tk', os'⟩ := s'
          have e1 : g' = s.gens := mv.gens
          have e2 : d' = s.drawn := mv.drawn
          have e3 : os' = s.os := mv.os
          subst e1; subst e2; subst e3
          show wpAny _ _ _ _ _ _
          refine wpAny_pure ?_
          show wpAny _ _ (ret Value.none) _ _ _
          rw [isz] at p
          refine wpAny_pure ⟨rfl, h', tk', m, rfl, T, p, fun b o e => ?_⟩
          have hb : b < s.heap.objs.size := Heap.lt_size e
          refine mv.heap b o ?_ (Heap.get?_push_of_some _ (Heap.get?_push_of_some _ e))
          rw [Heap.size_push]; simp only [List.mem_cons, List.mem_singleton, List.not_mem_nil, or_false, not_or]
          exact ⟨Nat.ne_of_lt hb, Nat.ne_of_lt (Nat.lt_succ_of_lt hb)⟩
      · cases r2 with
        | error e => exact hr2
        | ok f2 =>
          cases f2 with
          | ret r =>
            obtain ⟨rfl, h', tk, m, rfl, T, p, k⟩ := hr2
            repeat (any_goals (first | assumption | wp_step))
            exact h _ _ _ T p k
          | _ => exact hr2.elim
    | _ => exact hr.elim
end

section
variable {P : Program} {w : World} {A : Around} {E : Value → Shared → Prop} {s : Shared}
set_option maxRecDepth 100000 in
set_option maxHeartbeats 3200000 in
theorem set_tuple {l : Addr} {items : Array Value} (xs : List Str) {Q : Value → Shared → Prop} (hh : A.handled = none) (hl : s.heap.IsTuple l items) (hit : StrsAre items.toList xs) (few : xs.length < 64)
    (h : ∀ (h' : Heap) (tk : Nat) (m : List Str), TxAt P w h' s.heap.objs.size m → Part xs xs.length m → (∀ b o, s.heap.get? b = some o → h'.get? b = some o) → Q (.ref s.heap.objs.size) { s with heap := h', toks := tk }) :
    wpAny (model P w) A (call (.type "set") [.ref l]) Q E s := by
  have isz : items.size = xs.length := by rw [← StrsAre.len_eq hit, Array.length_toList]
  obtain ⟨c, tl, hmro⟩ := F.called_set.mro
  have g1 := F.called_set.made
  have g2 := F.called_set.sub
  have g3 := F.called_set.notType
  have g4 := F.called_set.canCreate
  have g5 := F.typeCall_set_1 (.ref l)
  refine wpAny_call (codeAny_of_tree ?_)
  show wpAny _ _ (callAny (.type "set") _) _ _ _
  refine wpAny_pure ⟨Code.quiet_builtin _ (by decide +kernel), codeAny_builtin F.entry_type_call ?_⟩
  rw [Around.under_plain (weight_type_call_type "set" [.ref l] []) rfl]
  repeat (any_goals (first | assumption | wp_step))
  refine codeAny_mono (code_set_led1 (.ref l) (E := E) (Q₁ := fun ob s1 => ob = .ref s.heap.objs.size ∧ s1 = { s with heap := s.heap.push (eO w) }) ⟨rfl, rfl⟩) fun r s1 hr => ?_
  cases r with
  | error e => exact hr
  | ok fl =>
    cases fl with
    | ret ob =>
      obtain ⟨rfl, rfl⟩ := hr
      have hS : (s.heap.push (eO w)).get? s.heap.objs.size = some (eO w) := Heap.get?_push_size _ rfl
      have hT : Shared.TypeIs { s with heap := s.heap.push (eO w) } (.ref s.heap.objs.size) "set" := ⟨_, hS, rfl⟩
      have g6 := F.called_set.init.lookup
      have g7 := F.called_set.init.bind (.ref s.heap.objs.size)
      repeat (any_goals (first | assumption | wp_step))
      refine codeAny_mono (codeAny_call_builtin (R := wants (fun r s2 => r = .none ∧ ∃ h' tk m, s2 = { s with heap := h', toks := tk } ∧ TxAt P w h' s.heap.objs.size m ∧ Part xs xs.length m ∧
          (∀ b o, s.heap.get? b = some o → h'.get? b = some o)) E) F.called_set.init.plain F.entry_set_init (check_set_init_1 hT ?_)) fun r2 s2 hr2 => ?_
      · obtain ⟨⟨ocls, odict, odata, oslots⟩, hol, hcl, nl, hdl⟩ := hl
        simp only at hcl hdl
        subst hcl; subst hdl
        have hol' : (s.heap.push (eO w)).get? l = some { cls := .type "tuple", dict := odict, data := .seq items nl, slots := oslots } := Heap.get?_push_of_some _ hol
        have g8 := F.sub_tuple_set
        have g9 := F.sub_tuple_frozenset
        have g10 : (Value.type "tuple" == Value.type "dict") = false := by decide
        have hl1 : (s.heap.push (eO w)).IsTuple l items := ⟨_, hol', rfl, nl, rfl⟩
        unfold Builtin.«set.__init__» noKeywords Builtin.Frozenset.updateFrom
        generalize hPI : pyIter = PI
        wp_walk
        subst hPI
        refine wpAny_pyIter_tuple hl1 (wpAny_bind (wpAny_runValue ?_))
        have lS : l < s.heap.objs.size := Heap.lt_size hol
        have hh3 : A.in1.in1.in1.handled = none := by simp [hh]
        have nI : l ≠ (s.heap.push (eO w)).objs.size := by rw [Heap.size_push]; exact Nat.ne_of_lt (Nat.lt_succ_of_lt lS)
        have nf : s.heap.objs.size ∉ [(s.heap.push (eO w)).objs.size, l] := by
          rw [Heap.size_push]; simp only [List.mem_cons, List.mem_singleton, List.not_mem_nil, or_false, not_or]
          exact ⟨Nat.ne_of_lt (Nat.lt_succ_self _), Nat.ne_of_gt lS⟩
        refine upd_loop ((Walks.tuple hh3 _ l nI items).toS) s.heap.objs.size nf xs isz few (fun i v e => ?_) (items.size - 0) 0 _ [] (by omega) (Nat.zero_le _)
          ⟨⟨_, Heap.get?_push_size _ rfl, rfl, rfl⟩, (hl1.push _)⟩ (tx_fresh (Heap.get?_push_of_some _ hS)) ⟨fun x => by simp, Nat.le_refl _⟩ fun s' m mv T p => ?_
        · have q : items.toList[i]? = some v := by rw [Array.getElem?_toList]; exact e
          obtain ⟨t, rfl⟩ := SS.strs_at hit i v q
          have hi : i < xs.length := by rw [← StrsAre.len_eq hit]; exact (List.getElem?_eq_some_iff.mp q).1
          exact ⟨xs[i], t, List.getElem?_eq_getElem hi, by rw [List.getD_eq_getElem?_getD, List.getElem?_eq_getElem hi]; rfl⟩
        · obtain ⟨h', g', d', tk', os'⟩ := s'
          have e1 : g' = s.gens := mv.gens
          have e2 : d' = s.drawn := mv.drawn
          have e3 : os' = s.os := mv.os
          subst e1; subst e2; subst e3
          show wpAny _ _ _ _ _ _
          refine wpAny_pure ?_
          show wpAny _ _ (ret Value.none) _ _ _
          rw [isz] at p
          refine wpAny_pure ⟨rfl, h', tk', m, rfl, T, p, fun b o e => ?_⟩
          have hb : b < s.heap.objs.size := Heap.lt_size e
          refine mv.heap b o ?_ (Heap.get?_push_of_some _ (Heap.get?_push_of_some _ e))
          rw [Heap.size_push]; simp only [List.mem_cons, List.mem_singleton, List.not_mem_nil, or_false, not_or]
          exact ⟨Nat.ne_of_lt hb, Nat.ne_of_lt (Nat.lt_succ_of_lt hb)⟩
      · cases r2 with
        | error e => exact hr2
        | ok f2 =>
          cases f2 with
          | ret r =>
            obtain ⟨rfl, h', tk, m, rfl, T, p, k⟩ := hr2
            repeat (any_goals (first | assumption | wp_step))
            exact h _ _ _ T p k
          | _ => exact hr2.elim
    | _ => exact hr.elim
end
end XS
namespace XS
open PySem PySem.Spec PyProof.Rows L2
def TxO (P : Program) (w : World) (a : Addr) (l : List Str) : HO := .ext fun h => TxAt P w h a l
section
variable {X : Cx}
theorem tx_new {w : World} {P : Program} {H : Hp} {h : Heap} {a : Addr} {l : List Str} (R : TxAt P w h a l) : ObjOk P w H h a (TxO P w a l) := by
  have ⟨⟨D, ho, _⟩, _, _⟩ := R
  exact ⟨R, ⟨_, ho⟩, fun h1 h2 p k => TxAt.at p k⟩
theorem tx_get {pins : List (Addr × Obj)} {σ : L2.St} {H : Hp} {s : Shared} {a : Addr} {l : List Str} (I : Inv X pins σ H s) (ha : H a = some (TxO X.prog X.w a l)) : TxAt X.prog X.w s.heap a l := (I.hok a _ ha).1
/-- set(xs) of a list or tuple of texts -/
def rSetX (P : Program) (w : World) (K : PySem.W.Frag) : List V → Hp → VK → Prop := fun vs H Q => ∃ (b : Addr) (xs : List Str), vs = [V.ref b] ∧ (SqL K H b (xs.map V.str) ∨ SqT K H b (xs.map V.str)) ∧ xs.length < 64 ∧
  ∀ (p : Addr) (l : List Str), l.Nodup → (∀ x, x ∈ l ↔ x ∈ xs) → l.length ≤ xs.length → H p = none → Q (.ref p) (upd H p (TxO P w p l))
theorem cr_setX (hc : X.calm = true) : CallR X (.type "set") (rSetX X.prog X.w X.K) := by
  intro pins s σ H vs us Q I r h
  obtain ⟨b, xs, rfl, hq, few, q⟩ := h
  rw [Vals.ref1 r]
  have fin : ∀ (h' : Heap) (tk : Nat) (m : List Str), TxAt X.prog X.w h' s.heap.objs.size m → Part xs xs.length m → (∀ b o, s.heap.get? b = some o → h'.get? b = some o) → EP X pins σ Q (.ref s.heap.objs.size) { s with heap := h', toks := tk } := fun h' tk m T p k =>
    ⟨.ref s.heap.objs.size, upd H s.heap.objs.size (TxO X.prog X.w s.heap.objs.size m), I.laid (t' := tk) k (Nat.le_refl _) (tx_new T), rfl, q _ m T.one (fun x => by rw [p.mem, List.take_length]) p.len (I.hok.fresh (Nat.le_refl _))⟩
  rcases hq with hq | hq
  · obtain ⟨its, r, pl, hz⟩ := I.list hq
    exact set_list xs (I.ok.hd hc) pl.isList (by simpa using strsAre_of r) few fin
  · obtain ⟨its, r, pl, hz⟩ := I.tuple hq
    exact set_tuple xs (I.ok.hd hc) pl (by simpa using strsAre_of r) few fin
/-- len of a set of texts -/
def rLenX (P : Program) (w : World) : List V → Hp → VK → Prop := fun vs H Q => ∃ (a : Addr) (l : List Str), vs = [V.ref a] ∧ H a = some (TxO P w a l) ∧ Q (.int l.length) H
theorem cr_lenX : CallR X (.builtin "len") (rLenX X.prog X.w) := by
  intro pins s σ H vs us Q I r h
  obtain ⟨a, l, rfl, ha, q⟩ := h
  rw [Vals.ref1 r]
  obtain ⟨⟨D, ho, F, _⟩, _, few⟩ := tx_get I ha
  refine call_len_set (es := D.1) (ep := D.2.1) (t := D.2.2) ho ⟨rfl, rfl, rfl⟩ rfl F.fit (by rw [F.sz]; omega) ⟨.int l.length, H, I.tok _, ⟨_, by rw [F.sz]⟩, q⟩
/-- sorted(a set of texts) -/
def rSortX (P : Program) (w : World) : List V → Hp → VK → Prop := fun vs H Q => ∃ (a : Addr) (l : List Str), vs = [V.ref a] ∧ H a = some (TxO P w a l) ∧ ∀ ys p, ys.Perm l → sortedS ys = true → H p = none → Q (.ref p) (upd H p (.lst (ys.map V.str)))
theorem texts_of : ∀ (vs : List Value), (∀ v ∈ vs, ∃ k u, v = Value.str k u) → ∃ ks, StrsAre vs ks
  | [], _ => ⟨[], .nil⟩
  | v :: vs, h => by
    obtain ⟨k, u, rfl⟩ := h v List.mem_cons_self
    obtain ⟨ks, r⟩ := texts_of vs fun x hx => h x (List.mem_cons_of_mem _ hx)
    exact ⟨k :: ks, .cons k u r⟩
theorem texts_mem : ∀ {vs : List Value} {ks : List Str}, StrsAre vs ks → ∀ k, k ∈ ks ↔ ∃ u, Value.str k u ∈ vs
  | _, _, .nil, k => by simp
  | _, _, .cons n t r, k => by
    rw [List.mem_cons, texts_mem r k]
    constructor
    · rintro (rfl | ⟨u, h⟩)
      · exact ⟨t, List.mem_cons_self⟩
      · exact ⟨u, List.mem_cons_of_mem _ h⟩
    · rintro ⟨u, h⟩
      rcases List.mem_cons.mp h with z | z
      · cases z; exact .inl rfl
      · exact .inr ⟨u, z⟩
theorem perm_sub : ∀ {l ks : List Str}, l.Nodup → (∀ x ∈ l, x ∈ ks) → ks.length = l.length → ks.Perm l
  | [], ks, _, _, h => by rw [List.length_eq_zero_iff.mp h]
  | x :: l, ks, d, m, h => by
    obtain ⟨d1, d2⟩ := List.nodup_cons.mp d
    have hx := m x List.mem_cons_self
    refine (List.perm_cons_erase hx).trans ((perm_sub d2 (fun y hy => (List.mem_erase_of_ne fun e : y = x => d1 (e ▸ hy)).mpr (m y (List.mem_cons_of_mem _ hy))) ?_).cons x)
    rw [List.length_erase_of_mem hx, h]; rfl
theorem cr_sortX (hc : X.calm = true) : CallR X (.builtin "sorted") (rSortX X.prog X.w) := by
  intro pins s σ H vs us Q I r h
  obtain ⟨a, l, rfl, ha, q⟩ := h
  rw [Vals.ref1 r]
  obtain ⟨⟨D, ho, F, hr, hl⟩, one, few⟩ := tx_get I ha
  have h64 : D.1.size < 64 := by rw [F.sz]; exact few
  refine Calls.call_function_entry kind_sorted plain_sorted entry_sorted (args_sorted1 _) ?_
  unfold Builtin.«sorted»
  refine wpAny_bind (m := checkCount "sorted" 1 1 _) (wpAny_pure ?_)
  refine wpAny_bind (collect_set (A := X.A.in1) (es := D.1) (ep := D.2.1) (t := D.2.2) (I.ok.hd hc) ⟨_, ho, rfl, rfl⟩ F.fit (by unfold scanBound; omega) hr hl fun s1 vs k1 hz g1 o1 pm => ?_)
  have hvl : vs.length = l.length := by rw [pm.length_eq, List.length_map, Array.length_toList]; exact F.sz
  obtain ⟨ks, hS⟩ := texts_of vs fun v hv => by
    obtain ⟨e, he, q⟩ := List.mem_map.mp (pm.mem_iff.mp hv)
    obtain ⟨⟨k, h1, _⟩, _⟩ := F.el e he
    obtain ⟨tk, e1⟩ := Value.isStrOf_shape (x := k) (v := e.2) h1
    exact ⟨k, tk, by rw [← q]; exact e1⟩
  have hkl : ks.length = l.length := by rw [← StrsAre.len_eq hS]; exact hvl
  have mem : ∀ k, k ∈ ks ↔ k ∈ l := fun k => by
    rw [texts_mem hS k, F.mem k]
    constructor
    · rintro ⟨u, hu⟩
      obtain ⟨e, he, q⟩ := List.mem_map.mp (pm.mem_iff.mp hu)
      exact ⟨e, he, by rw [q]; exact strKind_is _ _ _ _⟩
    · rintro ⟨e, he, q⟩
      obtain ⟨tk, e1⟩ := Value.isStrOf_shape (x := k) (v := e.2) q
      exact ⟨tk, pm.mem_iff.mpr (List.mem_map.mpr ⟨e, he, e1⟩)⟩
  refine wpAny_bind (wpAny_newList ?_ (by rw [hvl, sizeLine_eq]; omega))
  have hoL : (s1.heap.push (seqObj "list" vs.toArray 0)).get? s1.heap.objs.size = some (seqObj "list" vs.toArray 0) := Heap.get?_push_size _ rfl
  refine wpAny_bind (wpAny_holding (wpAny_call_entry slot_list_sort ⟨_, hoL, rfl⟩ entry_list_sort
    (list_sort_treeK strKind_oneLt (s := { s1 with heap := s1.heap.push (seqObj "list" vs.toArray 0) }) hoL hS.keysOf (fun v₁ v₂ rest e => keyKind_strs (by rw [← e]; exact hS)) (by rw [hvl]; exact few) fun st' hp hs => ⟨_, rfl, ?_⟩) (args_list_sort _)))
  obtain ⟨ys, y1, y2, y3⟩ := sorted_out_str hS hp hs
  obtain ⟨c, hcc⟩ := sortedHeap_at (vs := vs) (out := (arrOf st').map (·.2)) hoL
  have hlen : (ys.map V.str).length ≤ sizeLine := by
    rw [List.length_map, y2.length_eq, hkl, sizeLine_eq]; omega
  have hn : H s1.heap.objs.size = none := I.hok.fresh hz
  have pk : ks.Perm l := perm_sub one (fun x hx => (mem x).mpr hx) hkl
  refine wpAny_pure ⟨_, rfl, ?_⟩
  have k2 : ∀ b o, s.heap.get? b = some o → (sortedHeap (s1.heap.push (seqObj "list" vs.toArray 0)) s1.heap.objs.size vs ((arrOf st').map (·.2))).get? b = some o := fun b o e => by
    have q := k1 b o e
    have hlt := Heap.lt_size q
    rw [sortedHeap_old (Nat.ne_of_lt hlt) (by rw [size_push']; exact Nat.lt_succ_of_lt hlt)]
    exact Heap.get?_push_of_some _ q
  have ob : ObjOk X.prog X.w (upd H s1.heap.objs.size (.lst (ys.map V.str))) (sortedHeap (s1.heap.push (seqObj "list" vs.toArray 0)) s1.heap.objs.size vs ((arrOf st').map (·.2))) s1.heap.objs.size (.lst (ys.map V.str)) :=
    ⟨hlen, ((arrOf st').map (·.2)).toList, c, vals_of_strs y1, by rw [Array.toArray_toList]; exact hcc⟩
  have J := I.call (g' := s1.gens) (t' := s1.toks) (d' := s1.drawn) (ch := []) (Un.laid (o := .lst (ys.map V.str)) k2 hz hn) (I.hok.laid k2 hz ob) (by rw [g1]; exact I.bare) (fun _ z => nomatch z)
  obtain ⟨a1, a2, a3, a4, a5⟩ := s1
  have e5 : a5 = s.os := o1
  subst e5
  exact ⟨.ref _, _, J, rfl, q ys _ (y2.trans pk) y3 hn⟩
/-- x in / not in a set of texts -/
def rInX (P : Program) (w : World) (f : Bool → Bool) : R2 := fun x y H Q => ∃ (k : Str) (a : Addr) (l : List Str), x = .str k ∧ y = .ref a ∧ H a = some (TxO P w a l) ∧ Q (.bl (f (decide (k ∈ l)))) H
theorem op_inX : OpR X (compareOp .In) (rInX X.prog X.w fun b => b) := by
  intro pins s σ H x y v u Q I rx ry h
  obtain ⟨k, a, l, rfl, rfl, ha, q⟩ := h
  obtain ⟨tk, rfl⟩ := rx
  cases ry
  exact wpAny_inSet_of (strKind_is _ _ _ _) rfl (tx_get I ha).setOf ⟨.bl _, H, I.tok _, rfl, q⟩
theorem op_notinX : OpR X (compareOp .NotIn) (rInX X.prog X.w fun b => !b) := by
  intro pins s σ H x y v u Q I rx ry h
  obtain ⟨k, a, l, rfl, rfl, ha, q⟩ := h
  obtain ⟨tk, rfl⟩ := rx
  cases ry
  exact wpAny_notInSet_of (strKind_is _ _ _ _) rfl (tx_get I ha).setOf ⟨.bl _, H, I.tok _, rfl, q⟩
end

section
variable {X : Cx}
/-- one text put into the set at D -/
def tAddX (P : Program) (w : World) (D : Addr) (y : V) (H : Hp) (Nx : Hp → Prop) : Prop := ∃ (k : Str) (l : List Str), y = .str k ∧ H D = some (TxO P w D l) ∧ l.length + 1 < 64 ∧ ∀ l', (k ∈ l ∧ l' = l ∨ k ∉ l ∧ l' = k :: l) → Nx (upd H D (TxO P w D l'))
theorem add_run {pins : List (Addr × Obj)} {σ : L2.St} {H : Hp} {s : Shared} {E : Value → Shared → Prop} {D : Addr} {y : V} {u : Value} {Nx : Hp → Prop} {Q : Value → Shared → Prop} (I : Inv X pins σ H s) (ry : RelV y u) (h : tAddX X.prog X.w D y H Nx)
    (hQ : ∀ r s' H', Inv X pins σ H' s' → Nx H' → Q r s') : wpAny (model X.prog X.w) X.A (call (.builtin "set.add") [.ref D, u]) Q E s := by
  obtain ⟨k, l, rfl, hD, few, nx⟩ := h
  obtain ⟨t, rfl⟩ := ry
  refine add_call (tx_get I hD) few fun h' l' sb T z => hQ _ _ (upd H D (TxO X.prog X.w D l')) (I.write (e := D) (t' := s.toks + 1) (by rw [hD]; trivial) (.inl rfl) (fun b u hb e => (sb.2 b hb).trans e) ?_ (tx_new T)) (nx l' z)
  have ⟨⟨_, ho, _⟩, _, _⟩ := T
  exact ⟨_, ho⟩
/-- {v for target in iter if ..} of texts: D the new set -/
def tSc (P : Program) (w : World) (wi : TI) (g : TG) (tt : TT) (tv : TE) (vs : List Nat) : TE := fun σ H Q => wi σ H fun J H1 => ∀ D, H1 D = none → ∃ W : Nat → Nat → Hp → Prop, (∃ m, W 0 m (upd H1 D (TxO P w D []))) ∧ ∀ i m H, W i m H →
  (J.stop i H ∧ Q (.ref D) H) ∨ (J.go i H ∧ ∃ Nx : Hp → Prop, (∀ H', Nx H' → ∃ m', m' < m ∧ W (i + 1) m' H') ∧ ∀ x H', J.yld i H x H' → g x (wipe σ vs) H' fun σ2 H2 => wipe σ2 vs = wipe σ vs ∧ tt σ2 H2 fun b H3 =>
    if b = true then tv σ2 H3 fun y H4 => tAddX P w D y H4 Nx else Nx H3)
theorem pe_sc {ev tg iter : Expr} {ifs : List Expr} {scope : Scope} {own : List (Str × Nat)} {pos : Pos} {wi : TI} {g : TG} {tt : TT} {tv : TE} (hc : X.calm = true) (hN : X.N.Nodup) (hi : PI X tg iter wi) (ok : BlkOk X.N X.env.scope scope own)
    (hg : ∀ (s : Shared) (H : Hp) (C : Addr) (cl : List (Str × Addr)) (fp : List Addr), PG (X.blk s H scope (compEnvC scope cl C X.env) fp) tg g) (ht : ∀ (s : Shared) (H : Hp) (C : Addr) (cl : List (Str × Addr)) (fp : List Addr), PTs (X.blk s H scope (compEnvC scope cl C X.env) fp) ifs tt)
    (he : ∀ (s : Shared) (H : Hp) (C : Addr) (cl : List (Str × Addr)) (fp : List Addr), PE (X.blk s H scope (compEnvC scope cl C X.env) fp) ev tv) (hs : ∀ x, foldedSetIterable iter X.env x = pure x := by intro _; rfl) :
    PE X (.SetComp ev [⟨tg, iter, ifs, 0⟩] scope pos) (tSc X.prog X.w wi g tt tv (own.map (·.2))) := by
  refine ⟨fun pins s σ H Q I h => ?_⟩
  rw [arm_eval_SetComp]
  have hfree : ∀ y ∈ scope.names, y.2 = .free → ∃ c, X.env.cells.lookup y.1 = some c := fun y hy e => (ok.free y hy e).elim (fun k => I.ok.has _ (.inl k)) fun k => I.ok.has _ (.inr k)
  refine wpAny_comprehension_free (use := none) rfl hs (closure_ok hfree) ok.kind (fun y hy e => by rw [ok.uniq y hy, e]) (thn (hi.run pins s σ H _ I h) fun xv s1 hx => thn hx fun itv s2 h2 => ?_)
  obtain ⟨it, fp, tn, J, H2, rfl, I2, T, st2, f2, q⟩ := h2
  refine wpAny_newSet_raw fun led hled => newEnv_comp ?_
  subst hled
  have hDn : H2 s2.heap.objs.size = none := I2.hok.fresh (Nat.le_refl _)
  obtain ⟨W, ⟨m0, w0⟩, turn⟩ := q s2.heap.objs.size hDn
  generalize hD : s2.heap.objs.size = D at *
  generalize hs3 : ({ s2 with heap := s2.heap.push { cls := .type "set", dict := none, data := .set #[] 0 (.fresh 0 0 (!(X.w.params.followText "set-order"))) } } : Shared) = s3
  have h3 : s3.heap = s2.heap.push (eO X.w) := by rw [← hs3]; rfl
  have oldk : ∀ b o, s2.heap.get? b = some o → s3.heap.get? b = some o := fun b o e => by rw [h3]; exact Heap.get?_push_of_some _ e
  have I3 : Inv X pins σ (upd H2 D (TxO X.prog X.w D [])) s3 := by
    rw [← hs3]
    refine I2.laid (t' := s2.toks) (fun b o e => Heap.get?_push_of_some _ e) (Nat.le_of_eq hD) (tx_new (tx_fresh ?_))
    rw [← hD]
    exact Heap.get?_push_size _ rfl
  have sz : ∀ b ∈ fp, b < s2.heap.objs.size := fun b hb => by
    obtain ⟨o, e, _⟩ := T.obj _ _ st2 b hb
    exact Heap.lt_size e
  generalize hH3 : upd H2 D (TxO X.prog X.w D []) = H3 at I3 w0
  have f3 : ∀ b ∈ fp, FpOk X pins H3 b ∧ b < s3.heap.objs.size := fun b hb => by
    have lt := sz b hb
    refine ⟨⟨?_, (f2 b hb).2⟩, by rw [h3, Heap.size_push]; exact Nat.lt_succ_of_lt lt⟩
    rw [← hH3, upd_ne (by rw [← hD]; exact Nat.ne_of_lt lt)]
    exact (f2 b hb).1
  have st3 : tn 0 s3.heap := T.keep _ _ _ st2 fun b _ o e => oldk b o e
  have I4 := block_start I3 ok hN f3
  have pg := hg s3 H3 s3.heap.objs.size (cellsFrom (s3.heap.objs.size + 1) scope.names (cloFrom X.env.cells scope.names [])) fp
  have pt := ht s3 H3 s3.heap.objs.size (cellsFrom (s3.heap.objs.size + 1) scope.names (cloFrom X.env.cells scope.names [])) fp
  have pe := he s3 H3 s3.heap.objs.size (cellsFrom (s3.heap.objs.size + 1) scope.names (cloFrom X.env.cells scope.names [])) fp
  show codeAny _ _ (.compStart (.SetComp ev [⟨tg, iter, ifs, 0⟩] scope pos) 0 (.ref it) (.ref D) (compEnvC scope (cellsFrom (s3.heap.objs.size + 1) scope.names (cloFrom X.env.cells scope.names [])) s3.heap.objs.size X.env)) (compPost (model X.prog X.w) X.A X.xe none (EP X pins σ Q) (.ref D) s3.heap.objs.size) { s3 with heap := pushCells (s3.heap.push { cls := .type "dict", data := .dict #[] }) scope.names }
  have nfp : ∀ b ∈ fp, H3 b = none := fun b hb => (f3 b hb).1.1
  generalize hce : compEnvC scope (cellsFrom (s3.heap.objs.size + 1) scope.names (cloFrom X.env.cells scope.names [])) s3.heap.objs.size X.env = ce at I4 pg pt pe ⊢
  have cL : ce.locals = s3.heap.objs.size := by subst hce; rfl
  generalize hs4 : ({ s3 with heap := pushCells (s3.heap.push { cls := .type "dict", data := .dict #[] }) scope.names } : Shared) = s4 at I4 ⊢
  have st4 : tn 0 s4.heap := T.keep _ _ _ st3 fun b _ o e => by rw [← hs4]; exact pushCells_keeps _ _ _ _ (Heap.get?_push_of_some _ e)
  have stat : ∀ {σ' : L2.St} {H' : Hp} {s' : Shared}, Inv (X.blk s3 H3 scope ce fp) [] σ' H' s' → (∀ b ∈ fp, H' b = none) → ∀ b ∈ fp, FpOk (X.blk s3 H3 scope ce fp) [] H' b := fun {σ' H' s'} I' hn b hb =>
    ⟨hn b hb, (I'.ok.exf b hb).1, I'.ok.exfs b hb, .inl hb, fun x c e => (I'.ok.exf b hb).2 x c e, fun p hp => absurd (show p ∈ ([] : List (Addr × Obj)) ++ [] from hp) (by simp)⟩
  have loop : codeAny (model X.prog X.w) X.A (.compLoop (.SetComp ev [⟨tg, iter, ifs, 0⟩] scope pos) 0 (.ref it) (.ref D) ce) (compPost (model X.prog X.w) X.A X.xe none (EP X pins σ Q) (.ref D) s3.heap.objs.size) s4 := by
    refine compLoop_set_any (fun n s' => ∃ i H', Inv (X.blk s3 H3 scope ce fp) [] (wipe σ (own.map (·.2))) H' s' ∧ tn i s'.heap ∧ (∀ b ∈ fp, H' b = none) ∧ W i n H') ?_ m0 ⟨0, H3, I4, st4, nfp, w0⟩
    rintro n s5 ⟨i, H5, I5, st5, n5, w5⟩
    rcases turn i n H5 w5 with ⟨stop, qq⟩ | ⟨go, Nx, hNx, step⟩
    · refine thnF (T.done (X.blk s3 H3 scope ce fp) rfl rfl rfl hc i [] s5 _ H5 (fun _ _ => False) I5 (stat I5 n5) st5 stop) fun r s6 ⟨hr, I6⟩ => ?_
      subst hr
      have I7 : Inv X pins σ H5 s6 := I3.call' (ch := fp) I6.os I6.base I6.hok I6.bare fun b hb => ⟨(f3 b hb).1.2.2.2.1, (f3 b hb).1.2.1, (f3 b hb).1.2.2.2.2.1, (f3 b hb).1.2.2.2.2.2⟩
      have nC : H5 s3.heap.objs.size = none := by
        have z : H5 ce.locals = none := I6.free
        rw [cL] at z
        exact z
      obtain ⟨m, hn, _⟩ := I6.loc
      have hn : s6.heap.Ns ce.locals m := hn
      rw [cL] at hn
      obtain ⟨f0, f1, f2, f3, f4, f5⟩ := I3.fpOk (Nat.le_refl _) nC
      exact ⟨m, hn, fun h'' sb => ⟨.ref D, H5, I7.turned (t' := s6.toks) (fun b o hb e => (sb.2 b hb).trans e) f0 f1 f3 f4 f5, rfl, qq⟩⟩
    · refine thnF (T.item (X.blk s3 H3 scope ce fp) rfl rfl rfl hc i [] s5 _ H5 (fun _ _ => False) I5 (stat I5 n5) st5 go) fun r s6 ⟨u, hr, h6⟩ => ?_
      subst hr
      refine thnF h6 fun _ s7 ⟨x, H7, I7, r7, y7, st7, n7⟩ => ?_
      have I7' := I7.pinned (stat I7 n7) (T.obj _ _ st7)
      refine thnF (pg.run _ s7 _ H7 x u _ I7' r7 (step x H7 y7)) fun _ s8 ⟨σ8, H8, I8, hw8, q8⟩ => ?_
      refine thnF (pt.run _ s8 σ8 H8 _ I8 q8) fun b s9 ⟨H9, I9, q9⟩ => ?_
      have fin : ∀ {s' : Shared} {H' : Hp}, Inv (X.blk s3 H3 scope ce fp) ([] ++ pinsAt fp s7.heap) σ8 H' s' → Nx H' → ∃ m, m < n ∧ ∃ i H', Inv (X.blk s3 H3 scope ce fp) [] (wipe σ (own.map (·.2))) H' s' ∧ tn i s'.heap ∧ (∀ b ∈ fp, H' b = none) ∧ W i m H' := fun {s' H'} I' nx => by
        obtain ⟨m', hm, w'⟩ := hNx H' nx
        have pin' : ∀ b ∈ fp, ∀ o, s7.heap.get? b = some o → s'.heap.get? b = some o ∧ H' b = none := fun b hb o e =>
          let z := I'.pin (b, o) (List.mem_append_right _ (List.mem_append_right _ (mem_pinsAt hb e)))
          ⟨z.1, z.2.1⟩
        refine ⟨m', hm, i + 1, H', (I'.unpinned (pins := [])).weak (by rw [← hw8, wipe_length]) (fun j v e => ?_), T.keep _ _ _ st7 fun b hb o e => (pin' b hb o e).1, fun b hb => ?_, w'⟩
        · rw [← hw8] at e
          exact (wipe_some e).1
        · obtain ⟨o, e, _⟩ := T.obj _ _ st7 b hb
          exact (pin' b hb o e).2
      cases b with
      | false =>
        simp only [Bool.false_eq_true, if_false] at q9 ⊢
        exact fin I9 q9
      | true =>
        simp only [if_true] at q9 ⊢
        refine thnF (pe.run _ s9 σ8 H9 _ I9 q9) fun z s10 ⟨y, H10, I10, r10, q10⟩ => ?_
        exact add_run (X := X.blk s3 H3 scope ce fp) I10 r10 q10 fun r s11 H11 I11 nx => fin I11 nx
  exact codeAny_compStart_set loop (T.self X.A 0 _ _ _ st4 loop)
end
end XS
namespace XI
open PySem PySem.Spec PyProof.Rows L2
/-! ## set(a list of ints), len of it -/
abbrev eOI (w : World) : Obj := { cls := .type "set", dict := none, data := .set #[] 0 (.fresh 0 0 (!w.params.followText "set-order")) }
section
variable {P : Program} {w : World} {A : Around} {E : Value → Shared → Prop} {s : Shared}
set_option maxRecDepth 100000 in
set_option maxHeartbeats 3200000 in
theorem set_listI {l : Addr} {items : Array Value} (xs : List Int) {Q : Value → Shared → Prop} (hh : A.handled = none) (hl : s.heap.IsList l items) (hit : IntsAre items.toList xs) (few : xs.length + 1 < scanBound)
    (h : ∀ (h' : Heap) (tk : Nat) (c : Nat), SetR w h' s.heap.objs.size (fun j => decide (j ∈ xs)) c → c ≤ xs.length → (∀ b o, s.heap.get? b = some o → h'.get? b = some o) → Q (.ref s.heap.objs.size) { s with heap := h', toks := tk }) :
    wpAny (model P w) A (call (.type "set") [.ref l]) Q E s := by
  have isz : items.size = xs.length := by have q := IntsAre.length hit; rw [Array.length_toList] at q; exact q
  obtain ⟨c, tl, hmro⟩ := F.called_set.mro
  have g1 := F.called_set.made
  have g2 := F.called_set.sub
  have g3 := F.called_set.notType
  have g4 := F.called_set.canCreate
  have g5 := F.typeCall_set_1 (.ref l)
  refine wpAny_call (codeAny_of_tree ?_)
  show wpAny _ _ (callAny (.type "set") _) _ _ _
  refine wpAny_pure ⟨Code.quiet_builtin _ (by decide +kernel), codeAny_builtin F.entry_type_call ?_⟩
  rw [Around.under_plain (weight_type_call_type "set" [.ref l] []) rfl]
  repeat (any_goals (first | assumption | wp_step))
  refine codeAny_mono (code_set_led1 (.ref l) (E := E) (Q₁ := fun ob s1 => ob = .ref s.heap.objs.size ∧ s1 = { s with heap := s.heap.push (eOI w) }) ⟨rfl, rfl⟩) fun r s1 hr => ?_
  cases r with
  | error e => exact hr
  | ok fl =>
    cases fl with
    | ret ob =>
      obtain ⟨rfl, rfl⟩ := hr
      have hS : (s.heap.push (eOI w)).get? s.heap.objs.size = some (eOI w) := Heap.get?_push_size _ rfl
      have hT : Shared.TypeIs { s with heap := s.heap.push (eOI w) } (.ref s.heap.objs.size) "set" := ⟨_, hS, rfl⟩
      have g6 := F.called_set.init.lookup
      have g7 := F.called_set.init.bind (.ref s.heap.objs.size)
      repeat (any_goals (first | assumption | wp_step))
      refine codeAny_mono (codeAny_call_builtin (R := wants (fun r s2 => r = .none ∧ ∃ h' tk c, s2 = { s with heap := h', toks := tk } ∧ SetR w h' s.heap.objs.size (fun j => decide (j ∈ xs)) c ∧ c ≤ xs.length ∧
          (∀ b o, s.heap.get? b = some o → h'.get? b = some o)) E) F.called_set.init.plain F.entry_set_init (check_set_init_1 hT ?_)) fun r2 s2 hr2 => ?_
      · obtain ⟨⟨ocls, odict, odata, oslots⟩, hol, hcl, nl, hdl⟩ := hl
        simp only at hcl hdl
        subst hcl; subst hdl
        have hol' : (s.heap.push (eOI w)).get? l = some { cls := .type "list", dict := odict, data := .seq items nl, slots := oslots } := Heap.get?_push_of_some _ hol
        have g8 := F.sub_list_set
        have g9 := F.sub_list_frozenset
        have g10 : (Value.type "list" == Value.type "dict") = false := by decide
        have hl1 : (s.heap.push (eOI w)).IsList l items := ⟨_, hol', rfl, nl, rfl⟩
        unfold Builtin.«set.__init__» noKeywords Builtin.Frozenset.updateFrom
        generalize hPI : pyIter = PI
        wp_walk
        subst hPI
        refine wpAny_pyIter_list hl1 (wpAny_bind (wpAny_runValue ?_))
        have lS : l < s.heap.objs.size := Heap.lt_size hol
        have hh3 : A.in1.in1.in1.handled = none := by simp [hh]
        have nI : l ≠ (s.heap.push (eOI w)).objs.size := by rw [Heap.size_push]; exact Nat.ne_of_lt (Nat.lt_succ_of_lt lS)
        have nf : s.heap.objs.size ∉ [(s.heap.push (eOI w)).objs.size, l] := by
          rw [Heap.size_push]; simp only [List.mem_cons, List.mem_singleton, List.not_mem_nil, or_false, not_or]
          exact ⟨Nat.ne_of_lt (Nat.lt_succ_self _), Nat.ne_of_gt lS⟩
        have hval : ∀ (i : Nat) (v : Value), items[i]? = some v → ∃ k t, xs[i]? = some k ∧ v = .int k t := fun i v hv => by
          have hi : i < xs.length := by rw [← isz]; exact (Array.getElem?_eq_some_iff.mp hv).1
          obtain ⟨t, e⟩ := PyProof.Rows.IntsAre.int_at hit i v (by rw [Array.getElem?_toList]; exact hv)
          refine ⟨xs[i], t, List.getElem?_eq_getElem hi, ?_⟩
          rw [e, List.getD_eq_getElem?_getD, List.getElem?_eq_getElem hi] <;> rfl
        refine set_update_ints ((Walks.list hh3 _ l nI items).toS) s.heap.objs.size nf xs isz few hval (items.size - 0) 0 _ (by omega) (Nat.zero_le _)
          ⟨⟨_, Heap.get?_push_size _ rfl, rfl, rfl⟩, (hl1.push _)⟩ ⟨0, Nat.le_refl 0, setR_new_at (Heap.get?_push_of_some _ hS)⟩ fun s' c' mv p T => ?_
        · obtain ⟨h', g', d', tk', os'⟩ := s'
          have e1 : g' = s.gens := mv.gens
          have e2 : d' = s.drawn := mv.drawn
          have e3 : os' = s.os := mv.os
          subst e1; subst e2; subst e3
          show wpAny _ _ _ _ _ _
          refine wpAny_pure ?_
          show wpAny _ _ (ret Value.none) _ _ _
          rw [isz] at p
          refine wpAny_pure ⟨rfl, h', tk', c', rfl, T, p, fun b o e => ?_⟩
          have hb : b < s.heap.objs.size := Heap.lt_size e
          refine mv.heap b o ?_ (Heap.get?_push_of_some _ (Heap.get?_push_of_some _ e))
          rw [Heap.size_push]; simp only [List.mem_cons, List.mem_singleton, List.not_mem_nil, or_false, not_or]
          exact ⟨Nat.ne_of_lt hb, Nat.ne_of_lt (Nat.lt_succ_of_lt hb)⟩
      · cases r2 with
        | error e => exact hr2
        | ok f2 =>
          cases f2 with
          | ret r =>
            obtain ⟨rfl, h', tk, c', rfl, T, p, k⟩ := hr2
            repeat (any_goals (first | assumption | wp_step))
            exact h _ _ _ T p k
          | _ => exact hr2.elim
    | _ => exact hr.elim
end


section
variable {X : Cx}
def rSetLI (w : World) (K : PySem.W.Frag) : List V → Hp → VK → Prop := fun vs H Q => ∃ (b : Addr) (xs : List Int), vs = [V.ref b] ∧ SqL K H b (xs.map V.int) ∧ xs.length + 1 < scanBound ∧
  ∀ (p : Addr) (c : Nat), ((∀ z, (∀ x ∈ xs, x = z) → c ≤ 1) ∧ (∀ x ∈ xs, ∀ y ∈ xs, x ≠ y → 2 ≤ c)) → H p = none → Q (.ref p) (upd H p (SetO w p (fun j => decide (j ∈ xs)) c))
theorem one_at_most {l : List Int} {z : Int} (d : l.Nodup) (h : ∀ x ∈ l, x = z) : l.length ≤ 1 := by
  match l, d, h with
  | [], _, _ => exact Nat.zero_le _
  | [_], _, _ => exact Nat.le_refl _
  | a :: b :: r, d, h =>
    have e1 := h a List.mem_cons_self
    have e2 := h b (List.mem_cons_of_mem _ List.mem_cons_self)
    exact absurd (e1.trans e2.symm) ((List.nodup_cons.mp d).1 ∘ fun e => e ▸ List.mem_cons_self)
theorem two_at_least {l : List Int} {x y : Int} (hx : x ∈ l) (hy : y ∈ l) (h : x ≠ y) : 2 ≤ l.length := by
  match l, hx, hy with
  | [a], hx, hy => exact absurd ((List.mem_singleton.mp hx).trans (List.mem_singleton.mp hy).symm) h
  | a :: b :: r, _, _ => exact Nat.succ_le_succ (Nat.succ_le_succ (Nat.zero_le _))
theorem cr_setLI (hc : X.calm = true) : CallR X (.type "set") (rSetLI X.w X.K) := by
  intro pins s σ H vs us Q I r h
  obtain ⟨b, xs, rfl, hq, few, q⟩ := h
  rw [Vals.ref1 r]
  obtain ⟨its, r, pl, hz⟩ := I.list hq
  refine set_listI xs (I.ok.hd hc) pl.isList (by simpa using Vals.ints r) few fun h' tk c R _ k => ?_
  refine ⟨.ref s.heap.objs.size, upd H s.heap.objs.size (SetO X.w s.heap.objs.size (fun j => decide (j ∈ xs)) c), I.laid (t' := tk) k (Nat.le_refl _) ?_, rfl, q _ c ⟨fun z hz => ?_, fun x hx y hy hxy => ?_⟩ (I.hok.fresh (Nat.le_refl _))⟩
  · exact setO_new R
  · obtain ⟨o, es, ep, t, _, _, _, _, nd, mem, _, _, sz, _⟩ := R
    have := one_at_most nd fun x hx => hz x (of_decide_eq_true ((mem x).mpr hx))
    rw [List.length_map, Array.length_toList, sz] at this
    exact this
  · obtain ⟨o, es, ep, t, _, _, _, _, nd, mem, _, _, sz, _⟩ := R
    have := two_at_least ((mem x).mp (decide_eq_true hx)) ((mem y).mp (decide_eq_true hy)) hxy
    rw [List.length_map, Array.length_toList, sz] at this
    exact this
def rLenLI (w : World) : List V → Hp → VK → Prop := fun vs H Q => ∃ (a : Addr) (S : Int → Bool) (c : Nat), vs = [V.ref a] ∧ H a = some (SetO w a S c) ∧ Q (.int c) H
theorem cr_lenLI : CallR X (.builtin "len") (rLenLI X.w) := by
  intro pins s σ H vs us Q I r h
  obtain ⟨a, S, c, rfl, ha, q⟩ := h
  rw [Vals.ref1 r]
  obtain ⟨o, es, ep, t, ho, ex, hd, _, _, _, few, fits, sz, _⟩ := setO_get I ha
  exact call_len_set (es := es) (ep := ep) (t := t) ho ex hd fits (by have h : es.size < scanBound := few; unfold scanBound at h; omega) ⟨.int c, H, I.tok _, ⟨_, by rw [sz]⟩, q⟩
end
end XI
namespace LX
open PySem PySem.Spec PyProof.Rows L2
/-! ## a list comprehension whose element lets an exception out -/
theorem ff_weak {h B B' : Heap} (k : ∀ b, B.get? b = none → B'.get? b = none) : ∀ {l : List Env}, h.FunFrames B l → h.FunFrames B' l
  | [], _ => trivial
  | _ :: _, ⟨a, ⟨L, o, e1, e2, e3, e4⟩, r⟩ => ⟨a, ⟨L, o, e1, k _ e2, e3, e4⟩, ff_weak k r⟩
theorem tr_weak {h B B' : Heap} {e : Addr} {Z : Obj → Prop} {fl : Value} (k : ∀ b, B.get? b = none → B'.get? b = none) (t : HandSPX.TracedZ h B e Z fl) : HandSPX.TracedZ h B' e Z fl := by
  obtain ⟨oe, vs, T, oT, ts, he, hz, hd, h1, hnT, r⟩ := t
  exact ⟨oe, vs, T, oT, ts, he, hz, hd, h1, k _ hnT, r⟩
/-- the wish of a block: what a callee of the element lets out -/
def XF (X Y : Cx) (E : XK) (u : Value) (s' : Shared) : Prop := ∃ (pins : List (Addr × Obj)) (σ : L2.St) (H : Hp) (s : Shared), Inv Y pins σ H s ∧ CX X.prog X.w X.stack H s E u s'
section
variable {X : Cx} {pins : List (Addr × Obj)} {σ : L2.St} {H3 : Hp} {s3 : Shared} {E : XK}
theorem blk_fails {scope : Scope} {ce : Env} {fp : List Addr} (I3 : Inv X pins σ H3 s3) (f3 : ∀ b ∈ fp, FpOk X pins H3 b ∧ b < s3.heap.objs.size) (tk : Takes X (fun cls d _ H => E cls d H)) (hs : X.stack = X.env :: X.outer)
    (hf : X.env.frame = some X.env.locals) (cL : ce.locals = s3.heap.objs.size) (cF : ce.frame = X.env.frame) {u : Value} {s' : Shared} (x : XF X (X.blk s3 H3 scope ce fp) E u s') :
    notedBy (model X.prog X.w) X.A ce (CompFails (model X.prog X.w) X.A X.xe ce) u s' := by
  obtain ⟨pB, σB, HB, sB, IB, c⟩ := x
  have c' := c
  obtain ⟨a, B, H', cls, d, rfl, fl, _⟩ := c'
  obtain ⟨a', B2, sI, p2, σ2, H2, cls2, d2, ea, I, nb, up, sky, na, os, ag, w⟩ := XE.of_call (X := X.blk s3 H3 scope ce fp) (W := fun cls d _ H => E cls d H) IB (fun _ _ _ h => h) c
  cases ea
  obtain ⟨_, _, _, oe, vs, T, oT, ts, he, hz, hd, h1, hnT, hTe, hT, hdT, h3⟩ := fl
  have sky : Sky B2 X.stack a (Zc cls2 d2) ce.locals s'.heap := sky
  have fl2 : HandSPX.FlyingZ B2 X.stack a (Zc cls2 d2) s'.heap := by
    rcases sky with ⟨_, _, _, oe', vs', he', _, hd', h1'⟩ | fl | ⟨_, _, _, oe', vs', T', oT', ts', he', _, hd', h1', _, _, hT', hdT', h3'⟩
    · rw [he] at he'
      cases he'
      rw [hd] at hd'
      cases hd'
      rw [h1] at h1'
      cases h1'
    · exact fl
    · rw [he] at he'
      cases he'
      rw [hd] at hd'
      cases hd'
      rw [h1] at h1'
      cases h1'
      rw [hT] at hT'
      cases hT'
      rw [hdT] at hdT'
      cases hdT'
      rw [h3] at h3'
      cases h3'
  have kn : ∀ b, B2.get? b = none → (PySem.W.hideAll B2 [ce.locals]).get? b = none := fun b e => by
    cases q : (PySem.W.hideAll B2 [ce.locals]).get? b with
    | none => rfl
    | some o => rw [PySem.W.of_hideAll _ q] at e; cases e
  have bC : (PySem.W.hideAll B2 [ce.locals]).get? ce.locals = none := PySem.W.hideAll_none _ (by simp)
  have kg : ∀ b o, B2.get? b = some o → b ≠ ce.locals → (PySem.W.hideAll B2 [ce.locals]).get? b = some o := fun b o e ne => PySem.W.hideAll_get _ e (by simpa using ne)
  have hfr : X.A.frames = some (X.env :: X.outer) := by rw [I3.ok.frames, hs]
  have flw : HandSPX.FlyingZ (PySem.W.hideAll B2 [ce.locals]) X.stack a (Zc cls2 d2) s'.heap :=
    ⟨fun b o e => fl2.1 b o (PySem.W.of_hideAll _ e), kn _ fl2.2.1, ff_weak kn fl2.2.2.1, tr_weak kn fl2.2.2.2⟩
  have ko : ∀ b o, (PySem.W.hideAll B2 [ce.locals]).get? b = some o → B2.get? b = some o := fun b o e => PySem.W.of_hideAll _ e
  generalize PySem.W.hideAll B2 [ce.locals] = B' at *
  rw [hs] at flw
  show wpAny _ X.A (noteFrame (.ref a) ce) _ _ s'
  rw [noteFrame_env _ cF]
  refine HandSPX.looks_onZ Zc.steady hfr hf flw fun h' hH up2 => ?_
  obtain ⟨m, hn, _⟩ := I.loc
  have hn : sI.heap.Ns ce.locals m := hn
  have hn2 : h'.Ns ce.locals m := (hn.upToSlots up).upToSlots up2
  refine ⟨m, hn2, fun h₂ m₂ hn₂ hs₂ => ?_⟩
  obtain ⟨b1, b0, f1, t1⟩ := hH
  have b2 : B'.StaysIn h₂ := fun b o hb => (hs₂.2 b fun q => by rw [q, bC] at hb; cases hb).trans (b1 b o hb)
  have f2 : h₂.FunFrames B' (X.env :: X.outer) := Heap.FunFrames.sameBut hs₂ hn₂ f1
  obtain ⟨oL, es, ep, hoL, hdL, _⟩ := hn2
  obtain ⟨oe, vs, T, oT, ts, he, hz, hd, h1, hnT, hTe, hT, hdT, h3⟩ := t1
  have ne1 : a ≠ ce.locals := fun q => by rw [q, hoL] at he; cases he; rw [hdL] at hd; cases hd
  have ne2 : T ≠ ce.locals := fun q => by rw [q, hoL] at hT; cases hT; rw [hdL] at hdT; cases hdT
  have he2 : h₂.get? a = some oe := (hs₂.2 a ne1).trans he
  have hT2 : h₂.get? T = some oT := (hs₂.2 T ne2).trans hT
  unfold PySem.passOn
  refine wpAny_bind (wpAny_field (s := { s' with heap := h₂ }) he2 hd h1 ?_)
  rw [if_neg (show ¬ ((Value.ref T == Value.none) = true) from by simp), cF, hf]
  refine wpAny_bind (HandSPX.setFlight_anyZ (s := { s' with heap := h₂ }) (fr := some X.env.locals) (Z := Zc cls2 d2) b2 f2 ⟨oe, vs, T, oT, ts, he2, hz, hd, h1, hnT, hTe, hT2, hdT, h3⟩ fun h₃ b3 f3' t3 up3 => ?_)
  refine wpAny_throw ?_
  have nC : H2 s3.heap.objs.size = none := by
    have z : H2 ce.locals = none := I.free
    rw [cL] at z
    exact z
  have I7 : Inv X pins σ H2 sI := I3.call' (ch := fp) I.os I.base I.hok I.bare fun b hb => ⟨(f3 b hb).1.2.2.2.1, (f3 b hb).1.2.1, (f3 b hb).1.2.2.2.2.1, (f3 b hb).1.2.2.2.2.2⟩
  obtain ⟨g0, g1, g2, g3, g4, g5⟩ := I3.fpOk (Nat.le_refl _) nC
  have I8 : Inv X pins σ H2 { sI with heap := PySem.W.hideAll sI.heap [ce.locals], toks := sI.toks } := I7.turned (it := s3.heap.objs.size) (fun b o ne e => PySem.W.hideAll_get _ e (by rw [cL]; simpa using ne)) g0 g1 g3 g4 g5
  refine tk _ _ ⟨a, B', _, pins, σ, H2, cls2, d2, rfl, I8, fun b o e hb => ?_, fun b o e hnf => ?_, .inr (.inr ⟨b3, b0, by rw [hs]; exact f3', t3⟩), na, os, ag, w⟩
  · have e1 := PySem.W.of_hideAll _ e
    have ne : b ≠ ce.locals := fun q => by
      have := PySem.W.hideAll_none [ce.locals] (h := sI.heap) (b := b) (by simp [q])
      rw [this] at e; cases e
    exact kg b o (nb b o e1 hb) ne
  · have e1 := PySem.W.of_hideAll _ e
    have ne : b ≠ ce.locals := fun q => by
      have := PySem.W.hideAll_none [ce.locals] (h := sI.heap) (b := b) (by simp [q])
      rw [this] at e; cases e
    obtain ⟨sl1, e2⟩ := up b o e1 hnf
    obtain ⟨sl2, e3⟩ := up2 b _ e2 hnf
    obtain ⟨sl3, e4⟩ := up3 b _ ((hs₂.2 b ne).trans e3) hnf
    exact ⟨sl3, e4⟩
end
section
variable {X : Cx}
/-- [elt for target in iter if ..], the element's callees may let exceptions of E out -/
theorem pe_lcX {elt tg iter : Expr} {ifs : List Expr} {scope : Scope} {own : List (Str × Nat)} {pos : Pos} {wi : TI} {g : TG} {tt : TT} {te : TE} {E : XK} (hc : X.calm = true) (hN : X.N.Nodup) (hi : PI X tg iter wi) (ok : BlkOk X.N X.env.scope scope own)
    (tk : Takes X (fun cls d _ H => E cls d H)) (hS : X.stack = X.env :: X.outer) (hf : X.env.frame = some X.env.locals)
    (hg : ∀ (s : Shared) (H : Hp) (C : Addr) (cl : List (Str × Addr)) (fp : List Addr), PG (X.blk s H scope (compEnvC scope cl C X.env) fp) tg g) (ht : ∀ (s : Shared) (H : Hp) (C : Addr) (cl : List (Str × Addr)) (fp : List Addr), PTs (X.blk s H scope (compEnvC scope cl C X.env) fp) ifs tt)
    (he : ∀ (s : Shared) (H : Hp) (C : Addr) (cl : List (Str × Addr)) (fp : List Addr), PE ((X.blk s H scope (compEnvC scope cl C X.env) fp).wish (XF X (X.blk s H scope (compEnvC scope cl C X.env) fp) E)) elt te) (hs : ∀ x, foldedSetIterable iter X.env x = pure x := by intro _; rfl) :
    PE X (.ListComp elt [⟨tg, iter, ifs, 0⟩] scope pos) (tLc wi g tt te (own.map (·.2))) := by
  refine ⟨fun pins s σ H Q I h => ?_⟩
  rw [eval_ListComp]
  have hfree : ∀ y ∈ scope.names, y.2 = .free → ∃ c, X.env.cells.lookup y.1 = some c := fun y hy e => (ok.free y hy e).elim (fun k => I.ok.has _ (.inl k)) fun k => I.ok.has _ (.inr k)
  refine comprehension_at (use := none) rfl hs (closure_ok hfree) ok.kind (fun y hy e => by rw [ok.uniq y hy, e]) (thn (hi.run pins s σ H _ I h) fun xv s1 hx => thn hx fun itv s2 h2 => ?_)
  obtain ⟨it, fp, tn, J, H2, rfl, I2, T, st2, f2, q⟩ := h2
  refine wpAny_newObj_type (newEnv_comp ?_) (by show 0 ≤ sizeLine; decide)
  have hDn : H2 s2.heap.objs.size = none := I2.hok.fresh (Nat.le_refl _)
  obtain ⟨W, ⟨m0, w0⟩, turn⟩ := q s2.heap.objs.size hDn
  generalize hD : s2.heap.objs.size = D at *
  generalize hs3 : ({ s2 with heap := s2.heap.push { cls := .type "list", data := .seq ([] : List Value).toArray } } : Shared) = s3
  have h3 : s3.heap = s2.heap.push { cls := .type "list", data := .seq ([] : List Value).toArray } := by rw [← hs3]
  have oldk : ∀ b o, s2.heap.get? b = some o → s3.heap.get? b = some o := fun b o e => by rw [h3]; exact Heap.get?_push_of_some _ e
  have I3 : Inv X pins σ (upd H2 D (.lst [])) s3 := by
    rw [← hs3]
    refine I2.laid (t' := s2.toks) (fun b o e => Heap.get?_push_of_some _ e) (Nat.le_of_eq hD) ⟨Nat.zero_le _, [], 0, .nil, ?_⟩
    rw [← hD]
    exact Heap.get?_push_size _ rfl
  have sz : ∀ b ∈ fp, b < s2.heap.objs.size := fun b hb => by
    obtain ⟨o, e, _⟩ := T.obj _ _ st2 b hb
    exact Heap.lt_size e
  generalize hH3 : upd H2 D (.lst []) = H3 at I3 w0
  have f3 : ∀ b ∈ fp, FpOk X pins H3 b ∧ b < s3.heap.objs.size := fun b hb => by
    have lt := sz b hb
    refine ⟨⟨?_, (f2 b hb).2⟩, by rw [h3, Heap.size_push]; exact Nat.lt_succ_of_lt lt⟩
    rw [← hH3, upd_ne (by rw [← hD]; exact Nat.ne_of_lt lt)]
    exact (f2 b hb).1
  have st3 : tn 0 s3.heap := T.keep _ _ _ st2 fun b _ o e => oldk b o e
  have I4 := block_start I3 ok hN f3
  have pg := hg s3 H3 s3.heap.objs.size (cellsFrom (s3.heap.objs.size + 1) scope.names (cloFrom X.env.cells scope.names [])) fp
  have pt := ht s3 H3 s3.heap.objs.size (cellsFrom (s3.heap.objs.size + 1) scope.names (cloFrom X.env.cells scope.names [])) fp
  have pe := he s3 H3 s3.heap.objs.size (cellsFrom (s3.heap.objs.size + 1) scope.names (cloFrom X.env.cells scope.names [])) fp
  show codeAny _ _ (.compStart (.ListComp elt [⟨tg, iter, ifs, 0⟩] scope pos) 0 (.ref it) (.ref D) (compEnvC scope (cellsFrom (s3.heap.objs.size + 1) scope.names (cloFrom X.env.cells scope.names [])) s3.heap.objs.size X.env)) (compEnds (model X.prog X.w) X.A X.xe none (EP X pins σ Q) (.ref D) (compEnvC scope (cellsFrom (s3.heap.objs.size + 1) scope.names (cloFrom X.env.cells scope.names [])) s3.heap.objs.size X.env)) { s3 with heap := pushCells (s3.heap.push { cls := .type "dict", data := .dict #[] }) scope.names }
  have nfp : ∀ b ∈ fp, H3 b = none := fun b hb => (f3 b hb).1.1
  generalize hce : compEnvC scope (cellsFrom (s3.heap.objs.size + 1) scope.names (cloFrom X.env.cells scope.names [])) s3.heap.objs.size X.env = ce at I4 pg pt pe ⊢
  have cL : ce.locals = s3.heap.objs.size := by subst hce; rfl
  have cF : ce.frame = X.env.frame := by subst hce; rfl
  generalize hs4 : ({ s3 with heap := pushCells (s3.heap.push { cls := .type "dict", data := .dict #[] }) scope.names } : Shared) = s4 at I4 ⊢
  have st4 : tn 0 s4.heap := T.keep _ _ _ st3 fun b _ o e => by rw [← hs4]; exact pushCells_keeps _ _ _ _ (Heap.get?_push_of_some _ e)
  have stat : ∀ {σ' : L2.St} {H' : Hp} {s' : Shared}, Inv (X.blk s3 H3 scope ce fp) [] σ' H' s' → (∀ b ∈ fp, H' b = none) → ∀ b ∈ fp, FpOk (X.blk s3 H3 scope ce fp) [] H' b := fun {σ' H' s'} I' hn b hb =>
    ⟨hn b hb, (I'.ok.exf b hb).1, I'.ok.exfs b hb, .inl hb, fun x c e => (I'.ok.exf b hb).2 x c e, fun p hp => absurd (show p ∈ ([] : List (Addr × Obj)) ++ [] from hp) (by simp)⟩
  have loop : codeAny (model X.prog X.w) X.A (.compLoop (.ListComp elt [⟨tg, iter, ifs, 0⟩] scope pos) 0 (.ref it) (.ref D) ce) (compEnds (model X.prog X.w) X.A X.xe none (EP X pins σ Q) (.ref D) ce) s4 := by
    refine compLoop_any (fun n s' => ∃ i H', Inv (X.blk s3 H3 scope ce fp) [] (wipe σ (own.map (·.2))) H' s' ∧ tn i s'.heap ∧ (∀ b ∈ fp, H' b = none) ∧ W i n H') ?_ m0 ⟨0, H3, I4, st4, nfp, w0⟩
    rintro n s5 ⟨i, H5, I5, st5, n5, w5⟩
    rcases turn i n H5 w5 with ⟨stop, qq⟩ | ⟨go, Nx, hNx, step⟩
    · refine thnF (T.done (X.blk s3 H3 scope ce fp) rfl rfl rfl hc i [] s5 _ H5 (fun _ _ => False) I5 (stat I5 n5) st5 stop) fun r s6 ⟨hr, I6⟩ => ?_
      subst hr
      have I7 : Inv X pins σ H5 s6 := I3.call' (ch := fp) I6.os I6.base I6.hok I6.bare fun b hb => ⟨(f3 b hb).1.2.2.2.1, (f3 b hb).1.2.1, (f3 b hb).1.2.2.2.2.1, (f3 b hb).1.2.2.2.2.2⟩
      have nC : H5 s3.heap.objs.size = none := by
        have z : H5 ce.locals = none := I6.free
        rw [cL] at z
        exact z
      obtain ⟨m, hn, _⟩ := I6.loc
      have hn : s6.heap.Ns ce.locals m := hn
      obtain ⟨f0, f1, f2, f3, f4, f5⟩ := I3.fpOk (Nat.le_refl _) nC
      exact ⟨m, hn, fun h'' sb => ⟨.ref D, H5, I7.turned (t' := s6.toks) (fun b o hb e => (sb.2 b (by rw [cL]; exact hb)).trans e) f0 f1 f3 f4 f5, rfl, qq⟩⟩
    · refine thnF (T.item (X.blk s3 H3 scope ce fp) rfl rfl rfl hc i [] s5 _ H5 (fun _ _ => False) I5 (stat I5 n5) st5 go) fun r s6 ⟨u, hr, h6⟩ => ?_
      subst hr
      refine thnF h6 fun _ s7 ⟨x, H7, I7, r7, y7, st7, n7⟩ => ?_
      have I7' := I7.pinned (stat I7 n7) (T.obj _ _ st7)
      refine thnF (pg.run _ s7 _ H7 x u _ I7' r7 (step x H7 y7)) fun _ s8 ⟨σ8, H8, I8, hw8, q8⟩ => ?_
      refine thnF (pt.run _ s8 σ8 H8 _ I8 q8) fun b s9 ⟨H9, I9, q9⟩ => ?_
      have fin : ∀ {s' : Shared} {H' : Hp}, Inv (X.blk s3 H3 scope ce fp) ([] ++ pinsAt fp s7.heap) σ8 H' s' → Nx H' → ∃ m, m < n ∧ ∃ i H', Inv (X.blk s3 H3 scope ce fp) [] (wipe σ (own.map (·.2))) H' s' ∧ tn i s'.heap ∧ (∀ b ∈ fp, H' b = none) ∧ W i m H' := fun {s' H'} I' nx => by
        obtain ⟨m', hm, w'⟩ := hNx H' nx
        have pin' : ∀ b ∈ fp, ∀ o, s7.heap.get? b = some o → s'.heap.get? b = some o ∧ H' b = none := fun b hb o e =>
          let z := I'.pin (b, o) (List.mem_append_right _ (List.mem_append_right _ (mem_pinsAt hb e)))
          ⟨z.1, z.2.1⟩
        refine ⟨m', hm, i + 1, H', (I'.unpinned (pins := [])).weak (by rw [← hw8, wipe_length]) (fun j v e => ?_), T.keep _ _ _ st7 fun b hb o e => (pin' b hb o e).1, fun b hb => ?_, w'⟩
        · rw [← hw8] at e
          exact (wipe_some e).1
        · obtain ⟨o, e, _⟩ := T.obj _ _ st7 b hb
          exact (pin' b hb o e).2
      cases b with
      | false =>
        simp only [Bool.false_eq_true, if_false] at q9 ⊢
        exact fin I9 q9
      | true =>
        simp only [if_true] at q9 ⊢
        refine wpAny_mono (pe.run _ s9 σ8 H9 _ (I9.wish _) q9) (fun z s10 hz => ?_) fun e s' x => blk_fails I3 f3 tk hS hf cL cF x
        obtain ⟨yv, H10, I10, r10, acc, hD10, hz10, nx⟩ := hz
        exact app_ok (X := X.blk s3 H3 scope ce fp) I10.unwish hD10 hz10 r10 fun s11 I11 => fin I11 nx
  exact codeAny_compStart_list loop (T.self X.A 0 _ _ _ st4 loop)
/-- what an element's callee lets out -/
theorem passB {s : Shared} {H : Hp} {scope : Scope} {ce : Env} {fp : List Addr} {E : XK} : Passes (CX X.prog X.w) ((X.blk s H scope ce fp).wish (XF X (X.blk s H scope ce fp) E)) E := fun pins σ H' s' _ _ I c => ⟨pins, σ, H', s', I.unwish, c⟩
end
end LX
namespace G
open PySem PySem.Spec PyProof.Rows L2
section
variable {X : Cx}
/-- a short text, so many times -/
theorem op_mulS : OpR X (binaryOp .Mult) (fun x y H Q => ∃ (a : Str) (n : Nat), x = .str a ∧ y = .int n ∧ a.length ≤ 16 ∧ n ≤ 1000000 ∧ Q (.str (Txt.mul a n)) H) := by
  intro pins s σ H x y v u Q I rx ry h
  obtain ⟨a, n, rfl, rfl, h1, h2, q⟩ := h
  obtain ⟨t, rfl⟩ := rx
  obtain ⟨t', rfl⟩ := ry
  exact SB.mul (mulOk_of 16 1048576 (by omega) (by omega) (by omega) (by decide) (by decide)) fun t' k => ⟨.str (Txt.mul a n), H, I.tok _, ⟨_, rfl⟩, q⟩
end
end G
namespace G
open PySem PySem.Spec PyProof.Rows L2 Evl
theorem tYes_in {σ : L2.St} {H : Hp} {A B : Hp → Prop} (h : A H) : tYes σ H (fun b H3 => if b = true then A H3 else B H3) := by
  show if true = true then A H else B H
  exact iteT h
def tabV (bs : List Bool) : HO := .tup (bs.map V.bl)
theorem inV_ints {k : Int} {l : List Int} : inV (.int k) (l.map V.int) = l.contains k := by
  unfold inV
  rw [List.any_map, List.contains_eq_any_beq]
  congr 1
  funext y
  show (y == k) = (k == y)
  rw [Bool.eq_iff_iff]; simp; exact eq_comm
theorem inV_bls {k : Bool} {l : List Bool} : inV (.bl k) (l.map V.bl) = l.contains k := by
  unfold inV
  rw [List.any_map, List.contains_eq_any_beq]
  congr 1
  funext y
  show (y == k) = (k == y)
  cases y <;> cases k <;> rfl
theorem flat_map {α : Type} {f : α → V} (h : ∀ x, flatV (f x) = true) (l : List α) : (l.map f).all flatV = true := by
  rw [List.all_map]
  exact List.all_eq_true.mpr fun x _ => h x
theorem tif_by {tt : TE} {σ : L2.St} {H : Hp} {Q : VK} (R : V → Hp → Prop) (h : ∀ Q' : VK, (∀ v H', R v H' → Q' v H') → tt σ H Q') (rest : ∀ v H', R v H' → Q v H') : tt σ H Q := h Q rest
theorem bl_eq (a b : Bool) : decide (V.bl a = V.bl b) = decide (a = b) := by cases a <;> cases b <;> rfl
end G
namespace G
open PySem PySem.Spec PyProof.Rows L2 Evl
/-! ## two lists side by side -/
def All2 {α β : Type} (R : α → β → Prop) (as : List α) (bs : List β) : Prop := as.length = bs.length ∧ ∀ (i : Nat) (a : α) (b : β), as[i]? = some a → bs[i]? = some b → R a b
theorem All2.nil {α β : Type} {R : α → β → Prop} : All2 R [] [] := ⟨rfl, fun _ _ _ h => nomatch h⟩
theorem All2.imp {α β : Type} {R S : α → β → Prop} {as : List α} {bs : List β} (h : All2 R as bs) (f : ∀ a b, R a b → S a b) : All2 S as bs := ⟨h.1, fun i a b h1 h2 => f _ _ (h.2 i a b h1 h2)⟩
theorem All2.snoc {α β : Type} {R : α → β → Prop} {as : List α} {bs : List β} {a : α} {b : β} (h : All2 R as bs) (r : R a b) : All2 R (as ++ [a]) (bs ++ [b]) := by
  refine ⟨by rw [List.length_append, List.length_append, h.1]; rfl, fun i x y h1 h2 => ?_⟩
  by_cases hi : i < as.length
  · rw [List.getElem?_append_left hi] at h1
    rw [List.getElem?_append_left (h.1 ▸ hi)] at h2
    exact h.2 i x y h1 h2
  · rw [List.getElem?_append_right (by omega)] at h1
    rw [List.getElem?_append_right (by rw [← h.1]; omega), ← h.1] at h2
    cases e : i - as.length with
    | zero =>
      rw [e] at h1 h2
      cases h1; cases h2; exact r
    | succ n => rw [e] at h1; exact nomatch h1
theorem All2.at_ {α β : Type} {R : α → β → Prop} {as : List α} {bs : List β} (h : All2 R as bs) {i : Nat} {a : α} (e : as[i]? = some a) : ∃ b, bs[i]? = some b ∧ R a b := by
  have hi : i < bs.length := by rw [← h.1]; exact (List.getElem?_eq_some_iff.mp e).1
  exact ⟨bs[i], List.getElem?_eq_getElem hi, h.2 i a _ e (List.getElem?_eq_getElem hi)⟩
theorem All2.of {α β : Type} {R : α → β → Prop} {as : List α} {bs : List β} (h : All2 R as bs) {i : Nat} {b : β} (e : bs[i]? = some b) : ∃ a, as[i]? = some a ∧ R a b := by
  have hi : i < as.length := by rw [h.1]; exact (List.getElem?_eq_some_iff.mp e).1
  exact ⟨as[i], List.getElem?_eq_getElem hi, h.2 i _ b (List.getElem?_eq_getElem hi) e⟩
theorem All2.cons {α β : Type} {R : α → β → Prop} {as : List α} {bs : List β} {a : α} {b : β} (r : R a b) (h : All2 R as bs) : All2 R (a :: as) (b :: bs) := by
  refine ⟨by rw [List.length_cons, List.length_cons, h.1], fun i x y h1 h2 => ?_⟩
  cases i with
  | zero => cases h1; cases h2; exact r
  | succ i => exact h.2 i x y h1 h2
theorem take_snoc1 {α : Type} {l : List α} {j : Nat} {x : α} (h : l[j]? = some x) : l.take (j + 1) = l.take j ++ [x] := by rw [List.take_add_one, h]; rfl
theorem refs_get {as : List Addr} {k : Nat} {x : V} (hx : (as.map V.ref)[k]? = some x) : ∃ a, as[k]? = some a ∧ x = .ref a := by
  rw [List.getElem?_map] at hx
  cases e : as[k]? with
  | none => rw [e] at hx; cases hx
  | some a => rw [e] at hx; cases hx; exact ⟨a, rfl, rfl⟩
/-! ## walks: any body -/
theorem wk_list {K : PySem.W.Frag} {a : Addr} {xs : List V} {body : (Hp → Prop) → V → Hp → Prop} {H0 : Hp} {Qd : Hp → Prop} (Pv : Nat → Hp → Prop) (h0 : Pv 0 H0) (hl : ∀ i H, i ≤ xs.length → Pv i H → SqL K H a xs)
    (hs : ∀ i x H, xs[i]? = some x → Pv i H → body (Pv (i + 1)) x H) (hd : ∀ H, Pv xs.length H → Qd H) :
    ∃ W : Nat → Nat → Hp → Prop, (∃ m, W 0 m H0) ∧ ∀ i m H, W i m H → ((Itl K a).stop i H ∧ Qd H) ∨ ((Itl K a).go i H ∧ ∃ Nx : Hp → Prop, (∀ H', Nx H' → ∃ m', m' < m ∧ W (i + 1) m' H') ∧ ∀ x H', (Itl K a).yld i H x H' → body Nx x H') := by
  refine ⟨fun i m H => m = xs.length - i ∧ i ≤ xs.length ∧ Pv i H, ⟨xs.length, by simp, Nat.zero_le _, h0⟩, ?_⟩
  rintro i m H ⟨rfl, hi, p⟩
  have q := hl i H hi p
  rcases Nat.lt_or_ge i xs.length with lt | ge
  · have e : xs[i]? = some xs[i] := List.getElem?_eq_getElem lt
    refine .inr ⟨⟨xs, xs[i], q, e⟩, Pv (i + 1), fun H' p' => ⟨xs.length - (i + 1), by omega, rfl, lt, p'⟩, fun x H' y => ?_⟩
    obtain ⟨rfl, y⟩ := y
    exact hs i x _ (y xs q) p
  · have e : i = xs.length := by omega
    subst e
    exact .inl ⟨⟨xs, q, Nat.le_refl _⟩, hd H p⟩
theorem wk_tup {K : PySem.W.Frag} {a : Addr} {xs : List V} {body : (Hp → Prop) → V → Hp → Prop} {H0 : Hp} {Qd : Hp → Prop} (Pv : Nat → Hp → Prop) (h0 : Pv 0 H0) (hl : ∀ i H, i ≤ xs.length → Pv i H → SqT K H a xs)
    (hs : ∀ i x H, xs[i]? = some x → Pv i H → body (Pv (i + 1)) x H) (hd : ∀ H, Pv xs.length H → Qd H) :
    ∃ W : Nat → Nat → Hp → Prop, (∃ m, W 0 m H0) ∧ ∀ i m H, W i m H → ((Itt K a).stop i H ∧ Qd H) ∨ ((Itt K a).go i H ∧ ∃ Nx : Hp → Prop, (∀ H', Nx H' → ∃ m', m' < m ∧ W (i + 1) m' H') ∧ ∀ x H', (Itt K a).yld i H x H' → body Nx x H') := by
  refine ⟨fun i m H => m = xs.length - i ∧ i ≤ xs.length ∧ Pv i H, ⟨xs.length, by simp, Nat.zero_le _, h0⟩, ?_⟩
  rintro i m H ⟨rfl, hi, p⟩
  have q := hl i H hi p
  rcases Nat.lt_or_ge i xs.length with lt | ge
  · have e : xs[i]? = some xs[i] := List.getElem?_eq_getElem lt
    refine .inr ⟨⟨xs, xs[i], q, e⟩, Pv (i + 1), fun H' p' => ⟨xs.length - (i + 1), by omega, rfl, lt, p'⟩, fun x H' y => ?_⟩
    obtain ⟨rfl, y⟩ := y
    exact hs i x _ (y xs q) p
  · have e : i = xs.length := by omega
    subst e
    exact .inl ⟨⟨xs, q, Nat.le_refl _⟩, hd H p⟩
theorem wk_it {J : It} {n : Nat} {Gd : Hp → Prop} {Y : Nat → Hp → V → Hp → Prop} (w : Walk J n Gd Y) {body : (Hp → Prop) → V → Hp → Prop} {H0 : Hp} {Qd : Hp → Prop} (Pv : Nat → Hp → Prop) (h0 : Pv 0 H0) (hG : ∀ i H, i ≤ n → Pv i H → Gd H)
    (hs : ∀ i x H H', i < n → Pv i H → Y i H x H' → body (Pv (i + 1)) x H') (hd : ∀ H, Pv n H → Qd H) :
    ∃ W : Nat → Nat → Hp → Prop, (∃ m, W 0 m H0) ∧ ∀ i m H, W i m H → (J.stop i H ∧ Qd H) ∨ (J.go i H ∧ ∃ Nx : Hp → Prop, (∀ H', Nx H' → ∃ m', m' < m ∧ W (i + 1) m' H') ∧ ∀ x H', J.yld i H x H' → body Nx x H') := by
  refine ⟨fun i m H => m = n - i ∧ i ≤ n ∧ Pv i H, ⟨n, by simp, Nat.zero_le _, h0⟩, ?_⟩
  rintro i m H ⟨rfl, hi, p⟩
  rcases Nat.lt_or_ge i n with lt | ge
  · exact .inr ⟨w.goes i H lt (hG i H hi p), Pv (i + 1), fun H' p' => ⟨n - (i + 1), by omega, rfl, lt, p'⟩, fun x H' y => hs i x H H' lt p (w.yields i H x H' lt (hG i H hi p) y)⟩
  · have e : i = n := by omega
    subst e
    exact .inl ⟨w.stops H (hG i H hi p), hd H p⟩
/-! ## tuples joined and cut, whatever object that is -/
theorem cat_tup {K : PySem.W.Frag} {H : Hp} {a b : Addr} {xs ys : List V} {Q : VK} (ha : H a = some (.tup xs)) (hb : H b = some (.tup ys)) (hl : xs.length + ys.length ≤ sizeLine) (q : ∀ c H', Ex H H' → H' c = some (.tup (xs ++ ys)) → Q (.ref c) H') : rCatA K (.ref a) (.ref b) H Q := by
  refine ⟨a, b, xs, ys, rfl, rfl, SqT.of ha, SqT.of hb, hl, fun e => ?_, fun _ e => ?_, fun _ _ p np => ?_⟩
  · subst e; exact q b H (Ex.refl _) hb
  · subst e; exact q a H (Ex.refl _) (by rw [List.append_nil]; exact ha)
  · exact q p _ (Ex.new np) upd_same
theorem cut_tup {K : PySem.W.Frag} {H : Hp} {a : Addr} {xs : List V} {lo hi : Option Int} {Q : VK} (ha : H a = some (.tup xs)) (q : ∀ c H', Ex H H' → H' c = some (.tup (cutV xs lo hi)) → Q (.ref c) H') : rSlA K (.ref a) lo hi H Q := by
  refine ⟨a, xs, rfl, SqT.of ha, fun e => ?_, fun _ p np => q p _ (Ex.new np) upd_same⟩
  refine q a H (Ex.refl _) ?_
  rw [ha]
  unfold cutV
  rw [e.1, e.2, List.drop_zero, Nat.sub_zero, List.take_length]
theorem cutV_head {xs : List V} {k : Nat} (h : k ≤ xs.length) : cutV xs none (some (k : Int)) = xs.take k := by
  unfold cutV
  rw [HT.sIx_none, HT.sIx_nat, List.drop_zero, Nat.sub_zero, Nat.min_eq_left h]
theorem cutV_tail {xs : List V} {k : Nat} (h : k ≤ xs.length) : cutV xs (some (k : Int)) none = xs.drop k := by
  unfold cutV
  rw [HT.sIx_none, HT.sIx_nat, Nat.min_eq_left h, List.take_of_length_le]
  rw [List.length_drop]; exact Nat.le_refl _
end G
/-! ## texts -/
namespace G
open PySem PySem.Spec PyProof.Rows L2 Evl TL
open PySem.StrLaws (At occBody occ_eq occ_first)
open PySem.Builtin.Str (occurrences)
/-- the text of these signs -/
def mk (l : List Nat) : Str := ⟨l.toArray⟩
theorem tl_mkS (l : List Nat) : tl (mk l) = l := rfl
theorem mk_tlS (x : Str) : mk (tl x) = x := mk_tl x
theorem mk_inj {a b : List Nat} : mk a = mk b ↔ a = b := ⟨fun h => by have := congrArg tl h; exact this, fun h => by rw [h]⟩
theorem mk_app (a b : List Nat) : mk a ++ mk b = mk (a ++ b) := ext_tl (by rw [tl_append, tl_mkS, tl_mkS, tl_mkS])
theorem mk_len (a : List Nat) : (mk a).length = a.length := by rw [len_tl, tl_mkS]
theorem mk_one (c : Nat) : (⟨#[c]⟩ : Str) = mk [c] := rfl
theorem decV_str (a b : Str) : decide (V.str a = V.str b) = decide (a = b) := by
  by_cases h : a = b
  · rw [h, decide_eq_true rfl, decide_eq_true rfl]
  · rw [decide_eq_false h, decide_eq_false fun q => h (V.str.inj q)]
theorem decV_mk (a b : List Nat) : decide (V.str (mk a) = V.str (mk b)) = decide (a = b) := by
  rw [decV_str]
  by_cases h : a = b
  · rw [h, decide_eq_true rfl, decide_eq_true rfl]
  · rw [decide_eq_false h, decide_eq_false fun q => h (mk_inj.mp q)]
theorem occ_from (x y : Str) (lo : Nat) : (occurrences x y lo x.length 1 = [] ∧ ∀ k, lo ≤ k → ¬ At x y x.length k) ∨ ∃ k r, occurrences x y lo x.length 1 = k :: r ∧ lo ≤ k ∧ At x y x.length k ∧ ∀ j, lo ≤ j → j < k → ¬ At x y x.length j := by
  rw [occ_eq]
  have hmem : ∀ k, At x y x.length k → lo ≤ k → k ∈ List.range' lo (x.length + 1 - lo) := fun k hk hl => by
    have := hk.1
    simp [List.mem_range'_1]; omega
  rcases occ_first x y x.length 1 (by decide) (List.range' lo (x.length + 1 - lo)) lo (fun i hi => by simp [List.mem_range'_1] at hi; omega) with ⟨h0, hn⟩ | ⟨pr, a, post, e, h0, ha, hn⟩
  · exact .inl ⟨by rw [h0], fun k hl hk => hn k (hmem k hk hl) hk⟩
  · have hal : lo ≤ a := by
      have : a ∈ List.range' lo (x.length + 1 - lo) := by rw [e]; simp
      simp [List.mem_range'_1] at this; omega
    refine .inr ⟨a, ((forIn (List.range' lo (x.length + 1 - lo)) ((#[] : Array Nat), lo) (occBody x y x.length 1)).run.fst.toList).tail, ?_, hal, ha, fun j hl hj hA => ?_⟩
    · generalize (forIn (List.range' lo (x.length + 1 - lo)) ((#[] : Array Nat), lo) (occBody x y x.length 1)).run.fst = arr at h0
      have h1 : arr.toList[0]? = some a := by simpa using h0
      cases hL : arr.toList with
      | nil => rw [hL] at h1; cases h1
      | cons b t => rw [hL] at h1; simp at h1; rw [h1]; rfl
    · have hm := hmem j hA hl
      rw [e] at hm
      have hs : (pr ++ a :: post).Pairwise (· < ·) := by rw [← e]; exact List.pairwise_lt_range'
      rcases List.mem_append.mp hm with z | z
      · exact hn j z hA
      · rcases List.mem_cons.mp z with z | z
        · omega
        · have := (List.pairwise_cons.mp (List.pairwise_append.mp hs).2.1).1 j z
          omega
theorem at_one {x : Str} {c k : Nat} : At x (mk [c]) x.length k ↔ (tl x)[k]? = some c := by
  rw [at_iff (by rw [tl_mkS]; simp), tl_mkS]
  unfold pre
  show (((tl x).drop k).take 1 == [c]) = true ↔ _
  rw [beq_iff_eq]
  have h0 : (tl x)[k]? = ((tl x).drop k)[0]? := by rw [List.getElem?_drop, Nat.add_zero]
  rw [h0]
  cases (tl x).drop k with
  | nil => simp
  | cons d r => simp
theorem find_hit {x : Str} {c i : Nat} {body rest : List Nat} (h : (tl x).drop i = body ++ c :: rest) (hb : c ∉ body) : Txt.find3 x (mk [c]) (i : Int) = ((i + body.length : Nat) : Int) := by
  unfold Txt.find3
  rw [show PySem.fromIndex x.length (i : Int) = i by unfold PySem.fromIndex; rw [if_neg (by omega)]; omega]
  have hat : ∀ j, (tl x)[i + j]? = (body ++ c :: rest)[j]? := fun j => by rw [← h, List.getElem?_drop]
  have hhit : At x (mk [c]) x.length (i + body.length) := at_one.mpr (by rw [hat, List.getElem?_append_right (Nat.le_refl _), Nat.sub_self]; rfl)
  rcases occ_from x (mk [c]) i with ⟨_, hn⟩ | ⟨k, r, e, hl, hA, hn⟩
  · exact absurd hhit (hn _ (by omega))
  · rw [e]
    show ((k : Nat) : Int) = _
    have h1 : ¬ i + body.length < k := fun q => hn _ (by omega) q hhit
    have h2 : ¬ k < i + body.length := fun q => by
      have := at_one.mp hA
      obtain ⟨j, rfl⟩ : ∃ j, k = i + j := ⟨k - i, by omega⟩
      rw [hat, List.getElem?_append_left (by omega)] at this
      exact hb (List.mem_of_getElem? this)
    omega
theorem find_miss {x : Str} {c i : Nat} (h : c ∉ (tl x).drop i) : Txt.find3 x (mk [c]) (i : Int) = -1 := by
  unfold Txt.find3
  rw [show PySem.fromIndex x.length (i : Int) = i by unfold PySem.fromIndex; rw [if_neg (by omega)]; omega]
  rcases occ_from x (mk [c]) i with ⟨e, _⟩ | ⟨k, r, e, hl, hA, hn⟩
  · rw [e]
  · have := at_one.mp hA
    obtain ⟨j, rfl⟩ : ∃ j, k = i + j := ⟨k - i, by omega⟩
    rw [← List.getElem?_drop] at this
    exact absurd (List.mem_of_getElem? this) h
theorem starts_at {x y : Str} {i : Nat} (hy : tl y ≠ []) : Txt.startswith3 x y (i : Int) = pre (tl y) ((tl x).drop i) := by
  unfold Txt.startswith3
  rw [show PySem.fromIndex x.length (i : Int) = i by unfold PySem.fromIndex; rw [if_neg (by omega)]; omega]
  have h := at_iff (x := x) hy i
  unfold At at h
  rw [Bool.eq_iff_iff, Bool.and_eq_true, decide_eq_true_iff]
  exact h
theorem pre_iff {S L : List Nat} : pre S L = true ↔ ∃ r, L = S ++ r := by
  unfold pre
  rw [beq_iff_eq]
  constructor
  · intro h; exact ⟨L.drop S.length, by conv => lhs; rw [← List.take_append_drop S.length L, h]⟩
  · rintro ⟨r, rfl⟩; exact List.take_left' rfl
/-- the signs of x from i to j -/
theorem cut_nat {x : Str} {i j : Nat} (hi : i ≤ j) (hj : j ≤ x.length) : cutS x (some (i : Int)) (some (j : Int)) = mk (((tl x).drop i).take (j - i)) := by
  unfold cutS
  have e1 : HT.sIx x.length 0 (some (i : Int)) = i := by rw [HT.sIx_nat]; omega
  have e2 : HT.sIx x.length x.length (some (j : Int)) = j := by rw [HT.sIx_nat]; omega
  rw [e1, e2]; rfl
section
variable {tt : TT} {te : TE} {vs : List Nat} {σ : L2.St} {H1 : Hp} {D : Addr} {Qd : Hp → Prop} {j : Nat}
theorem lcSm {z : Str} (g : Nat → V) (hn : z.length ≤ 100000) (hw : ∀ x, wipe ((wipe σ vs).set j (some x)) vs = wipe σ vs)
    (he : ∀ (i c : Nat) (H : Hp), (tl z)[i]? = some c → H = upd H1 D (.lst (((tl z).take i).map g)) → Val te ((wipe σ vs).set j (some (.str (mk [c])))) H (g c)) (q : Qd (upd H1 D (.lst ((tl z).map g)))) :
    ∃ W : Nat → Nat → Hp → Prop, (∃ m, W 0 m (upd H1 D (.lst []))) ∧ ∀ i m H, W i m H →
      ((Its z).stop i H ∧ Qd H) ∨ ((Its z).go i H ∧ ∃ Nx : Hp → Prop, (∀ H', Nx H' → ∃ m', m' < m ∧ W (i + 1) m' H') ∧ ∀ x H', (Its z).yld i H x H' → gName j x (wipe σ vs) H' fun σ2 H2 => wipe σ2 vs = wipe σ vs ∧ tYes σ2 H2 fun b H3 =>
        if b = true then te σ2 H3 fun y H4 => ∃ acc, H4 D = some (.lst acc) ∧ acc.length < sizeLine ∧ Nx (upd H4 D (.lst (acc ++ [y]))) else Nx H3) :=
  lc_it walk_str (fun i H => H = upd H1 D (.lst (((tl z).take i).map g))) (by rw [List.take_zero]; rfl) (fun _ _ _ _ => trivial)
    (fun i x H H' hi e y => by
      obtain ⟨rfl, c, hc, rfl⟩ := y
      have hc' : (tl z)[i]? = some c := by rw [← hc]; simp [tl]
      refine ⟨hw _, ?_⟩
      refine iteT (B := H' = upd H1 D (.lst (((tl z).take (i + 1)).map g))) ?_
      refine he i c H' hc' e _ ?_
      subst e
      refine ⟨_, upd_same, sz_lt ?_, ?_⟩
      · rw [List.length_map, List.length_take]; have := (List.getElem?_eq_some_iff.mp hc').1; rw [len_tl] at hn; omega
      · rw [upd_upd, List.take_add_one, hc', List.map_append]; rfl)
    (fun H e => by
      have en : z.cps.size = (tl z).length := by simp [tl]
      rw [e, en, List.take_length]; exact q)
end
end G
namespace G
open PySem PySem.Spec PyProof.Rows L2 Evl TL
/-! ## records: the mathematics -/
/-- the signs of a whole number -/
def intL (i : Int) : List Nat := if i < 0 then 45 :: numL (-i).toNat else numL i.toNat
theorem tl_int (i : Int) : tl (Str.ofString (toString i)) = intL i := by
  unfold intL
  by_cases h : i < 0
  · rw [if_pos h, tl_ofString, toString_neg h, String.toList_append, List.map_append]
    have e : (0 : Int) - i = (((-i).toNat : Nat) : Int) := by omega
    have := tl_num (-i).toNat
    rw [tl_ofString] at this
    rw [e, this]
    rfl
  · rw [if_neg h]
    have := tl_num i.toNat
    rw [show ((i.toNat : Nat) : Int) = i by omega] at this
    exact this
theorem str_int (i : Int) : Str.ofString (toString i) = mk (intL i) := ext_tl (by rw [tl_int, tl_mkS])
theorem intL_nat (n : Nat) : intL (n : Int) = numL n := by
  unfold intL
  rw [if_neg (by omega), Int.toNat_natCast]
theorem intL_free {i : Int} {s : Nat} (h : s < 45 ∨ 57 < s) : s ∉ intL i := fun hm => by
  unfold intL at hm
  by_cases z : i < 0
  · rw [if_pos z] at hm
    rcases List.mem_cons.mp hm with e | e
    · omega
    · exact numL_free (by omega) e
  · rw [if_neg z] at hm
    exact numL_free (by omega) hm
/-- few digits -/
def Few (i : Int) : Prop := i.natAbs < 10 ^ 60
theorem few_len {i : Int} (h : Few i) : (intL i).length ≤ 61 := by
  unfold intL Few at *
  by_cases z : i < 0
  · rw [if_pos z]
    have := numL_len (n := (-i).toNat) (k := 60) (by decide) (by rw [show (-i).toNat = i.natAbs by omega]; exact h)
    show _ + 1 ≤ 61
    omega
  · rw [if_neg z]
    have := numL_len (n := i.toNat) (k := 60) (by decide) (by rw [show i.toNat = i.natAbs by omega]; exact h)
    omega
theorem few_digits {i : Int} (h : Few i) : (numL i.natAbs).length ≤ 60 := numL_len (by decide) h
theorem int_back {i : Int} (h : Few i) : PySem.intText? (mk (intL i)) = some i := by
  have hd := few_digits h
  unfold intL
  by_cases z : i < 0
  · rw [if_pos z]
    have e : (-i).toNat = i.natAbs := by omega
    rw [e]
    have := PySem.intText_neg (x := mk (45 :: numL i.natAbs)) (cs := numL i.natAbs) rfl (numL_digits _) (numL_ne _) (by rw [mk_len]; show _ + 1 ≤ _; omega)
    rw [this, numL_val]
    congr 1
    omega
  · rw [if_neg z]
    have e : i.toNat = i.natAbs := by omega
    rw [e]
    have := PySem.intText_digits (x := mk (numL i.natAbs)) (numL_digits _) (numL_ne _) (by rw [mk_len]; omega)
    rw [this]
    show some ((NumText.digitsVal (numL i.natAbs) : Nat) : Int) = _
    rw [numL_val]
    congr 1
    omega
theorem dig_in {n : Nat} : ∀ c ∈ numL n, c ∈ tl ("0123456789" : Str) := fun c hc => by
  have h := numL_digits n c hc
  have all : ∀ d : Fin 10, 48 + d.val ∈ tl ("0123456789" : Str) := by decide +kernel
  have := all ⟨c - 48, by omega⟩
  rw [show 48 + (c - 48) = c by omega] at this
  exact this
theorem nodash {i : Int} : tl (Txt.removeprefix (mk (intL i)) (mk [45])) = numL i.natAbs := by
  rw [PySem.StrLaws.removeprefix_eq, PySem.StrLaws.subAt_eq]
  show tl (if (decide (0 + (mk [45]).length ≤ (mk (intL i)).length) && (((tl (mk (intL i))).drop 0).take (mk [45]).length == tl (mk [45]))) = true then _ else _) = _
  rw [tl_mkS, tl_mkS, mk_len, mk_len, List.drop_zero]
  unfold intL
  by_cases z : i < 0
  · rw [if_pos z]
    have e : (-i).toNat = i.natAbs := by omega
    rw [e, if_pos (by simp)]
    show ((tl (mk (45 :: numL i.natAbs))).drop 1).take ((45 :: numL i.natAbs).length - 1) = _
    rw [tl_mkS, List.drop_succ_cons, List.drop_zero, List.length_cons, Nat.add_sub_cancel, List.take_length]
  · rw [if_neg z]
    have e : i.toNat = i.natAbs := by omega
    rw [e]
    have hne := numL_ne i.natAbs
    have hd := numL_digits i.natAbs
    generalize numL i.natAbs = l at *
    cases l with
    | nil => exact absurd rfl hne
    | cons c l =>
      have hc := hd c List.mem_cons_self
      have hx : c ≠ 45 := by have := hc.1; omega
      rw [if_neg]
      · rfl
      · intro q
        rw [Bool.and_eq_true] at q
        have q := q.2
        rw [beq_iff_eq] at q
        have q : [c] = [45] := q
        exact hx (List.head_eq_of_cons_eq q)
/-! ### runs of equal bits -/
def addB (fs : List (Nat × Bool)) (b : Bool) : List (Nat × Bool) :=
  match fs.getLast? with
  | some (n, c) => if c = b then fs.dropLast ++ [(n + 1, b)] else fs ++ [(1, b)]
  | none => [(1, b)]
def runsB (l : List Bool) : List (Nat × Bool) := l.foldl addB []
theorem addB_nil (b : Bool) : addB [] b = [(1, b)] := rfl
theorem addB_same {fs : List (Nat × Bool)} {n : Nat} {b : Bool} : addB (fs ++ [(n, b)]) b = fs ++ [(n + 1, b)] := by
  unfold addB
  rw [List.getLast?_concat]
  show (if b = b then _ else _) = _
  rw [if_pos rfl, List.dropLast_concat]
theorem addB_new {fs : List (Nat × Bool)} {n : Nat} {c b : Bool} (h : c ≠ b) : addB (fs ++ [(n, c)]) b = fs ++ [(n, c)] ++ [(1, b)] := by
  unfold addB
  rw [List.getLast?_concat]
  show (if c = b then _ else _) = _
  rw [if_neg h]
theorem snoc_cases {α : Type} (l : List α) : l = [] ∨ ∃ k x, l = k ++ [x] := by
  rcases List.eq_nil_or_concat l with e | ⟨k, x, e⟩
  · exact .inl e
  · exact .inr ⟨k, x, by rw [e, List.concat_eq_append]⟩
theorem runsB_snoc (l : List Bool) (b : Bool) : runsB (l ++ [b]) = addB (runsB l) b := by
  unfold runsB; rw [List.foldl_append]; rfl
def expB (fs : List (Nat × Bool)) : List Bool := (fs.map fun p => List.replicate p.1 p.2).flatten
theorem expB_snoc (fs : List (Nat × Bool)) (p : Nat × Bool) : expB (fs ++ [p]) = expB fs ++ List.replicate p.1 p.2 := by
  unfold expB; rw [List.map_append, List.flatten_append]; simp
/-- runs that stand apart -/
def Apart : List (Nat × Bool) → Prop
  | [] => True
  | [p] => 1 ≤ p.1
  | p :: q :: r => 1 ≤ p.1 ∧ p.2 ≠ q.2 ∧ Apart (q :: r)
theorem apart_snoc : ∀ {fs : List (Nat × Bool)} {n : Nat} {c : Bool} {p : Nat × Bool}, Apart (fs ++ [(n, c)]) → c ≠ p.2 → 1 ≤ p.1 → Apart (fs ++ [(n, c)] ++ [p])
  | [], n, c, p, h, hc, hp => ⟨h, hc, hp⟩
  | [q], n, c, p, h, hc, hp => ⟨h.1, h.2.1, h.2.2, hc, hp⟩
  | q :: r :: fs, n, c, p, h, hc, hp => ⟨h.1, h.2.1, apart_snoc (fs := r :: fs) h.2.2 hc hp⟩
theorem apart_more : ∀ {fs : List (Nat × Bool)} {n : Nat} {c : Bool}, Apart (fs ++ [(n, c)]) → Apart (fs ++ [(n + 1, c)])
  | [], n, c, h => Nat.le_succ_of_le h
  | [q], n, c, h => ⟨h.1, h.2.1, Nat.le_succ_of_le h.2.2⟩
  | q :: r :: fs, n, c, h => ⟨h.1, h.2.1, apart_more (fs := r :: fs) h.2.2⟩
theorem apart_init : ∀ {fs : List (Nat × Bool)} {p : Nat × Bool}, Apart (fs ++ [p]) → Apart fs
  | [], _, _ => trivial
  | [q], _, h => h.1
  | q :: r :: fs, _, h => ⟨h.1, h.2.1, apart_init (fs := r :: fs) h.2.2⟩
theorem apart_last : ∀ {fs : List (Nat × Bool)} {p q : Nat × Bool}, Apart (fs ++ [p] ++ [q]) → p.2 ≠ q.2 ∧ 1 ≤ q.1
  | [], _, _, h => ⟨h.2.1, h.2.2⟩
  | [_], _, _, h => ⟨h.2.2.2.1, h.2.2.2.2⟩
  | _ :: r :: fs, p, q, h => apart_last (fs := r :: fs) h.2.2
theorem runs_ok : ∀ l : List Bool, ∀ k, k ≤ l.length → expB (runsB (l.take k)) = l.take k ∧ Apart (runsB (l.take k)) := by
  intro l k
  induction k with
  | zero => intro _; rw [List.take_zero]; exact ⟨rfl, trivial⟩
  | succ k ih =>
    intro hk
    obtain ⟨h1, h2⟩ := ih (by omega)
    have hb : l[k]? = some (l[k]'(by omega)) := List.getElem?_eq_getElem (by omega)
    generalize l[k]'(by omega) = b at hb
    have et : l.take (k + 1) = l.take k ++ [b] := by
      rw [List.take_succ, hb]; rfl
    rw [et, runsB_snoc]
    generalize l.take k = m at *
    generalize runsB m = fs at *
    subst h1
    rcases snoc_cases fs with rfl | ⟨gs, ⟨n, c⟩, rfl⟩
    · exact ⟨rfl, Nat.le_refl 1⟩
    · by_cases hc : c = b
      · subst hc
        rw [addB_same, expB_snoc, expB_snoc]
        exact ⟨by rw [List.replicate_succ', List.append_assoc], apart_more h2⟩
      · rw [addB_new hc, expB_snoc]
        exact ⟨rfl, apart_snoc h2 hc (Nat.le_refl 1)⟩
theorem runs_all (l : List Bool) : expB (runsB l) = l ∧ Apart (runsB l) := by
  have := runs_ok l l.length (Nat.le_refl _)
  rw [List.take_length] at this
  exact this
theorem apart_pos : ∀ {fs : List (Nat × Bool)}, Apart fs → ∀ p ∈ fs, 1 ≤ p.1
  | [], _, _, h => nomatch h
  | [q], h, p, hp => by rw [List.mem_singleton.mp hp]; exact h
  | q :: r :: fs, h, p, hp => by
    rcases List.mem_cons.mp hp with e | e
    · rw [e]; exact h.1
    · exact apart_pos (fs := r :: fs) h.2.2 p e
theorem exp_len : ∀ (fs : List (Nat × Bool)), Apart fs → fs.length ≤ (expB fs).length ∧ ∀ p ∈ fs, p.1 ≤ (expB fs).length := by
  intro fs h
  have hp := apart_pos h
  clear h
  induction fs with
  | nil => exact ⟨Nat.zero_le _, fun p h => nomatch h⟩
  | cons q fs ih =>
    obtain ⟨h1, h2⟩ := ih fun p h => hp p (List.mem_cons_of_mem _ h)
    have hq := hp q List.mem_cons_self
    have e : (expB (q :: fs)).length = q.1 + (expB fs).length := by unfold expB; simp
    refine ⟨by rw [e, List.length_cons]; omega, fun p h => ?_⟩
    rw [e]
    rcases List.mem_cons.mp h with z | z
    · rw [z]; omega
    · have := h2 p z; omega
/-! ### the text -/
def bitL (b : Bool) : Nat := if b = true then 49 else 48
def pieceL (p : Nat × Bool) : List Nat := numL p.1 ++ [120, bitL p.2]
def rowL (r : List Nat × List Bool) : List Nat := joinL [32] (r.1 :: (runsB r.2).map pieceL)
def headL (low high : Int) : List Nat := joinL [32] [tl ("from" : Str), intL low, tl ("to" : Str), intL high]
structure RecD where
  low : Int
  size : Nat
  rows : List (List Nat × List Bool)
def RecD.high (r : RecD) : Int := r.low + r.size - 1
def RecD.lines (r : RecD) : List (List Nat) := headL r.low r.high :: r.rows.map rowL
def RecD.text (r : RecD) : List Nat := (r.lines.map (· ++ [10])).flatten
theorem joinL_flat (s : List Nat) : ∀ (x : List Nat) (xs : List (List Nat)), joinL s (x :: xs) = x ++ (xs.map (s ++ ·)).flatten
  | x, [] => by show x = x ++ _; simp
  | x, y :: ys => by
    show x ++ (s ++ joinL s (y :: ys)) = _
    rw [joinL_flat s y ys]; simp
theorem joinL_end (s : List Nat) : ∀ (x : List Nat) (xs : List (List Nat)), ((x :: xs).map (· ++ s)).flatten = joinL s (x :: xs) ++ s
  | x, [] => by show (x ++ s) ++ [] = x ++ s; simp
  | x, y :: ys => by
    show (x ++ s) ++ (((y :: ys).map (· ++ s)).flatten) = (x ++ (s ++ joinL s (y :: ys))) ++ s
    rw [joinL_end s y ys]; simp
end G
namespace G
open PySem PySem.Spec PyProof.Rows L2
def topS (i : Nat) : Stmt := PySem.Challenge.pw_signoff_k72_reports_refused.main.body.getD i (.Pass ⟨0, 0, 0, 0⟩)
abbrev s_BadSyntax_init : Stmt := inClass (topS 2) 0
abbrev s_is_name : Stmt := topS 10
abbrev s_is_word : Stmt := topS 11
abbrev s_is_clean_report : Stmt := topS 13
abbrev s_lines_of : Stmt := topS 16
abbrev s_integer_of : Stmt := topS 17
abbrev s_bit_of : Stmt := topS 18
abbrev s_read_report : Stmt := topS 20
abbrev s_verdict : Stmt := topS 21
abbrev s_read_head : Stmt := topS 22
abbrev s_read_row : Stmt := topS 23
abbrev s_read_margin : Stmt := topS 24
abbrev s_read_violation : Stmt := topS 25
abbrev s_read_vector : Stmt := topS 26
abbrev s_read_integer : Stmt := topS 27
abbrev s_uis_name : Stmt := topS 28
abbrev s_check_rows : Stmt := topS 29
abbrev s_law_pool : Stmt := topS 31
abbrev s_law_spread : Stmt := topS 32
abbrev s_law_draw : Stmt := topS 33
abbrev s_law_same : Stmt := topS 34
abbrev s_law_word : Stmt := topS 35
abbrev s_law_refused : Stmt := topS 36
abbrev s_law_lines : Stmt := topS 37
abbrev s_law_number : Stmt := topS 38
abbrev s_law_replaced : Stmt := topS 39
abbrev s_law_spoilt : Stmt := topS 40
abbrev s_law : Stmt := topS 41
end G
namespace G
open PySem PySem.Spec PyProof.Rows L2 Evl
structure TxtL (mg : Str → Option Value) : Prop where
  int : mg "int" = none
  len : mg "len" = none
  list : mg "list" = none
  range : mg "range" = none
section
variable {P : Program} {w : World} {K : PySem.W.Frag} {mg : Str → Option Value} {base : Heap}
def spSpread : Sp := fun vs H Q _ => ∃ (c : Int), vs = [.int c] ∧ ∀ v : Int, Q (.int v) H
theorem sc_law_spread : FnScope ["cell", "mixed", "total", "k"] ["cell"] (defScope s_law_spread) := ⟨rfl, rfl, rfl, by decide +kernel, rfl, by decide +kernel, by decide +kernel⟩
theorem ok_law_spread (D : Dfd K mg "_law_spread" s_law_spread ["cell"]) (T : TxtL mg) : Has P w K mg base 1 "_law_spread" ["cell"] spSpread := by
  refine D.has fun f fd F => F.ok sc_law_spread (fun vs H Q E h => ?_) (fun cdv A outer s H vs Q E hr h => ?_)
  · obtain ⟨c, rfl, _⟩ := h
    rfl
  · obtain ⟨c, rfl, q⟩ := h
    refine ⟨_, (pss_cons (ps_set (i := 1) sc_law_spread.nd rfl (.inl rfl) (pe_op op_mod (pe_callTy call_int1 (by rfl) T.int (by decide +kernel) (pa_cons (pv 0) pa_nil)) pe_int))
      (pss_cons (ps_set (i := 2) sc_law_spread.nd rfl (.inl rfl) pe_int)
      (pss_cons (ps_for PassesOwn.never rfl (pi_range1 rfl T.range (pa_cons pe_int pa_nil)) (pg_name (i := 3) sc_law_spread.nd rfl (.inl rfl))
        (pss_cons (ps_set (i := 1) sc_law_spread.nd rfl (.inl rfl) (pe_op op_mod (pe_callTy call_int1 (by rfl) T.int (by decide +kernel) (pa_cons (pe_op op_add (pe_op op_add (pe_op op_mul (pv 1) pe_int) pe_int) (pv 3)) pa_nil)) pe_int))
        (pss_one (ps_set (i := 2) sc_law_spread.nd rfl (.inl rfl) (pe_op op_add (pe_op op_mul (pv 2) pe_int) (pv 1))))))
      (pss_one (ps_ret (pv 2)))))), ?_⟩
    refine ⟨_, rfl, .inl ⟨_, rfl, _, _, rfl, rfl, (by show (0 : Int) < 2147483647; decide), 4, rfl, by decide, by decide, for_range (n := 4) (fun _ σ H' => H' = H ∧ ∃ (x y : Int) (z : Option V), σ = [some (.int c), some (.int x), some (.int y), z]) ⟨rfl, _, _, _, rfl⟩ ?_ ?_⟩⟩
    · rintro i σ H' hi ⟨rfl, x, y, z, rfl⟩
      refine ⟨_, rfl, _, _, rfl, rfl, .inr ⟨by decide, by decide⟩, _, _, rfl, rfl, _, rfl, _, _, rfl, rfl, .inl ⟨_, rfl, _, _, rfl, rfl, (by show (0 : Int) < 2147483647; decide), _, rfl, _, _, rfl, rfl, .inr ⟨by decide, by decide⟩, _, rfl, _, _, rfl, rfl, rfl, _, _, _, rfl⟩⟩
    · rintro σ H' ⟨rfl, x, y, z, rfl⟩
      exact ⟨_, rfl, q y⟩
/-- a draw below n -/
def spDraw : Sp := fun vs H Q _ => ∃ (p a : Addr) (n : Int), vs = [.ref p, .int n] ∧ 0 < n ∧ n.natAbs.log2 < 9000 ∧ PoolOk p a H ∧ ∀ (v : Int) (o : HO), 0 ≤ v → v < n → PoolOk p a (upd H p o) → Q (.int v) (upd H p o)
theorem sc_law_draw : FnScope ["pool", "many", "cell", "mixed", "value"] ["pool", "many"] (defScope s_law_draw) := ⟨rfl, rfl, rfl, by decide +kernel, rfl, by decide +kernel, by decide +kernel⟩
theorem ok_law_draw (D : Dfd K mg "_law_draw" s_law_draw ["pool", "many"]) (T : TxtL mg) (C : Has P w K mg base 1 "_law_spread" ["cell"] spSpread) : Has P w K mg base 2 "_law_draw" ["pool", "many"] spDraw := by
  obtain ⟨f_law_spread, d_law_spread, G_law_spread, g_law_spread, k_law_spread, b_law_spread⟩ := C
  refine D.has fun f fd F => F.ok sc_law_draw (fun vs H Q E h => ?_) (fun cdv A outer s H vs Q E hr h => ?_)
  · obtain ⟨p, a, n, rfl, _⟩ := h
    rfl
  · obtain ⟨p, a, n, rfl, n0, n9, hp, q⟩ := h
    refine ⟨_, (pss_cut (ps_if (PW.pt (pw_and (pt_cmpR op_le (pe_ix ix_list (pv 0) pe_int (fun _ _ => rfl)) pe_int (nomark _)) (pw_and1 (pt_cmpR op_lt (pe_ix ix_list (pv 0) pe_int (fun _ _ => rfl)) (pe_callB call_len_seq (by rfl) T.len (by decide +kernel) (pa_cons (pe_ix ix_list (pv 0) pe_int (fun _ _ => rfl)) pa_nil)) (nomark _)))))
      (pss_cons (ps_set (i := 2) sc_law_draw.nd rfl (.inl rfl) (pe_ix ix_list (pe_ix ix_list (pv 0) pe_int (fun _ _ => rfl)) (pe_ix ix_list (pv 0) pe_int (fun _ _ => rfl)) (fun _ _ => rfl)))
      (pss_cons (ps_asg (pe_op op_add (pe_ix ix_list (pv 0) pe_int (fun _ _ => rfl)) pe_int) (pg_sub (pv 0) pe_int set_list))
      (pss_cons (ps_asg (pv 2) (pg_sub (pv 0) pe_int set_list))
      (pss_one (ps_if (pt_cmpR op_lt (pv 2) pe_int (nomark _))
        (pss_one (ps_asg (pe_call G_law_spread hr (by rfl) g_law_spread k_law_spread b_law_spread .nil pass0 (pa_cons (pv 2) pa_nil)) (pg_sub (pv 0) pe_int set_list)))
        pss_nil)))))
      pss_nil)
    (pss_cons (ps_asg (pe_op op_add (pe_ix ix_list (pv 0) pe_int (fun _ _ => rfl)) pe_int) (pg_sub (pv 0) pe_int set_list))
    (pss_cons (ps_if (pt_cmpR op_le (pe_ix ix_list (pv 0) pe_int (fun _ _ => rfl)) pe_int (nomark _))
      (pss_cons (ps_set (i := 3) sc_law_draw.nd rfl (.inl rfl) (pe_op op_mod (pe_callTy call_int1 (by rfl) T.int (by decide +kernel) (pa_cons (pe_op op_add (pe_op op_add (pe_op op_mul (pe_ix ix_list (pv 0) pe_int (fun _ _ => rfl)) pe_int) (pe_op op_mul (pe_ix ix_list (pv 0) pe_int (fun _ _ => rfl)) pe_int)) pe_int) pa_nil)) pe_int))
      (pss_cons (ps_set (i := 3) sc_law_draw.nd rfl (.inl rfl) (pe_op op_mod (pe_callTy call_int1 (by rfl) T.int (by decide +kernel) (pa_cons (pe_op op_add (pe_op op_mul (pv 3) pe_int) (pe_ix ix_list (pv 0) pe_int (fun _ _ => rfl))) pa_nil)) pe_int))
      (pss_one (ps_ret (pe_op op_mod (pe_op op_fdiv (pv 3) pe_int) (pv 1))))))
      pss_nil)
    (pss_cons (ps_set (i := 4) sc_law_draw.nd rfl (.inl rfl) (pe_op op_mod (pe_callTy call_int1 (by rfl) T.int (by decide +kernel) (pa_cons (pe_ix ix_list (pv 0) pe_int (fun _ _ => rfl)) pa_nil)) (pv 1)))
    (pss_cons (ps_asg (pe_op op_fdivW (pe_ix ix_list (pv 0) pe_int (fun _ _ => rfl)) (pv 1)) (pg_sub (pv 0) pe_int set_list))
    (pss_one (ps_ret (pv 4)))))))), ?_⟩
    obtain ⟨ns, i, c, k, s5, hl, ha, hn⟩ := hp
    have hap : a ≠ p := hid_neq ha
    have haH := hid_get ha
    -- the pool as it stands after writes
    have pk : ∀ (i' : Nat) (c' k' s' : Int), PoolOk p a (upd H p (.lst [.ref a, .int i', .int c', .int k', .int s'])) := fun i' c' k' s' =>
      ⟨ns, i', c', k', s', upd_same, by rw [hid_upd]; exact ha, hn⟩
    refine ⟨fun σ H' => ∃ (i' : Nat) (c' k' s' : Int) (o1 : Option V), σ = [some (.ref p), some (.int n), o1, none, none] ∧ H' p = some (.lst [.ref a, .int i', .int c', .int k', .int s']) ∧ (∀ o, upd H' p o = upd H p o), ?_, ?_⟩
    · refine ⟨_, rfl, _, _, _, _, rfl, rfl, SqL.of hl, atI_nat (j := 2) rfl, _, _, rfl, rfl, _, rfl, ite2 (fun e1 => ?_) (fun e1 => ?_)⟩
      · refine ⟨_, rfl, _, _, _, _, rfl, rfl, SqL.of hl, atI_nat (j := 1) rfl, _, rfl, _, _, _, _, rfl, rfl, SqL.of hl, atI_nat (j := 0) rfl, _, _, rfl, .inl (SqL.of haH), _, _, rfl, rfl, _, rfl, ite2 (fun e2 => ?_) (fun e2 => ?_)⟩
        · have hi : i < (ns.map V.int).length := by have := of_decide_eq_true e2; omega
          have hi' : i < ns.length := by rw [List.length_map] at hi; exact hi
          have gi : (ns.map V.int)[i]? = some (.int ns[i]) := by rw [List.getElem?_map, List.getElem?_eq_getElem hi']; rfl
          refine ⟨_, rfl, _, _, _, _, rfl, rfl, SqL.of hl, atI_nat (j := 0) rfl, _, rfl, _, _, _, _, rfl, rfl, SqL.of hl, atI_nat (j := 1) rfl, _, _, _, _, rfl, rfl, SqL.of haH, atI_nat gi, ?_⟩
          refine ⟨_, rfl, _, _, _, _, rfl, rfl, SqL.of hl, atI_nat (j := 1) rfl, _, _, rfl, rfl, _, rfl, _, _, _, 1, rfl, rfl, hl, rfl, ?_⟩
          refine ⟨_, rfl, _, rfl, _, _, _, 2, rfl, rfl, upd_same, rfl, ?_⟩
          refine ⟨_, rfl, _, _, rfl, rfl, _, rfl, ite2 (fun e3 => ?_) (fun e3 => ?_)⟩
          · refine ⟨_, rfl, _, rfl, fun v => ⟨_, rfl, _, _, _, 2, rfl, rfl, upd_same, rfl, ?_⟩⟩
            exact ⟨i + 1, v, k, s5, _, rfl, upd_same, fun o => by rw [upd_upd, upd_upd, upd_upd]⟩
          · exact ⟨i + 1, ns[i], k, s5, _, rfl, upd_same, fun o => by rw [upd_upd, upd_upd]⟩
        · exact ⟨i, c, k, s5, _, rfl, hl, fun _ => rfl⟩
      · exact iteF ⟨i, c, k, s5, _, rfl, hl, fun _ => rfl⟩
    · rintro σ H' ⟨i, c, k, s5, o1, rfl, hl', hu⟩
      refine ⟨_, rfl, _, _, _, _, rfl, rfl, SqL.of hl', atI_nat (j := 3) rfl, _, _, rfl, rfl, _, rfl, _, _, _, 3, rfl, rfl, hl', rfl, ?_⟩
      refine ⟨_, rfl, _, _, _, _, rfl, rfl, SqL.of upd_same, atI_nat (j := 2) rfl, _, _, rfl, rfl, _, rfl, ite2 (fun e1 => ?_) (fun e1 => ?_)⟩
      · refine ⟨_, rfl, _, _, _, _, rfl, rfl, SqL.of upd_same, atI_nat (j := 4) rfl, _, _, rfl, rfl, .inr ⟨by decide, by decide⟩, _, rfl, _, _, _, _, rfl, rfl, SqL.of upd_same, atI_nat (j := 3) rfl, _, _, rfl, rfl, .inr ⟨by decide, by decide⟩, _, _, rfl, rfl, _, _, rfl, rfl, .inl ⟨_, rfl, _, _, rfl, rfl, (by show (0 : Int) < 2147483647; decide), ?_⟩⟩
        refine ⟨_, rfl, _, _, rfl, rfl, .inr ⟨by decide, by decide⟩, _, rfl, _, _, _, _, rfl, rfl, SqL.of upd_same, atI_nat (j := 3) rfl, _, _, rfl, rfl, .inl ⟨_, rfl, _, _, rfl, rfl, (by show (0 : Int) < 2147483629; decide), ?_⟩⟩
        refine ⟨_, rfl, _, _, rfl, rfl, ⟨by decide, by decide⟩, _, rfl, _, _, rfl, rfl, n0, ?_⟩
        show Q _ _
        rw [hu]
        exact q _ _ (Int.emod_nonneg _ (by omega)) (Int.emod_lt_of_pos _ n0) (pk i c (k + 1) s5)
      · refine ⟨_, rfl, _, _, _, _, rfl, rfl, SqL.of upd_same, atI_nat (j := 2) rfl, .inl ⟨_, rfl, _, rfl, _, _, rfl, rfl, n0, ?_⟩⟩
        refine ⟨_, rfl, _, _, _, _, rfl, rfl, SqL.of upd_same, atI_nat (j := 2) rfl, _, rfl, _, _, rfl, rfl, ⟨n0, n9⟩, _, rfl, _, _, _, 2, rfl, rfl, upd_same, rfl, _, rfl, ?_⟩
        show Q _ _
        rw [upd_upd, hu]
        exact q _ _ (Int.emod_nonneg _ (by omega)) (Int.emod_lt_of_pos _ n0) (pk i (c / n) (k + 1) s5)
/-- the same, the heap behind it a letter -/
def spDrawX : Sp := fun vs H Q _ => ∃ (p a : Addr) (n : Int), vs = [.ref p, .int n] ∧ 0 < n ∧ n ≤ 2 ^ 70 ∧ PoolOk p a H ∧ ∀ (v : Nat) (H' : Hp), (v : Int) < n → Px p a H H' → (∀ b, b ≠ p → H' b = H b) → Q (.int v) H'
theorem log2_small {n : Int} (h0 : 0 < n) (h : n ≤ 2 ^ 70) : n.natAbs.log2 < 9000 := by
  have h1 : n.natAbs < 2 ^ 71 := by omega
  have := PySem.Flt.log2_lt_of (by decide : 0 < 71) h1
  omega
theorem drawX (C : Has P w K mg base 2 "_law_draw" ["pool", "many"] spDraw) : Has P w K mg base 2 "_law_draw" ["pool", "many"] spDrawX :=
  C.imp fun vs H Q E h => by
    obtain ⟨p, a, n, rfl, h0, h1, hp, q⟩ := h
    refine ⟨p, a, n, rfl, h0, log2_small h0 h1, hp, fun v o v0 v1 hq => ?_⟩
    have e : v = ((v.toNat : Nat) : Int) := by omega
    rw [e]
    exact q v.toNat _ (by omega) (Px.draw hp hq) fun b hb => upd_ne hb
end
end G
namespace G
open PySem PySem.Spec PyProof.Rows L2 Evl
/-! ## data -/
inductive D where
  | non | bl (b : Bool) | int (i : Int) | str (s : Str) | tup (l : List D) | lst (l : List D)
def okD : Nat → D → Prop
  | 0, .tup _ => False
  | 0, .lst _ => False
  | n + 1, .tup l => l.length < 2 ^ 61 ∧ ∀ d ∈ l, okD n d
  | n + 1, .lst l => l.length < 2 ^ 61 ∧ ∀ d ∈ l, okD n d
  | _, _ => True
inductive Rep (H : Hp) : V → D → Prop where
  | non : Rep H .non .non
  | bl (b : Bool) : Rep H (.bl b) (.bl b)
  | int (i : Int) : Rep H (.int i) (.int i)
  | str (s : Str) : Rep H (.str s) (.str s)
  | tup {a : Addr} {xs : List V} {ds : List D} (h : H a = some (.tup xs)) (hl : xs.length = ds.length) (hr : ∀ (i : Nat) (x : V) (d : D), xs[i]? = some x → ds[i]? = some d → Rep H x d) : Rep H (.ref a) (.tup ds)
  | lst {a : Addr} {xs : List V} {ds : List D} (h : H a = some (.lst xs)) (hl : xs.length = ds.length) (hr : ∀ (i : Nat) (x : V) (d : D), xs[i]? = some x → ds[i]? = some d → Rep H x d) : Rep H (.ref a) (.lst ds)
theorem Rep.ex {H H' : Hp} (e : Ex H H') {x : V} {d : D} (r : Rep H x d) : Rep H' x d := by
  induction r with
  | non => exact .non
  | bl b => exact .bl b
  | int i => exact .int i
  | str s => exact .str s
  | tup h hl _ ih => exact .tup (e _ _ h) hl ih
  | lst h hl _ ih => exact .lst (e _ _ h) hl ih
theorem okD.mono : ∀ {n m : Nat} {d : D}, n ≤ m → okD n d → okD m d
  | 0, 0, d, _, h => h
  | 0, m + 1, .non, _, _ => trivial
  | 0, m + 1, .bl _, _, _ => trivial
  | 0, m + 1, .int _, _, _ => trivial
  | 0, m + 1, .str _, _, _ => trivial
  | 0, m + 1, .tup _, _, h => h.elim
  | 0, m + 1, .lst _, _, h => h.elim
  | n + 1, m + 1, .non, _, _ => trivial
  | n + 1, m + 1, .bl _, _, _ => trivial
  | n + 1, m + 1, .int _, _, _ => trivial
  | n + 1, m + 1, .str _, _, _ => trivial
  | n + 1, m + 1, .tup l, le, h => ⟨h.1, fun d hd => okD.mono (Nat.le_of_succ_le_succ le) (h.2 d hd)⟩
  | n + 1, m + 1, .lst l, le, h => ⟨h.1, fun d hd => okD.mono (Nat.le_of_succ_le_succ le) (h.2 d hd)⟩
structure TxtS (mg : Str → Option Value) : Prop where
  isinstance : mg "isinstance" = none
  tuple : mg "tuple" = none
  list : mg "list" = none
  len : mg "len" = none
  range : mg "range" = none
  bool : mg "bool" = none
  int : mg "int" = none
  str : mg "str" = none
section
variable {P : Program} {w : World} {K : PySem.W.Frag} {mg : Str → Option Value} {base : Heap}
/-- equal data: the answer is True -/
def spSame : Nat → Sp
  | 0 => fun _ _ _ _ => False
  | n + 1 => fun vs H Q _ => ∃ (x y : V) (d : D), vs = [x, y] ∧ Rep H x d ∧ Rep H y d ∧ okD n d ∧ Q (.bl true) H
theorem sc_law_same : FnScope ["actual", "due", "k"] ["actual", "due"] (defScope s_law_same) := ⟨rfl, rfl, rfl, by decide +kernel, rfl, by decide +kernel, by decide +kernel⟩
theorem fn_law_same {f : Addr} {fd : FuncData} (F : Fun K "_law_same" "_law_same" s_law_same f fd) (g_law_same : mg "_law_same" = some (.ref f)) (b_law_same : Binds K fd ["actual", "due"] []) (T : TxtS mg) : ∀ n, FnOk P w K mg base CX0 n f fd ["actual", "due"] (spSame n)
  | 0 => ⟨fun _ _ _ _ h => h.elim, fun _ _ _ _ _ _ _ _ _ _ _ _ _ h => h.elim⟩
  | n + 1 => by
    have G_law_same := fn_law_same F g_law_same b_law_same T n
    have k_law_same := F.kp
    refine F.ok sc_law_same (fun vs H Q E h => ?_) (fun cdv A outer s H vs Q E hr h => ?_)
    · obtain ⟨x, y, d, rfl, _⟩ := h
      rfl
    · obtain ⟨x, y, d, rfl, rx, ry, hd, q⟩ := h
      refine ⟨_, (pss_cons (ps_if (PW.pt (pw_or (pt_val (pe_callB call_isi (by rfl) T.isinstance (by decide +kernel) (pa_cons (pv 1) (pa_cons (pe_bltn (v := .ty "tuple") (by rfl) T.tuple (by decide +kernel) rfl) pa_nil)))) (pw_or1 (pt_val (pe_callB call_isi (by rfl) T.isinstance (by decide +kernel) (pa_cons (pv 1) (pa_cons (pe_bltn (v := .ty "list") (by rfl) T.list (by decide +kernel) rfl) pa_nil)))))))
      (pss_cons (ps_if (PW.pt (pw_or (pt_cmpR op_ne (pe_callB call_isi (by rfl) T.isinstance (by decide +kernel) (pa_cons (pv 1) (pa_cons (pe_bltn (v := .ty "tuple") (by rfl) T.tuple (by decide +kernel) rfl) pa_nil))) (pe_callB call_isi (by rfl) T.isinstance (by decide +kernel) (pa_cons (pv 0) (pa_cons (pe_bltn (v := .ty "tuple") (by rfl) T.tuple (by decide +kernel) rfl) pa_nil))) (nomark _)) (pw_or1 (pt_cmpR op_ne (pe_callB call_isi (by rfl) T.isinstance (by decide +kernel) (pa_cons (pv 1) (pa_cons (pe_bltn (v := .ty "list") (by rfl) T.list (by decide +kernel) rfl) pa_nil))) (pe_callB call_isi (by rfl) T.isinstance (by decide +kernel) (pa_cons (pv 0) (pa_cons (pe_bltn (v := .ty "list") (by rfl) T.list (by decide +kernel) rfl) pa_nil))) (nomark _)))))
        (pss_one (ps_ret pe_bl))
        pss_nil)
      (pss_cons (ps_if (pt_cmpR op_ne (pe_callB call_len_seq (by rfl) T.len (by decide +kernel) (pa_cons (pv 0) pa_nil)) (pe_callB call_len_seq (by rfl) T.len (by decide +kernel) (pa_cons (pv 1) pa_nil)) (nomark _))
        (pss_one (ps_ret pe_bl))
        pss_nil)
      (pss_cons (ps_for PassesOwn.never rfl (pi_range1 rfl T.range (pa_cons (pe_callB call_len_seq (by rfl) T.len (by decide +kernel) (pa_cons (pv 1) pa_nil)) pa_nil)) (pg_name (i := 2) sc_law_same.nd rfl (.inl rfl))
        (pss_one (ps_if (pt_not (pt_val (pe_call G_law_same hr (by rfl) g_law_same k_law_same b_law_same .nil pass0 (pa_cons (pe_ix ix_seq (pv 0) (pv 2) (fun _ _ => rfl)) (pa_cons (pe_ix ix_seq (pv 1) (pv 2) (fun _ _ => rfl)) pa_nil)))))
          (pss_one (ps_ret pe_bl))
          pss_nil)))
      (pss_one (ps_ret pe_bl)))))
      pss_nil)
    (pss_cons (ps_if (pt_cmpR op_isN (pv 1) pe_non (nomark _))
      (pss_one (ps_ret (pe_cmpR op_isN (pv 0) pe_non (nomark _))))
      pss_nil)
    (pss_cons (ps_if (pt_val (pe_callB call_isi (by rfl) T.isinstance (by decide +kernel) (pa_cons (pv 1) (pa_cons (pe_bltn (v := .ty "bool") (by rfl) T.bool (by decide +kernel) rfl) pa_nil))))
      (pss_one (ps_ret (pe_and (pe_callB call_isi (by rfl) T.isinstance (by decide +kernel) (pa_cons (pv 0) (pa_cons (pe_bltn (v := .ty "bool") (by rfl) T.bool (by decide +kernel) rfl) pa_nil))) (pe_one (pe_cmpR op_eq (pv 0) (pv 1) (nomark _))))))
      pss_nil)
    (pss_cons (ps_if (pt_val (pe_callB call_isi (by rfl) T.isinstance (by decide +kernel) (pa_cons (pv 1) (pa_cons (pe_bltn (v := .ty "int") (by rfl) T.int (by decide +kernel) rfl) pa_nil))))
      (pss_one (ps_ret (pe_and (pe_callB call_isi (by rfl) T.isinstance (by decide +kernel) (pa_cons (pv 0) (pa_cons (pe_bltn (v := .ty "int") (by rfl) T.int (by decide +kernel) rfl) pa_nil))) (pe_and (pe_not (pe_callB call_isi (by rfl) T.isinstance (by decide +kernel) (pa_cons (pv 0) (pa_cons (pe_bltn (v := .ty "bool") (by rfl) T.bool (by decide +kernel) rfl) pa_nil)))) (pe_one (pe_cmpR op_eq (pv 0) (pv 1) (nomark _)))))))
      pss_nil)
    (pss_one (ps_ret (pe_and (pe_callB call_isi (by rfl) T.isinstance (by decide +kernel) (pa_cons (pv 0) (pa_cons (pe_bltn (v := .ty "str") (by rfl) T.str (by decide +kernel) rfl) pa_nil))) (pe_one (pe_cmpR op_eq (pv 0) (pv 1) (nomark _)))))))))), ?_⟩
      cases rx with
      | non =>
        cases ry
        refine ⟨_, rfl, _, _, _, _, _, rfl, .ty "tuple", .base .non, kit_ty (a := "NoneType") (r := false) (by decide +kernel), _, rfl, iteF ⟨_, rfl, _, _, _, _, _, rfl, .ty "list", .base .non, kit_ty (a := "NoneType") (r := false) (by decide +kernel), _, rfl, iteF ⟨_, rfl, rfl, _, rfl, iteT ⟨_, rfl, rfl, ?_⟩⟩⟩⟩
        exact q
      | bl b =>
        cases ry
        refine ⟨_, rfl, _, _, _, _, _, rfl, .ty "tuple", .base (.bl _), kit_ty (a := "bool") (r := false) (by decide +kernel), _, rfl, iteF ⟨_, rfl, _, _, _, _, _, rfl, .ty "list", .base (.bl _), kit_ty (a := "bool") (r := false) (by decide +kernel), _, rfl, iteF ⟨_, rfl, rfl, _, rfl, iteF ⟨_, rfl, _, _, _, _, _, rfl, .ty "bool", .base (.bl _), kit_ty (a := "bool") (r := true) (by decide +kernel), _, rfl, iteT ⟨_, rfl, _, _, _, _, _, rfl, .ty "bool", .base (.bl _), kit_ty (a := "bool") (r := true) (by decide +kernel), _, rfl, iteT ⟨_, rfl, _, rfl, rfl, ?_⟩⟩⟩⟩⟩⟩
        rw [decide_eq_true rfl]
        exact q
      | int b =>
        cases ry
        refine ⟨_, rfl, _, _, _, _, _, rfl, .ty "tuple", .base (.int _), kit_ty (a := "int") (r := false) (by decide +kernel), _, rfl, iteF ⟨_, rfl, _, _, _, _, _, rfl, .ty "list", .base (.int _), kit_ty (a := "int") (r := false) (by decide +kernel), _, rfl, iteF ⟨_, rfl, rfl, _, rfl, iteF ⟨_, rfl, _, _, _, _, _, rfl, .ty "bool", .base (.int _), kit_ty (a := "int") (r := false) (by decide +kernel), _, rfl, iteF ⟨_, rfl, _, _, _, _, _, rfl, .ty "int", .base (.int _), kit_ty (a := "int") (r := true) (by decide +kernel), _, rfl, iteT ⟨_, rfl, _, _, _, _, _, rfl, .ty "int", .base (.int _), kit_ty (a := "int") (r := true) (by decide +kernel), _, rfl, iteT ⟨_, rfl, _, _, _, _, _, rfl, .ty "bool", .base (.int _), kit_ty (a := "int") (r := false) (by decide +kernel), _, rfl, _, rfl, iteT ⟨_, rfl, _, rfl, rfl, ?_⟩⟩⟩⟩⟩⟩⟩⟩
        rw [decide_eq_true rfl]
        exact q
      | str b =>
        cases ry
        refine ⟨_, rfl, _, _, _, _, _, rfl, .ty "tuple", .base (.str _), kit_ty (a := "str") (r := false) (by decide +kernel), _, rfl, iteF ⟨_, rfl, _, _, _, _, _, rfl, .ty "list", .base (.str _), kit_ty (a := "str") (r := false) (by decide +kernel), _, rfl, iteF ⟨_, rfl, rfl, _, rfl, iteF ⟨_, rfl, _, _, _, _, _, rfl, .ty "bool", .base (.str _), kit_ty (a := "str") (r := false) (by decide +kernel), _, rfl, iteF ⟨_, rfl, _, _, _, _, _, rfl, .ty "int", .base (.str _), kit_ty (a := "str") (r := false) (by decide +kernel), _, rfl, iteF ⟨_, rfl, _, _, _, _, _, rfl, .ty "str", .base (.str _), kit_ty (a := "str") (r := true) (by decide +kernel), _, rfl, iteT ⟨_, rfl, _, rfl, rfl, ?_⟩⟩⟩⟩⟩⟩⟩
        rw [decide_eq_true rfl]
        exact q
      | @tup a xs ds hx lx rx =>
        cases ry with
        | @tup b ys _ hy ly ry =>
          cases n with
          | zero => exact hd.elim
          | succ m =>
            obtain ⟨hlen, hall⟩ := hd
            refine ⟨_, rfl, _, _, _, _, _, rfl, .ty "tuple", .base (.tup hy), kit_ty (a := "tuple") (r := true) (by decide +kernel), _, rfl, iteT (iteT ⟨_, rfl, _, _, _, _, _, rfl, .ty "tuple", .base (.tup hy), kit_ty (a := "tuple") (r := true) (by decide +kernel), _, rfl, _, _, _, _, _, rfl, .ty "tuple", .base (.tup hx), kit_ty (a := "tuple") (r := true) (by decide +kernel), rfl, _, rfl, iteF ⟨_, rfl, _, _, _, _, _, rfl, .ty "list", .base (.tup hy), kit_ty (a := "tuple") (r := false) (by decide +kernel), _, rfl, _, _, _, _, _, rfl, .ty "list", .base (.tup hx), kit_ty (a := "tuple") (r := false) (by decide +kernel), rfl, _, rfl, iteF ⟨_, rfl, _, _, rfl, .inr (SqT.of hx), _, rfl, _, _, rfl, .inr (SqT.of hy), rfl, _, rfl, ?_⟩⟩⟩)⟩
            have el : decide (V.int (xs.length : Int) = V.int (ys.length : Int)) = true := decide_eq_true (by rw [lx, ly])
            rw [el]
            refine ⟨_, rfl, _, _, rfl, .inr (SqT.of hy), _, rfl, by omega, by omega, for_range (n := (ys.length : Int).toNat) (fun _ σ H' => H' = H ∧ ∃ z : Option V, σ = [some (.ref a), some (.ref b), z]) ⟨rfl, _, rfl⟩ ?_ ?_⟩
            · rintro i σ H' hi ⟨rfl, z, rfl⟩
              have hi' : i < ds.length := by omega
              have e0 : (0 : Int) + (i : Int) = (i : Int) := Int.zero_add _
              have g1 : xs[i]? = some xs[i] := List.getElem?_eq_getElem (by omega)
              have g2 : ys[i]? = some ys[i] := List.getElem?_eq_getElem (by omega)
              have g3 : ds[i]? = some ds[i] := List.getElem?_eq_getElem hi'
              rw [e0]
              refine ⟨_, rfl, _, rfl, .inr (.inl ⟨_, _, _, _, rfl, rfl, SqT.of hx, atI_nat g1, _, rfl, _, rfl, .inr (.inl ⟨_, _, _, _, rfl, rfl, SqT.of hy, atI_nat g2, ?_⟩)⟩)⟩
              exact ⟨_, _, ds[i], rfl, rx i _ _ g1 g3, ry i _ _ g2 g3, hall _ (List.getElem_mem hi'), _, rfl, rfl, _, rfl⟩
            · rintro σ H' ⟨rfl, z, rfl⟩
              exact q
      | @lst a xs ds hx lx rx =>
        cases ry with
        | @lst b ys _ hy ly ry =>
          cases n with
          | zero => exact hd.elim
          | succ m =>
            obtain ⟨hlen, hall⟩ := hd
            refine ⟨_, rfl, _, _, _, _, _, rfl, .ty "tuple", .base (.lst hy), kit_ty (a := "list") (r := false) (by decide +kernel), _, rfl, iteF ⟨_, rfl, _, _, _, _, _, rfl, .ty "list", .base (.lst hy), kit_ty (a := "list") (r := true) (by decide +kernel), _, rfl, iteT ⟨_, rfl, _, _, _, _, _, rfl, .ty "tuple", .base (.lst hy), kit_ty (a := "list") (r := false) (by decide +kernel), _, rfl, _, _, _, _, _, rfl, .ty "tuple", .base (.lst hx), kit_ty (a := "list") (r := false) (by decide +kernel), rfl, _, rfl, iteF ⟨_, rfl, _, _, _, _, _, rfl, .ty "list", .base (.lst hy), kit_ty (a := "list") (r := true) (by decide +kernel), _, rfl, _, _, _, _, _, rfl, .ty "list", .base (.lst hx), kit_ty (a := "list") (r := true) (by decide +kernel), rfl, _, rfl, iteF ⟨_, rfl, _, _, rfl, .inl (SqL.of hx), _, rfl, _, _, rfl, .inl (SqL.of hy), rfl, _, rfl, ?_⟩⟩⟩⟩⟩
            have el : decide (V.int (xs.length : Int) = V.int (ys.length : Int)) = true := decide_eq_true (by rw [lx, ly])
            rw [el]
            refine ⟨_, rfl, _, _, rfl, .inl (SqL.of hy), _, rfl, by omega, by omega, for_range (n := (ys.length : Int).toNat) (fun _ σ H' => H' = H ∧ ∃ z : Option V, σ = [some (.ref a), some (.ref b), z]) ⟨rfl, _, rfl⟩ ?_ ?_⟩
            · rintro i σ H' hi ⟨rfl, z, rfl⟩
              have hi' : i < ds.length := by omega
              have e0 : (0 : Int) + (i : Int) = (i : Int) := Int.zero_add _
              have g1 : xs[i]? = some xs[i] := List.getElem?_eq_getElem (by omega)
              have g2 : ys[i]? = some ys[i] := List.getElem?_eq_getElem (by omega)
              have g3 : ds[i]? = some ds[i] := List.getElem?_eq_getElem hi'
              rw [e0]
              refine ⟨_, rfl, _, rfl, .inl ⟨_, _, _, _, rfl, rfl, SqL.of hx, atI_nat g1, _, rfl, _, rfl, .inl ⟨_, _, _, _, rfl, rfl, SqL.of hy, atI_nat g2, ?_⟩⟩⟩
              exact ⟨_, _, ds[i], rfl, rx i _ _ g1 g3, ry i _ _ g2 g3, hall _ (List.getElem_mem hi'), _, rfl, rfl, _, rfl⟩
            · rintro σ H' ⟨rfl, z, rfl⟩
              exact q
theorem ok_law_same (D : Dfd K mg "_law_same" s_law_same ["actual", "due"]) (T : TxtS mg) (n : Nat) : Has P w K mg base n "_law_same" ["actual", "due"] (spSame n) := by
  obtain ⟨f, fd, F, g, b⟩ := D
  exact ⟨f, fd, fn_law_same F g b T n, g, F.kp, b⟩
end
/-! ## data made of flat lists -/
theorem rep_map {H : Hp} {α : Type} {f : α → V} {g : α → D} {l : List α} (h : ∀ x, Rep H (f x) (g x)) : (l.map f).length = (l.map g).length ∧ ∀ (i : Nat) (x : V) (d : D), (l.map f)[i]? = some x → (l.map g)[i]? = some d → Rep H x d := by
  refine ⟨by rw [List.length_map, List.length_map], fun i x d hx hd => ?_⟩
  rw [List.getElem?_map] at hx hd
  cases e : l[i]? with
  | none => rw [e] at hx; cases hx
  | some y =>
    rw [e] at hx hd
    have e1 : f y = x := Option.some.inj hx
    have e2 : g y = d := Option.some.inj hd
    rw [← e1, ← e2]
    exact h y
theorem rep_ints {H : Hp} {a : Addr} {l : List Int} (h : H a = some (.lst (l.map V.int))) : Rep H (.ref a) (.lst (l.map D.int)) :=
  let r := rep_map (H := H) (f := V.int) (g := D.int) (l := l) fun i => .int i
  .lst h r.1 r.2
theorem rep_bls {H : Hp} {a : Addr} {l : List Bool} (h : H a = some (.tup (l.map V.bl))) : Rep H (.ref a) (.tup (l.map D.bl)) :=
  let r := rep_map (H := H) (f := V.bl) (g := D.bl) (l := l) fun i => .bl i
  .tup h r.1 r.2
theorem okD_ints {l : List Int} (h : l.length < 2 ^ 61) : okD 1 (.lst (l.map D.int)) := ⟨by rw [List.length_map]; exact h, fun d hd => by obtain ⟨_, _, rfl⟩ := List.mem_map.mp hd; trivial⟩
end G
namespace G
open PySem PySem.Spec PyProof.Rows L2 Evl
section
variable {P : Program} {w : World} {K : PySem.W.Frag} {mg : Str → Option Value} {base : Heap}
theorem cutV_mem {xs : List V} {lo hi : Option Int} {i : Nat} {x : V} (h : (cutV xs lo hi)[i]? = some x) : x ∈ xs := by
  unfold cutV at h
  exact List.mem_of_mem_drop (List.mem_of_mem_take (List.mem_of_getElem? h))
theorem int_of {ns : List Int} {x : V} (h : x ∈ ns.map V.int) : ∃ z, x = .int z := by
  obtain ⟨z, _, e⟩ := List.mem_map.mp h
  exact ⟨z, e.symm⟩
def spPool (K : PySem.W.Frag) : Sp := fun vs H Q _ => ∃ (s : Addr) (ns : List Int), vs = [.ref s] ∧ SqL K H s (ns.map V.int) ∧ ns.length ≤ 1000 ∧ ∀ (p a : Addr) (H' : Hp), PoolOk p a H' → Ex H H' → H p = none → Q (.ref p) H'
theorem sc_law_pool : FnScope ["script", "salt", "cell"] ["script"] (defScope s_law_pool) := ⟨rfl, rfl, rfl, by decide +kernel, rfl, by decide +kernel, by decide +kernel⟩
theorem ok_law_pool (D : Dfd K mg "_law_pool" s_law_pool ["script"]) (T : TxtL mg) : Has P w K mg base 1 "_law_pool" ["script"] (spPool K) := by
  refine D.has fun f fd F => F.ok sc_law_pool (fun vs H Q E h => ?_) (fun cdv A outer s H vs Q E hr h => ?_)
  · obtain ⟨c, _, rfl, _⟩ := h
    rfl
  · obtain ⟨sa, ns, rfl, hs, hn, q⟩ := h
    refine ⟨_, (pss_cons (ps_set (i := 1) sc_law_pool.nd rfl (.inl rfl) pe_int)
      (pss_cons (ps_for PassesOwn.never rfl (pi_list (pe_slice sl_list (pv 0) po_none (po_some pe_int))) (pg_name (i := 2) sc_law_pool.nd rfl (.inl rfl))
        (pss_one (ps_set (i := 1) sc_law_pool.nd rfl (.inl rfl) (pe_op op_mod (pe_callTy call_int1 (by rfl) T.int (by decide +kernel) (pa_cons (pe_op op_add (pe_op op_mul (pv 1) pe_int) (pv 2)) pa_nil)) pe_int))))
      (pss_one (ps_ret (pe_lst (pa_cons (pe_callTy call_list_of (by rfl) T.list (by decide +kernel) (pa_cons (pv 0) pa_nil)) (pa_cons pe_int (pa_cons pe_int (pa_cons pe_int (pa_cons (pv 1) pa_nil)))))))))), ?_⟩
    refine ⟨_, rfl, _, rfl, sa, _, rfl, hs, fun c nc => ⟨c, rfl, ⟨_, SqL.of upd_same⟩, for_list (K := K) (a := c) (xs := cutV (ns.map V.int) none (some 63)) (fun _ σ H' => H' = upd H c (.lst (cutV (ns.map V.int) none (some 63))) ∧ ∃ (x : Int) (z : Option V), σ = [some (.ref sa), some (.int x), z]) ⟨rfl, _, _, rfl⟩ ?_ ?_ ?_⟩⟩
    · rintro i σ H' _ ⟨rfl, _⟩
      exact SqL.of upd_same
    · rintro i x σ H' hi ⟨rfl, y, z, rfl⟩
      obtain ⟨m, rfl⟩ := int_of (cutV_mem hi)
      exact ⟨_, rfl, _, _, rfl, rfl, .inr ⟨by decide, by decide⟩, _, rfl, _, _, rfl, rfl, .inl ⟨_, rfl, _, _, rfl, rfl, (by show (0 : Int) < 1000003; decide), rfl, _, _, rfl⟩⟩
    · rintro σ H' ⟨rfl, y, z, rfl⟩
      have e1 : Ex H (upd H c (.lst (cutV (ns.map V.int) none (some 63)))) := Ex.new nc
      refine ⟨_, rfl, _, _, rfl, .inl (ex_l e1 hs), fun l nl => ⟨_, rfl, (by show 5 ≤ sizeLine; decide), fun p np => ?_⟩⟩
      have e2 := e1.trans (Ex.new (o := .lst (ns.map V.int)) nl)
      have npl : l ≠ p := ne_of_none upd_same np
      exact q p l _ ⟨ns, 0, 0, 0, y, upd_same, by rw [hid_ne npl, upd_ne npl]; exact upd_same, hn⟩ (e2.trans (Ex.new np)) (fresh_back e2 np)
end
end G
namespace G
open PySem PySem.Spec PyProof.Rows L2 Evl
/-! ## own classes of errors -/
def HasX (P : Program) (w : World) (K : PySem.W.Frag) (mg : Str → Option Value) (base : Heap) (k : Nat) (x : Str) (ps : List Str) (sp : Sp) : Prop :=
  ∃ (f : Addr) (fd : FuncData), FnOk P w K mg base (L2.CX P w) k f fd ps sp ∧ mg x = some (.ref f) ∧ PySem.W.keepIn K (.ref f) = true ∧ Binds K fd ps []
theorem passX0 {X : Cx} {P : Program} {w : World} : Passes (L2.CX P w) X (fun _ _ _ => False) := fun _ _ _ _ _ _ _ h => by
  obtain ⟨_, _, _, _, _, _, _, _, _, _, _, _, h⟩ := h
  exact h.elim
/-- an own class over ValueError without __init__, at C -/
structure ExcT (K : PySem.W.Frag) (mg : Str → Option Value) (x : Str) (C : Addr) : Prop where
  gC : mg x = some (.ref C)
  xP : PySem.W.excIn K C [.type "ValueError", .type "Exception", .type "BaseException", .type "object"] "ValueError.__new__" = true
  kC : PySem.W.keepIn K (.ref C) = true
  bC : PySem.W.subIn K (.ref C) (.type "BaseException") = some true
  tC : PySem.W.typeIn K (.ref C) = some (.type "type")
/-- what an except clause asks of the class that it names -/
structure ExcH (K : PySem.W.Frag) (mg : Str → Option Value) (x : Str) (C : Addr) : Prop where
  u : ExcT K mg x C
  dict : PySem.W.hasDictIn K C = true
  self : PySem.W.subIn K (.ref C) (.ref C) = some true
theorem ExcH.hit {K : PySem.W.Frag} {mg : Str → Option Value} {x : Str} {C : Addr} (U : ExcH K mg x C) : PySem.W.exmOne K (.ref C) (.ref C) = some true := PySem.W.exm_ref U.u.bC U.dict U.u.tC U.self
end G
namespace G
open PySem PySem.Spec PyProof.Rows L2 Evl
/-! ## methods of built-in types within a suite: the written part by its letter -/
theorem kBm {X : Cx} {K : PySem.W.Frag} {T name id : String} {r : V → List V → Hp → VK → Prop} {o e : Expr} {es : List Expr} {to_ : TE} {t : TA} {apos cpos : Pos} (h : X.K = K) (p1 : PlainAttrs T) (p2 : Slot T name id) (p3 : typeOf (.builtin id) = pure (.type "method_descriptor")) (p4 : MtR X id r) (p5 : PE X o to_) (p6 : PA X (e :: es) t)
    (p7 : attributeBase o name X.env (eval o X.env) = eval o X.env := by rfl) (p8 : ((backTo cpos (starEach (e :: es) X.env)).all (fun x => !x.1) && (backToKw cpos (keywordEach [] X.env)).all (fun x => x.1.isSome) && decide ((e :: es).length + ([] : List Keyword).length + (if ([] : List Keyword).isEmpty then 0 else 1) < 30)) = true := by rfl)
    (p9 : (apos.endLine == cpos.line) = true := by rfl) (p10 : starEach (e :: es) X.env = (false, eval e X.env) :: starEach es X.env := by rfl) (p11 : (backTo cpos (starEach es X.env)).any (·.1) = false := by rfl) : PE X (.Call (.Attribute o name apos) (e :: es) [] cpos) (tBM K T r to_ t) := by
  subst h
  exact pe_bm p1 p2 p3 p4 p5 p6 p7 p8 p9 p10 p11
theorem kMtIndex {X : Cx} {K : PySem.W.Frag} (h : X.K = K) : MtR X "list.index" (rIndex K) := by subst h; exact mt_index
end G
namespace G
open PySem PySem.Spec PyProof.Rows L2 Evl
/-! ## own errors: caught by name or by a class above, asked for their class -/
structure ExcI (K : PySem.W.Frag) (mg : Str → Option Value) (x : Str) (C : Addr) : Prop where
  u : ExcT K mg x C
  dict : PySem.W.hasDictIn K C = true
  self : PySem.W.subIn K (.ref C) (.ref C) = some true
  isc : ExcC K C
def IsK (K : PySem.W.Frag) (mg : Str → Option Value) (C : Addr) (d : Str) (b : Bool) : Prop := ∃ D : Addr, mg d = some (.ref D) ∧ PySem.W.kitOne K (.ref C) (.ref D) = some b
def CatchK (K : PySem.W.Frag) (mg : Str → Option Value) (C : Addr) (s : Str) : Prop := ∃ D : Addr, mg s = some (.ref D) ∧ PySem.W.exmOne K (.ref C) (.ref D) = some true
theorem ExcI.hit {K : PySem.W.Frag} {mg : Str → Option Value} {x : Str} {C : Addr} (U : ExcI K mg x C) : PySem.W.exmOne K (.ref C) (.ref C) = some true := PySem.W.exm_ref U.u.bC U.dict U.u.tC U.self
theorem IsK.at_ {K : PySem.W.Frag} {mg : Str → Option Value} {C D : Addr} {d : Str} {b : Bool} (h : IsK K mg C d b) (g : mg d = some (.ref D)) : PySem.W.kitOne K (.ref C) (.ref D) = some b := by
  obtain ⟨D', g', k⟩ := h
  rw [g] at g'
  cases g'; exact k
theorem CatchK.at_ {K : PySem.W.Frag} {mg : Str → Option Value} {C D : Addr} {s : Str} (h : CatchK K mg C s) (g : mg s = some (.ref D)) : PySem.W.exmOne K (.ref C) (.ref D) = some true := by
  obtain ⟨D', g', k⟩ := h
  rw [g] at g'
  cases g'; exact k
theorem pe_ex {X : Cx} {e : Expr} {α : Type} {p : α → Prop} {t : α → TE} (h : ∀ x, p x → PE X e (t x)) : PE X e (fun σ H Q => ∃ x, p x ∧ t x σ H Q) := by
  refine ⟨fun ps s σ H Q I z => ?_⟩
  obtain ⟨x, px, hx⟩ := z
  exact (h x px).run ps s σ H Q I hx
/-- isinstance of the error that the suite holds: whichever own error it is -/
theorem pe_isE {X : Cx} {a : Addr} {oe : Obj} {pn : List (Addr × Obj)} {cls : Value} {dd : Option Addr} {e : Expr} {t : Addr → TE} (hz : Zc cls dd oe) (hf : ∃ vs, oe.data = .fields vs)
    (h : ∀ D : Addr, Zc (.ref D) none oe → ExcC X.K D → PE (X.suite a ((a, oe) :: pn)) e (t D)) : PE (X.suite a ((a, oe) :: pn)) e (fun σ H Q => ∃ D : Addr, (cls = .ref D ∧ dd = none ∧ ExcC X.K D) ∧ t D σ H Q) :=
  pe_ex (p := fun D => cls = .ref D ∧ dd = none ∧ ExcC X.K D) fun D z => by
    obtain ⟨rfl, rfl, ic⟩ := z
    exact h D hz ic
/-! ## methods and classes called where what is raised is taken at the slots -/
section
variable {X : Cx} {CX : CXT} {k : Nat} {f C : Addr} {fd : FuncData} {ps : List Str} {sp : Sp} {dvs : List V} {ds : List Value} {E : L2.St → XK} {x m : Str} {p pos apos : Pos} {e o : Expr} {es : List Expr} {to_ : TE} {t : TA}
def tMethX (C : Addr) (m : Str) (sp : Sp) (dvs : List V) (E : L2.St → XK) (to_ : TE) (t : TA) : TE := fun σ H Q => to_ σ H fun x H1 => ∃ a dx fs, x = .ref a ∧ H1 a = some (.ins C dx fs) ∧ fs.lookup m = none ∧ t σ H1 fun vs H2 => sp (x :: (vs ++ dvs)) H2 Q (E σ)
def tMakeX (C : Addr) (sp : Sp) (dvs : List V) (E : L2.St → XK) (t : TA) : TE := fun σ H Q => t σ H fun vs H1 => ∀ x dx, H1 x = none → H1 dx = none → dx ≠ x → sp (.ref x :: (vs ++ dvs)) (upd (upd H1 dx (.own x)) x (.ins C dx [])) (fun v H2 => v = .non ∧ Q (.ref x) H2) (E σ)
theorem pe_methX {pl : Sem Bool} (ho : PE X o to_) (cc : Cls X.K C) (mm : Meth X.K C m f) (Fk : FnOk X.prog X.w X.K X.mg X.base CX k f fd ps sp) (rm : Room k X.A) (bd : Binds X.K fd ps ds) (dv : Vals dvs ds)
    (px : ∀ σ, PassesAt CX X σ (E σ)) (pa : PA X (e :: es) t) (s1 : starEach (e :: es) X.env = (false, eval e X.env) :: starEach es X.env := by rfl) (s2 : (backTo pos (starEach es X.env)).any (·.1) = false := by rfl)
    (s3 : eval (.Call (.Attribute o m apos) (e :: es) [] pos) X.env = (do let ov ← eval o X.env; standAt apos.atName; let (f, first) ← holding [ov] (getMethod ov m pl); callWith pos f first (backTo pos (starEach (e :: es) X.env)) (backToKw pos (keywordEach [] X.env))) := by rfl) :
    PE X (.Call (.Attribute o m apos) (e :: es) [] pos) (tMethX C m sp dvs E to_ t) := by
  refine ⟨fun pins st σ H Q I z => PySem.W.methodCall_KW (pl := pl) (thn (ho.run pins st σ H _ I z) fun q0 st1 ⟨y, H1, I1, ry, b, dx, fl, ey, eb, lk, z1⟩ => ?_) s3⟩
  subst ey
  cases (show q0 = Value.ref b from ry)
  exact getmeth_ok I1 eb cc mm lk (PySem.W.callWith_K (first := [.ref b]) (h₀ := X.base) I.ok.mod.kin mm.kp (thn (pa.run pos pins st1 σ H1 _ I1 z1) fun ws st2 ⟨vs, H2, I2, rs, z2⟩ => ⟨I2.kIn, run_fnSD (us := .ref b :: ws) (vs := .ref b :: vs) Fk rm bd dv (px σ) I2 (.cons rfl rs) z2⟩) s1 s2)
theorem run_makeX {pins : List (Addr × Obj)} {σ : L2.St} {H : Hp} {st : Shared} {Q : VK} {us : List Value} {vs : List V} (M : Mk X.K C f) (Fk : FnOk X.prog X.w X.K X.mg X.base CX k f fd ps sp) (rm : Room (k + 1) X.A) (bd : Binds X.K fd ps ds) (dv : Vals dvs ds)
    (px : PassesAt CX X σ (E σ)) (I : Inv X pins σ H st) (rs : Vals vs us)
    (z : ∀ x dx, H x = none → H dx = none → dx ≠ x → sp (.ref x :: (vs ++ dvs)) (upd (upd H dx (.own x)) x (.ins C dx [])) (fun v H2 => v = .non ∧ Q (.ref x) H2) (E σ)) :
    wpAny (model X.prog X.w) X.A (call (.ref C) us) (EP X pins σ Q) X.xe st := by
  have z1 := z (st.heap.objs.size + 1) st.heap.objs.size (I.hok.fresh (Nat.le_succ _)) (I.hok.fresh (Nat.le_refl _)) (Nat.ne_of_lt (Nat.lt_succ_self _))
  have J := Inv.made (C := C) I
  have rr : Vals (V.ref (st.heap.objs.size + 1) :: (vs ++ dvs)) (Value.ref (st.heap.objs.size + 1) :: (us ++ ds)) := .cons rfl (rs.append dv)
  have len : (Value.ref (st.heap.objs.size + 1) :: us ++ ds).length = ps.length := (rr.length.symm.trans (Fk.len _ _ _ _ z1))
  refine wpAny_call (make_map (f := f) I.kIn M.makes M.init (beq_iff_eq.mp M.fn) (codeAny_mono (Fk.run _ X.stack _ _ ⟨Value.ref (st.heap.objs.size + 1) :: us, []⟩ (Value.ref (st.heap.objs.size + 1) :: (us ++ ds)) _ _ (E σ) (rm.make C us []) (J.env0.make C us []) (bd _ (Value.ref (st.heap.objs.size + 1) :: us) J.kIn len) rr z1) fun r st' h => ?_))
  match r, h with
  | .error er, h => exact px pins _ _ er st' J h
  | .ok (.ret u), h =>
    obtain ⟨v, H', I3, rv, ev, q3⟩ := J.after h
    subst ev
    exact ⟨rv, ⟨V.ref (st.heap.objs.size + 1), H', I3, rfl, q3⟩⟩
  | .ok .next, h => exact h.elim
  | .ok .brk, h => exact h.elim
  | .ok .cont, h => exact h.elim
theorem pe_makeX (M : Mk X.K C f) (Fk : FnOk X.prog X.w X.K X.mg X.base CX k f fd ps sp) (rm : Room (k + 1) X.A) (gl : Gl X x) (gm : X.mg x = some (.ref C)) (bd : Binds X.K fd ps ds) (dv : Vals dvs ds) (px : ∀ σ, PassesAt CX X σ (E σ)) (pa : PA X (e :: es) t)
    (s0 : (x == ("__debug__" : Str)) = false := by decide) (s1 : starEach (e :: es) X.env = (false, eval e X.env) :: starEach es X.env := by rfl) (s2 : (backTo pos (starEach es X.env)).any (·.1) = false := by rfl) : PE X (.Call (.Name x p) (e :: es) [] pos) (tMakeX C sp dvs E t) :=
  ⟨fun pins st σ H Q I z => wpAny_Call_Name_kw (ld_glob I gl gm (PySem.W.callWith_K (h₀ := X.base) I.ok.mod.kin M.kp (thn (pa.run pos pins st σ H _ I z) fun us st1 ⟨vs, H1, I1, r, q⟩ => ⟨I1.kIn, run_makeX M Fk rm bd dv (px σ) I1 r q⟩) s1 s2) s0)⟩
end
end G
namespace G
open PySem PySem.Spec PyProof.Rows L2
/-! ## isinstance(e, (A, B)) of the error that a suite holds -/
theorem vals_of_refs : ∀ {bs : List Addr} {us : List Value}, Vals (bs.map V.ref) us → us = bs.map Value.ref
  | [], _, r => by cases r; rfl
  | b :: bs, _, r => by
    cases r with
    | cons h t =>
      rw [List.map_cons, ← vals_of_refs t]
      cases h
      rfl
def rIsET (K : PySem.W.Frag) (D a : Addr) : List V → Hp → VK → Prop := fun xs H Q => ∃ (tp : Addr) (cs : List Addr) (b : Bool), xs = [.ref a, .ref tp] ∧ SqT K H tp (cs.map V.ref) ∧ PySem.W.kitAny K (.ref D) (cs.map Value.ref) = some b ∧ Q (.bl b) H
theorem call_isET {X : Cx} {a D : Addr} {oe : Obj} {pn : List (Addr × Obj)} (C : ExcC X.K D) (hz : Zc (.ref D) none oe) (hf : ∃ vs, oe.data = .fields vs) : CallR (X.suite a ((a, oe) :: pn)) (.builtin "isinstance") (rIsET X.K D a) := by
  intro pins s σ H xs us Q I r h
  obtain ⟨tp, cs, b, rfl, hq, e, q⟩ := h
  obtain rfl : us = [.ref a, .ref tp] := vals_of_refs (bs := [a, tp]) r
  obtain ⟨hget, _⟩ := I.pin (a, oe) (List.mem_append.mpr (.inl List.mem_cons_self))
  obtain ⟨its, rv, ⟨⟨oc, od, oda, osl⟩, ho, hcl, n, hdt⟩, _⟩ := I.tuple hq
  obtain rfl := vals_of_refs rv
  dsimp only at hcl hdt
  subst hcl hdt
  obtain ⟨vs, hv⟩ := hf
  have J : PySem.W.InstAt s.heap a oe D none := by
    obtain ⟨oc, od, oda, osl⟩ := oe
    obtain ⟨h1, h2⟩ := hz
    dsimp only at h1 h2 hv
    subst h1 h2 hv
    exact ⟨hget, rfl, rfl, trivial⟩
  exact PySem.W.kia_tup (PySem.W.handS_kitx_exc C.hg C.hk C.hs C.hd C.ha C.hn C.ht C.hm) I.kIn J ho e (fun z => nomatch z) fun tk => ⟨.bl b, H, I.kept (t' := tk) fun _ _ z => z, rfl, q⟩
end G
namespace G
open PySem PySem.Spec PyProof.Rows L2 Evl TL
/-! ## words -/
theorem iteY {b : Bool} {A B : Prop} (h : b = true) (a : A) : if b = true then A else B := by rw [if_pos h]; exact a
theorem iteN {b : Bool} {A B : Prop} (h : b = false) (a : B) : if b = true then A else B := by rw [if_neg (by rw [h]; decide)]; exact a
def sLET : Str := "abcdefghijklmnopqrstuvwxyz"
def sDIG : Str := "0123456789"
def sRUN : Str := "abcdefghijklmnopqrstuvwxyz0123456789_"
def kwds : List Str := ["cell", "pin", "module", "gate", "part", "reg", "edge", "out", "setup", "hold", "start"]
def isRun (c : Nat) : Bool := decide (c ∈ tl sRUN)
def isWord (T : List Nat) : Bool := match T with
  | [] => false
  | c :: _ => decide (c ∈ tl sLET) && T.all isRun
theorem let_run : ∀ c ∈ tl sLET, isRun c = true := by decide +kernel
theorem inV_strs {k : Str} {l : List Str} : inV (.str k) (l.map V.str) = decide (k ∈ l) := by
  unfold inV
  rw [List.any_map, Bool.eq_iff_iff, List.any_eq_true, decide_eq_true_iff]
  constructor
  · rintro ⟨y, hy, h⟩
    have h' : (y == k) = true := h
    rw [← eq_of_beq h']; exact hy
  · intro h
    exact ⟨k, h, (beq_self_eq_true k : (k == k) = true)⟩
theorem kw_more : ∀ k ∈ kwds, k ++ "_" ∉ kwds ∧ isWord (tl (k ++ "_")) = true ∧ (tl (k ++ "_")).length ≤ 20 := by decide +kernel
structure TxtRW (mg : Str → Option Value) : Prop where
  all : mg "all" = none
  LETTERS : ∃ t, mg "LETTERS" = some (.str sLET t)
  RUN : ∃ t, mg "RUN_CHARACTERS" = some (.str sRUN t)
section
variable {P : Program} {w : World} {K : PySem.W.Frag} {mg : Str → Option Value} {base : Heap}
def spIsWord : Sp := fun vs H Q _ => ∃ T : List Nat, vs = [.str (mk T)] ∧ T ≠ [] ∧ T.length ≤ 50000 ∧ ∀ H', Ex H H' → Q (.bl (isWord T)) H'
theorem all_bl {l : List Nat} {g : Nat → Bool} : (l.map fun c => V.bl (g c)) = (l.map g).map V.bl := by rw [List.map_map]; rfl
theorem sc_is_word : FnScope ["token", "character"] ["token"] (defScope s_is_word) := ⟨rfl, rfl, rfl, by decide +kernel, rfl, by decide +kernel, by decide +kernel⟩
theorem ok_is_word (D : Dfd K mg "is_word" s_is_word ["token"]) (T : TxtRW mg) : Has P w K mg base 1 "is_word" ["token"] spIsWord := by
  obtain ⟨tL, g_LETTERS⟩ := T.LETTERS
  obtain ⟨tR, g_RUN_CHARACTERS⟩ := T.RUN
  refine D.has fun f fd F => F.ok sc_is_word (fun vs H Q E h => ?_) (fun cdv A outer s H vs Q E hr h => ?_)
  · obtain ⟨T, rfl, _⟩ := h
    rfl
  · obtain ⟨T, rfl, hne, hlen, q⟩ := h
    obtain ⟨c, r, rfl⟩ := List.exists_cons_of_ne_nil hne
    have hs : (mk (c :: r)).length ≤ sizeLine := by rw [mk_len]; exact sz_of (by omega)
    refine ⟨_, (pss_one (ps_ret (pe_and (pe_cmpR op_in_sign (pe_ix ix_str (pv 0) pe_int (fun _ _ => rfl)) (gStr rfl g_LETTERS) rfl) (pe_one (pe_callB (cr_all rfl) (by rfl) T.all (by decide +kernel) (pa_cons (pe_lc (own := [("character", 1)]) (g := gName 1) (tt := tYes) rfl sc_is_word.nd (pi_str (pv 0)) (blkOk_by (N := ["token", "character"]) (sc := defScope s_is_word) (own := [("character", 1)]) (by decide +kernel)) (fun _ _ _ _ _ => (pg_name (i := 1) sc_is_word.nd rfl (.inl rfl))) (fun _ _ _ _ _ => pts_nil) (fun _ _ _ _ _ => (pe_cmpR op_in_sign (pv 1) (gStr rfl g_RUN_CHARACTERS) rfl))) pa_nil)))))), ?_⟩
    refine ⟨_, rfl, _, _, c, rfl, rfl, hs, atI_nat (j := 0) rfl, c, sLET, rfl, rfl, _, rfl, ?_⟩
    have key : isWord (c :: r) = (decide (c ∈ tl sLET) && (c :: r).all isRun) := rfl
    cases hc : decide (c ∈ tl sLET) with
    | false =>
      refine iteF ?_
      rw [hc] at key
      have := q H (Ex.refl H)
      rw [key] at this
      exact this
    | true =>
      refine iteT ⟨_, rfl, _, rfl, fun L nL => lcSm (fun d => .bl (isRun d)) (by rw [mk_len]; omega) (fun _ => rfl) (fun i d H1 _ _ Q q => ⟨_, rfl, d, sRUN, rfl, rfl, q⟩) ?_⟩
      refine ⟨L, ((tl (mk (c :: r))).map isRun), rfl, SqL.of ?_, ?_⟩
      · rw [upd_same, all_bl]
      · rw [hc] at key
        have := q _ (Ex.new (o := .lst ((tl (mk (c :: r))).map fun d => V.bl (isRun d))) nL)
        rw [key, Bool.true_and] at this
        have e : ((tl (mk (c :: r))).map isRun).all id = (c :: r).all isRun := by rw [List.all_map]; rfl
        rw [e]
        exact this
/-- a name -/
def spWord : Sp := fun vs H Q _ => ∃ (p a : Addr), vs = [.ref p] ∧ PoolOk p a H ∧ ∀ (T : List Nat) (H' : Hp), isWord T = true → mk T ∉ kwds → T.length ≤ 20 → Px p a H H' → Q (.str (mk T)) H'
theorem item_of {L : List Nat} {v : Nat} (h : v < L.length) : ∃ c, L[v]? = some c ∧ c ∈ L := ⟨L[v], List.getElem?_eq_getElem h, List.getElem_mem h⟩
theorem sc_law_word : FnScope ["pool", "heads", "rest", "word", "k"] ["pool"] (defScope s_law_word) := ⟨rfl, rfl, rfl, by decide +kernel, rfl, by decide +kernel, by decide +kernel⟩
theorem ok_law_word (D : Dfd K mg "_law_word" s_law_word ["pool"]) (T : TxtS mg) (C : Has P w K mg base 2 "_law_draw" ["pool", "many"] spDrawX) : Has P w K mg base 3 "_law_word" ["pool"] spWord := by
  obtain ⟨f_law_draw, d_law_draw, G_law_draw, g_law_draw, k_law_draw, b_law_draw⟩ := C
  refine D.has fun f fd F => F.ok sc_law_word (fun vs H Q E h => ?_) (fun cdv A outer s H vs Q E hr h => ?_)
  · obtain ⟨_, _, rfl, _⟩ := h
    rfl
  · obtain ⟨p, a, rfl, hp, q⟩ := h
    refine ⟨_, (pss_cons (ps_set (i := 1) sc_law_word.nd rfl (.inl rfl) pe_str)
    (pss_cons (ps_set (i := 2) sc_law_word.nd rfl (.inl rfl) pe_str)
    (pss_cons (ps_set (i := 3) sc_law_word.nd rfl (.inl rfl) (pe_ix ix_str (pv 1) (pe_call G_law_draw (hr.mono (by omega)) (by rfl) g_law_draw k_law_draw b_law_draw .nil pass0 (pa_cons (pv 0) (pa_cons pe_int pa_nil))) (fun _ _ => rfl)))
    (pss_cons (ps_for PassesOwn.never rfl (pi_range1 rfl T.range (pa_cons (pe_ix ix_list (pe_lst (pa_cons pe_int (pa_cons pe_int (pa_cons pe_int (pa_cons pe_int (pa_cons pe_int (pa_cons pe_int (pa_cons pe_int (pa_cons pe_int pa_nil))))))))) (pe_call G_law_draw (hr.mono (by omega)) (by rfl) g_law_draw k_law_draw b_law_draw .nil pass0 (pa_cons (pv 0) (pa_cons pe_int pa_nil))) (fun _ _ => rfl)) pa_nil)) (pg_name (i := 4) sc_law_word.nd rfl (.inl rfl))
      (pss_one (ps_set (i := 3) sc_law_word.nd rfl (.inl rfl) (pe_op op_add_str (pv 3) (pe_ix ix_str (pv 2) (pe_call G_law_draw (hr.mono (by omega)) (by rfl) g_law_draw k_law_draw b_law_draw .nil pass0 (pa_cons (pv 0) (pa_cons pe_int pa_nil))) (fun _ _ => rfl))))))
    (pss_cons (ps_if (pt_cmpR op_in_seq (pv 3) (pe_lst (pa_cons pe_str (pa_cons pe_str (pa_cons pe_str (pa_cons pe_str (pa_cons pe_str (pa_cons pe_str (pa_cons pe_str (pa_cons pe_str (pa_cons pe_str (pa_cons pe_str (pa_cons pe_str pa_nil)))))))))))) (by rfl))
      (pss_one (ps_set (i := 3) sc_law_word.nd rfl (.inl rfl) (pe_op op_add_str (pv 3) pe_str)))
      pss_nil)
    (pss_one (ps_ret (pv 3)))))))), ?_⟩
    have l26 : (tl sLET).length = 26 := by decide +kernel
    have l37 : (tl sRUN).length = 37 := by decide +kernel
    refine ⟨_, rfl, _, rfl, p, a, 26, rfl, by decide, by decide, hp, fun v H1 hv X1 _ => ?_⟩
    obtain ⟨c, hc, hm⟩ := item_of (L := tl sLET) (v := v) (by rw [l26]; omega)
    refine ⟨sLET, _, c, rfl, rfl, by decide, atI_nat hc, ?_⟩
    refine ⟨(by show 8 ≤ sizeLine; decide), fun l nl => ⟨_, rfl, p, a, 8, rfl, by decide, by decide, (X1.new nl).pool, fun v2 H2 hv2 X2 k2 => ?_⟩⟩
    have hl2 : H2 l = some (.lst [.int 0, .int 0, .int 1, .int 1, .int 2, .int 3, .int 5, .int 12]) := by rw [k2 _ (X1.pool.ne nl)]; exact upd_same
    have hit : ∃ n : Nat, ([.int 0, .int 0, .int 1, .int 1, .int 2, .int 3, .int 5, .int 12] : List V)[v2]? = some (.int (n : Int)) ∧ n ≤ 12 := by
      have h8 : v2 < 8 := by omega
      match v2, h8 with
      | 0, _ => exact ⟨0, rfl, by decide⟩
      | 1, _ => exact ⟨0, rfl, by decide⟩
      | 2, _ => exact ⟨1, rfl, by decide⟩
      | 3, _ => exact ⟨1, rfl, by decide⟩
      | 4, _ => exact ⟨2, rfl, by decide⟩
      | 5, _ => exact ⟨3, rfl, by decide⟩
      | 6, _ => exact ⟨5, rfl, by decide⟩
      | 7, _ => exact ⟨12, rfl, by decide⟩
      | n + 8, h => omega
    obtain ⟨n, hn, hn12⟩ := hit
    have X3 := (X1.new nl).trans X2
    refine ⟨_, _, _, _, rfl, rfl, SqL.of hl2, atI_nat hn, _, rfl, by omega, by omega, for_range (n := ((n : Nat) : Int).toNat)
      (fun i σ H' => Px p a H H' ∧ ∃ (W : List Nat) (z : Option V), isWord W = true ∧ W.length = i + 1 ∧ σ = [some (.ref p), some (.str sLET), some (.str sRUN), some (.str (mk W)), z]) ⟨X3, [c], _, ?_, rfl, rfl⟩ ?_ ?_⟩
    · show (decide (c ∈ tl sLET) && [c].all isRun) = true
      rw [decide_eq_true hm, List.all_cons, let_run c hm]; rfl
    · rintro i σ H3 hi ⟨X4, W, z, hW, hWl, rfl⟩
      refine ⟨_, rfl, _, rfl, _, rfl, p, a, 37, rfl, by decide, by decide, X4.pool, fun v3 H4 hv3 X5 _ => ?_⟩
      obtain ⟨d, hd, hdm⟩ := item_of (L := tl sRUN) (v := v3) (by rw [l37]; omega)
      refine ⟨sRUN, _, d, rfl, rfl, by decide, atI_nat hd, _, _, rfl, rfl, ?_, X4.trans X5, W ++ [d], some (.int (0 + (i : Int))), ?_, by rw [List.length_append, hWl]; rfl, ?_⟩
      · rw [mk_len]
        show _ + 1 ≤ sizeLine
        exact sz_of (by omega)
      · cases W with
        | nil => cases hW
        | cons c' r' =>
          have h' : (decide (c' ∈ tl sLET) && (c' :: r').all isRun) = true := hW
          rw [Bool.and_eq_true] at h'
          show (decide (c' ∈ tl sLET) && (c' :: r' ++ [d]).all isRun) = true
          rw [h'.1, List.all_append, h'.2]
          show (true && (true && (isRun d && true))) = true
          rw [show isRun d = true from decide_eq_true hdm]; rfl
      · rw [mk_one, mk_app]; rfl
    · rintro σ H3 ⟨X4, W, z, hW, hWl, rfl⟩
      have hWl' : W.length ≤ 13 := by omega
      refine ⟨_, rfl, (by show 11 ≤ sizeLine; decide), fun l2 nl2 => ⟨l2, kwds.map V.str, rfl, .inl (SqL.of upd_same), rfl, flat_map (fun _ => rfl) _, _, rfl, ?_⟩⟩
      show if (if false = true then !inV (.str (mk W)) (kwds.map V.str) else inV (.str (mk W)) (kwds.map V.str)) = true then _ else _
      rw [if_neg Bool.false_ne_true, inV_strs]
      by_cases hk : mk W ∈ kwds
      · rw [decide_eq_true hk]
        refine iteT ⟨_, rfl, _, _, rfl, rfl, ?_, _, rfl, ?_⟩
        · rw [mk_len]
          show W.length + 1 ≤ sizeLine
          exact sz_of (by omega)
        · obtain ⟨h1, h2, h4⟩ := kw_more _ hk
          have e : mk W ++ ("_" : Str) = mk (W ++ [95]) := mk_app W [95]
          rw [e] at h1 h2 h4
          show Q (.str (mk W ++ ("_" : Str))) _
          rw [e]
          exact q _ _ h2 h1 h4 (X4.new nl2)
      · rw [decide_eq_false hk]
        exact iteF ⟨_, rfl, q _ _ hW hk (by omega) (X4.new nl2)⟩

end
end G
namespace G
open PySem PySem.Spec PyProof.Rows L2 Evl TL
structure TxtR1 (mg : Str → Option Value) : Prop where
  len : mg "len" = none
  any : mg "any" = none
  int : mg "int" = none
  str : mg "str" = none
  tuple : mg "tuple" = none
  DIG : ∃ t, mg "DIGITS" = some (.str "0123456789" t)
  MOST : ∃ t, mg "MOST_DIGITS" = some (.int 60 t)
theorem ends_snoc (l : List Nat) (c : Nat) : Txt.endswith (mk (l ++ [c])) (mk [c]) = true := by
  show (decide (0 + (mk [c]).length ≤ (mk (l ++ [c])).length) && PySem.Builtin.Str.subAt (mk (l ++ [c])) (mk [c]) ((mk (l ++ [c])).length - (mk [c]).length)) = true
  rw [PySem.StrLaws.subAt_eq]
  show (_ && (((tl (mk (l ++ [c]))).drop _).take _ == tl (mk [c]))) = true
  rw [tl_mkS, tl_mkS, mk_len, mk_len, List.length_append]
  show (decide (0 + 1 ≤ l.length + 1) && (((l ++ [c]).drop (l.length + 1 - 1)).take 1 == [c])) = true
  rw [Nat.add_sub_cancel, List.drop_left, decide_eq_true (by omega)]
  simp
theorem cut_snoc (l : List Nat) (c : Nat) : cutS (mk (l ++ [c])) none (some (-1)) = mk l := by
  unfold cutS
  refine ext_tl ?_
  rw [HT.sIx_none]
  have e : HT.sIx (mk (l ++ [c])).length (mk (l ++ [c])).length (some (-1)) = l.length := by
    show (if (-1 : Int) < 0 then ((-1 : Int) + ((mk (l ++ [c])).length : Int)).toNat else min (-1 : Int).toNat (mk (l ++ [c])).length) = _
    rw [if_pos (by decide), mk_len, List.length_append]
    show ((-1 : Int) + ((l.length + 1 : Nat) : Int)).toNat = _
    omega
  rw [e]
  show (((tl (mk (l ++ [c]))).drop 0).take (l.length - 0)) = l
  rw [tl_mkS, List.drop_zero, Nat.sub_zero, List.take_left]
theorem few_log {i : Int} (h : Few i) : i.natAbs.log2 < 1920 := by
  unfold Few at h
  have h1 : i.natAbs < 2 ^ 200 := Nat.lt_of_lt_of_le h (by decide)
  have := PySem.Flt.log2_lt_of (by decide : 0 < 200) h1
  omega
end G
namespace G
open PySem PySem.Spec PyProof.Rows L2 Evl TL
/-! ## texts that are joined -/
def strV (ts : List (List Nat)) : List V := ts.map fun T => V.str (mk T)
theorem str_len_app (a b : Str) : (a ++ b).length = a.length + b.length := by rw [len_tl, tl_append, List.length_append, ← len_tl, ← len_tl]
theorem l_from : ("from " : Str).length = 5 := by decide +kernel
theorem l_to : (" to " : Str).length = 4 := by decide +kernel
theorem l_emp : (Str.empty).length = 0 := rfl
theorem l_x : ("x" : Str).length = 1 := by decide +kernel
theorem sum_len {m : Nat} : ∀ l : List (List Nat), (∀ p ∈ l, p.length ≤ m) → ((l.map mk).map (·.length)).sum ≤ l.length * m
  | [], _ => Nat.zero_le _
  | x :: l, h => by
    have h1 := h x List.mem_cons_self
    have h2 := sum_len l fun p hp => h p (List.mem_cons_of_mem _ hp)
    rw [List.map_cons, List.map_cons, List.sum_cons, List.length_cons, Nat.succ_mul]
    have : (mk x).length = x.length := mk_len x
    omega
theorem join_mk (s x : List Nat) (xs : List (List Nat)) : Txt.join (mk s) ((x :: xs).map mk) = mk (joinL s (x :: xs)) := by
  rw [join_eq]
  refine ext_tl ?_
  rw [tl_join, tl_mkS, tl_mkS, List.map_map]
  show joinL s ((x :: xs).map id) = _
  rw [List.map_id]
theorem joinL_nil : ∀ (x : List Nat) (xs : List (List Nat)), joinL [] (x :: xs) = (x :: xs).flatten
  | x, [] => by show x = x ++ []; simp
  | x, y :: ys => by show x ++ ([] ++ joinL [] (y :: ys)) = x ++ (y :: ys).flatten; rw [joinL_nil y ys]; rfl
/-- what a name is -/
def NameL (n : List Nat) : Prop := ∃ (x : List Nat) (xs : List (List Nat)), n = joinL [47] (x :: xs) ∧ xs.length ≤ 2 ∧ ∀ p ∈ x :: xs, isWord p = true ∧ p.length ≤ 20
theorem word_free {T : List Nat} (h : isWord T = true) {s : Nat} (hs : isRun s = false) : s ∉ T := fun hm => by
  cases T with
  | nil => cases h
  | cons c r =>
    have h' : (decide (c ∈ tl sLET) && (c :: r).all isRun) = true := h
    rw [Bool.and_eq_true, List.all_eq_true] at h'
    rw [h'.2 s hm] at hs; cases hs
theorem joinL_mem (s : List Nat) : ∀ (x : List Nat) (xs : List (List Nat)) (c : Nat), c ∈ joinL s (x :: xs) → (∃ p ∈ x :: xs, c ∈ p) ∨ c ∈ s
  | x, [], c, h => .inl ⟨x, List.mem_cons_self, h⟩
  | x, y :: ys, c, h => by
    have h : c ∈ x ++ (s ++ joinL s (y :: ys)) := h
    rcases List.mem_append.mp h with z | z
    · exact .inl ⟨x, List.mem_cons_self, z⟩
    · rcases List.mem_append.mp z with z | z
      · exact .inr z
      · rcases joinL_mem s y ys c z with ⟨p, hp, hc⟩ | z
        · exact .inl ⟨p, List.mem_cons_of_mem _ hp, hc⟩
        · exact .inr z
theorem joinL_len (s : List Nat) (m : Nat) : ∀ (x : List Nat) (xs : List (List Nat)), (∀ p ∈ x :: xs, p.length ≤ m) → (joinL s (x :: xs)).length ≤ m + xs.length * (m + s.length)
  | x, [], h => by
    have := h x List.mem_cons_self
    show x.length ≤ _
    omega
  | x, y :: ys, h => by
    have h1 := h x List.mem_cons_self
    have h2 := joinL_len s m y ys fun p hp => h p (List.mem_cons_of_mem _ hp)
    show (x ++ (s ++ joinL s (y :: ys))).length ≤ _
    rw [List.length_append, List.length_append, List.length_cons, Nat.succ_mul]
    omega
theorem run_signs : isRun 47 = false ∧ isRun 32 = false ∧ isRun 10 = false := by decide +kernel
theorem name_free {n : List Nat} (h : NameL n) {s : Nat} (hs : isRun s = false) (h47 : s ≠ 47) : s ∉ n := fun hm => by
  obtain ⟨x, xs, rfl, _, hw⟩ := h
  rcases joinL_mem _ _ _ _ hm with ⟨p, hp, hc⟩ | z
  · exact word_free (hw p hp).1 hs hc
  · exact h47 (List.mem_singleton.mp z)
theorem name_len {n : List Nat} (h : NameL n) : n.length ≤ 62 := by
  obtain ⟨x, xs, rfl, hl, hw⟩ := h
  have := joinL_len [47] 20 x xs fun p hp => (hw p hp).2
  have e : ([47] : List Nat).length = 1 := rfl
  rw [e] at this
  have : xs.length * (20 + 1) ≤ 2 * 21 := Nat.mul_le_mul_right _ hl
  omega
end G
namespace G
open PySem PySem.Spec PyProof.Rows L2 Evl TL
/-- draws out of many -/
def spDrawXL : Sp := fun vs H Q _ => ∃ (p a : Addr) (n : Int), vs = [.ref p, .int n] ∧ 0 < n ∧ n ≤ 2 ^ 210 ∧ PoolOk p a H ∧ ∀ (v : Nat) (H' : Hp), (v : Int) < n → Px p a H H' → (∀ b, b ≠ p → H' b = H b) → Q (.int v) H'
theorem log2_smallL {n : Int} (h0 : 0 < n) (h : n ≤ 2 ^ 210) : n.natAbs.log2 < 9000 := by
  have h1 : n.natAbs < 2 ^ 211 := by omega
  have := PySem.Flt.log2_lt_of (by decide : 0 < 211) h1
  omega
section
variable {P : Program} {w : World} {K : PySem.W.Frag} {mg : Str → Option Value} {base : Heap}
theorem drawXL (C : Has P w K mg base 2 "_law_draw" ["pool", "many"] spDraw) : Has P w K mg base 2 "_law_draw" ["pool", "many"] spDrawXL :=
  C.imp fun vs H Q E h => by
    obtain ⟨p, a, n, rfl, h0, h1, hp, q⟩ := h
    refine ⟨p, a, n, rfl, h0, log2_smallL h0 h1, hp, fun v o v0 v1 hq => ?_⟩
    have e : v = ((v.toNat : Nat) : Int) := by omega
    rw [e]
    exact q v.toNat _ (by omega) (Px.draw hp hq) fun b hb => upd_ne hb
end
def TupEx (H H' : Hp) : Prop := ∀ (b : Addr) (xs : List V), H b = some (.tup xs) → H' b = some (.tup xs)
theorem Px.tup {p a : Addr} {H H' : Hp} (X : Px p a H H') : TupEx H H' := fun b xs z => by
  obtain ⟨_, _, _, _, _, e, _⟩ := X.was
  exact X.at_ (by rw [hid_ne (ne_of z e (by intro y; cases y))]; exact z)
end G
namespace G
open PySem PySem.Spec PyProof.Rows L2 Evl TL
/-! ## reports: words, integers, margins, vectors, rows -/
def isName (T : List Nat) : Bool := isWord T && !decide (mk T ∈ kwds)
structure TxtP (K : PySem.W.Frag) (mg : Str → Option Value) : Prop where
  len : mg "len" = none
  any : mg "any" = none
  all : mg "all" = none
  int : mg "int" = none
  str : mg "str" = none
  tuple : mg "tuple" = none
  set : mg "set" = none
  KEY : ∃ a, mg "KEYWORDS" = some (.ref a) ∧ ∀ H, SqT K H a (kwds.map V.str)
/-- a margin's value -/
def mV : Option Int → V
  | none => .non
  | some i => .int i
def FewO : Option Int → Prop
  | none => True
  | some i => Few i
/-- a margin's signs -/
def mL : Option Int → List Nat
  | none => tl ("none" : Str)
  | some i => intL i
theorem mL_none {i : Int} : intL i ≠ tl ("none" : Str) := fun e => by
  have h : (110 : Nat) ∈ intL i := by rw [e]; decide +kernel
  exact intL_free (by decide) h
/-- a vector's signs -/
def bitsL (v : List Bool) : List Nat := if v = [] then [45] else v.map bitL
theorem strOk_mk {l : List Nat} (h : ∀ c ∈ l, c < 200) : PyData.strOk (mk l) = true := by
  show (l.toArray).all (fun c => decide (c < 0x110000)) = true
  rw [Array.all_eq_true_iff_forall_mem]
  intro c hc
  have := h c (by simpa using hc)
  exact decide_eq_true (by omega)
theorem intL_small {i : Int} : ∀ c ∈ intL i, c < 200 := fun c hc => by
  refine Nat.lt_of_not_le fun z => ?_
  exact intL_free (i := i) (s := c) (by omega) hc
theorem bitsL_small {v : List Bool} : ∀ c ∈ bitsL v, c < 200 := fun c hc => by
  unfold bitsL at hc
  split at hc
  · rw [List.mem_singleton.mp hc]; decide
  · obtain ⟨b, _, rfl⟩ := List.mem_map.mp hc
    unfold bitL; split <;> decide
theorem shaped_strsL {xs : List Str} (h : ∀ x ∈ xs, PyData.strOk x = true) : SeqAt.shaped (.list (xs.map PyData.str)) = true := by
  have : PyData.canLayAll0 (xs.map PyData.str) = true ∧ PyData.depthAll (xs.map PyData.str) = 0 := by
    induction xs with
    | nil => exact ⟨rfl, rfl⟩
    | cons x xs ih =>
      obtain ⟨a, b⟩ := ih fun y hy => h y (List.mem_cons_of_mem _ hy)
      exact ⟨by show (PyData.strOk x && PyData.canLayAll0 _) = true; rw [h x (List.mem_cons_self ..), a]; rfl, by show max 0 (PyData.depthAll _) = 0; rw [b]; rfl⟩
  simp [SeqAt.shaped, PyData.canLay0, PyData.depth, this.1, this.2]
theorem dp_strsL {K : PySem.W.Frag} {H : Hp} {a : Addr} {xs : List Str} (h : SqL K H a (xs.map V.str)) : Dp K H (.ref a) (.list (xs.map PyData.str)) := .lst h (dpAll_map (fun x => .str x) xs)
/-- a violation's value -/
def VioAt (H : Hp) : V → Option (Int × List Bool) → Prop
  | v, none => v = .non
  | v, some (i, bs) => ∃ b t, v = .ref b ∧ H b = some (.tup [.int i, .ref t]) ∧ H t = some (.tup (bs.map V.bl))
def VioOk : Option (Int × List Bool) → Prop
  | none => True
  | some (i, bs) => Few i ∧ bs.length ≤ 1000
/-- the words of a violation -/
def vioW : Option (Int × List Bool) → List (List Nat)
  | none => [tl ("ok" : Str)]
  | some (i, bs) => [tl ("loose" : Str), tl ("at" : Str), intL i, tl ("for" : Str), bitsL bs]
theorem vioW_small (o : Option (Int × List Bool)) : ∀ l ∈ vioW o, ∀ c ∈ l, c < 200 := by
  intro l hl
  cases o with
  | none => rw [List.mem_singleton.mp hl]; decide +kernel
  | some ib =>
    obtain ⟨n, bs⟩ := ib
    simp only [vioW, List.mem_cons, List.not_mem_nil, or_false] at hl
    rcases hl with e | e | e | e | e <;> rw [e]
    · decide +kernel
    · decide +kernel
    · exact intL_small
    · decide +kernel
    · exact bitsL_small
theorem dp_str3 {K : PySem.W.Frag} {H : Hp} {a : Addr} {x y z : Str} (h : H a = some (.tup [.str x, .str y, .str z])) : Dp K H (.ref a) (.tuple [.str x, .str y, .str z]) := .tup (SqT.of h) (.cons (.str _) (.cons (.str _) (.cons (.str _) .nil)))
theorem flat_one : ∀ l : List Bool, (l.map fun x => [bitL x]).flatten = l.map bitL
  | [] => rfl
  | x :: l => by rw [List.map_cons, List.flatten_cons, flat_one l]; rfl
/-- the signs of a violation -/
def vioL (o : Option (Int × List Bool)) : List Nat := match o with
  | none => tl ("ok" : Str)
  | some (i, bs) => joinL [32] (vioW (some (i, bs)))
structure RowR where
  name : List Nat
  setup : Option Int
  hold : Option Int
  vio : Option (Int × List Bool)
structure RepR where
  modu : List Nat
  per : Int
  rows : List RowR
def NameK (n : List Nat) : Prop := (∃ (x : List Nat) (xs : List (List Nat)), n = joinL [47] (x :: xs) ∧ xs.length ≤ 2 ∧ ∀ p ∈ x :: xs, isName p = true) ∧ n.length ≤ 100
def RowOkR (sz : Nat) (x : RowR) : Prop := NameK x.name ∧ FewO x.setup ∧ FewO x.hold ∧ ∀ i bs, x.vio = some (i, bs) → Few i ∧ bs.length = sz
def RepR.clean (r : RepR) : Bool := r.rows.all fun x => x.vio.isNone
def rowLR (x : RowR) : List Nat := joinL [32] ([tl ("reg" : Str), x.name, tl ("setup" : Str), mL x.setup, tl ("hold" : Str), mL x.hold] ++ vioW x.vio)
def headR (r : RepR) : List Nat := joinL [32] [tl ("module" : Str), r.modu, tl ("period" : Str), intL r.per]
def verdL (b : Bool) : List Nat := if b then tl ("clean" : Str) else tl ("not clean" : Str)
def RepR.lines (r : RepR) : List (List Nat) := headR r :: (r.rows.map rowLR ++ [verdL r.clean])
def RepR.text (r : RepR) : List Nat := (r.lines.map (· ++ [10])).flatten
structure RepOkR (r : RepR) : Prop where
  modn : isName r.modu = true
  modl : r.modu.length ≤ 20
  one : 1 ≤ r.per
  per : Few r.per
  rows : r.rows.length ≤ 5
  row : ∃ sz, sz ≤ 10 ∧ ∀ x ∈ r.rows, RowOkR sz x
  nodup : (r.rows.map (·.name)).Nodup
def RowAtR (H : Hp) (a : Addr) (x : RowR) : Prop := ∃ v, H a = some (.tup [.str (mk x.name), mV x.setup, mV x.hold, v]) ∧ VioAt H v x.vio
def RepAtR (H : Hp) (a : Addr) (r : RepR) : Prop := ∃ (rt : Addr) (ra : List Addr), H a = some (.tup [.str (mk r.modu), .int r.per, .ref rt]) ∧ H rt = some (.tup (ra.map V.ref)) ∧ All2 (RowAtR H) ra r.rows
theorem VioAt.te {H H' : Hp} {v : V} {o : Option (Int × List Bool)} (h : VioAt H v o) (e : TupEx H H') : VioAt H' v o := by
  cases o with
  | none => exact h
  | some ib =>
    obtain ⟨b, t, rfl, h1, h2⟩ := h
    exact ⟨b, t, rfl, e _ _ h1, e _ _ h2⟩
theorem exTe {H H' : Hp} (e : Ex H H') : TupEx H H' := fun _ _ z => e _ _ z
theorem te_put {H : Hp} {b : Addr} {xs : List V} {o : HO} (hb : H b = some (.lst xs)) : TupEx H (upd H b o) := fun a ys z => by rw [upd_ne (ne_of z hb (by intro y; cases y))]; exact z
theorem TupEx.trans {H H' H'' : Hp} (a : TupEx H H') (b : TupEx H' H'') : TupEx H H'' := fun c xs z => b _ _ (a _ _ z)
theorem RowAtR.te {H H' : Hp} {a : Addr} {x : RowR} (h : RowAtR H a x) (e : TupEx H H') : RowAtR H' a x := by
  obtain ⟨v, h1, h2⟩ := h
  exact ⟨v, e _ _ h1, h2.te e⟩
theorem RowAtR.put {H : Hp} {a b : Addr} {x : RowR} {xs : List V} {o : HO} (h : RowAtR H a x) (hb : H b = some (.lst xs)) : RowAtR (upd H b o) a x := h.te (te_put hb)
theorem RepAtR.te {H H' : Hp} {a : Addr} {r : RepR} (h : RepAtR H a r) (e : TupEx H H') : RepAtR H' a r := by
  obtain ⟨rt, ra, h1, h2, hA⟩ := h
  exact ⟨rt, ra, e _ _ h1, e _ _ h2, hA.imp fun _ _ z => z.te e⟩
theorem vio_is {H : Hp} {v : V} {o : Option (Int × List Bool)} (h : VioAt H v o) : decide (v = .non) = o.isNone := by
  cases o with
  | none => have h : v = .non := h; subst h; rfl
  | some ib => obtain ⟨b, t, rfl, _⟩ := h; rfl
theorem vioL_join (o : Option (Int × List Bool)) : vioL o = joinL [32] (vioW o) := by
  cases o with
  | none => rfl
  | some ib => rfl
theorem vioW_cons (o : Option (Int × List Bool)) : ∃ y ys, vioW o = y :: ys := by
  cases o with
  | none => exact ⟨_, _, rfl⟩
  | some ib => exact ⟨_, _, rfl⟩
theorem bitsL_len {v : List Bool} (h : v.length ≤ 1000) : (bitsL v).length ≤ 1001 := by
  unfold bitsL; split; decide; rw [List.length_map]; omega
theorem vioL_len {o : Option (Int × List Bool)} (h : VioOk o) : (vioL o).length ≤ 6000 := by
  cases o with
  | none => exact (by decide +kernel : (tl ("ok" : Str)).length ≤ 6000)
  | some ib =>
    obtain ⟨i, bs⟩ := ib
    have l1 := few_len h.1
    have l2 := bitsL_len h.2
    have := joinL_len [32] 1001 (tl ("loose" : Str)) [tl ("at" : Str), intL i, tl ("for" : Str), bitsL bs] fun p hp => by
      simp only [List.mem_cons, List.not_mem_nil, or_false] at hp
      rcases hp with z | z | z | z | z <;> rw [z]
      · decide +kernel
      · decide +kernel
      · omega
      · decide +kernel
      · omega
    exact Nat.le_trans this (by show 1001 + 4 * (1001 + 1) ≤ 6000; decide)
theorem joinL_part (s : List Nat) : ∀ (x : List Nat) (xs : List (List Nat)) (p : List Nat), p ∈ x :: xs → p.length ≤ (joinL s (x :: xs)).length
  | x, [], p, h => by rw [List.mem_singleton.mp h]; exact Nat.le_refl _
  | x, y :: ys, p, h => by
    show p.length ≤ (x ++ (s ++ joinL s (y :: ys))).length
    rw [List.length_append, List.length_append]
    rcases List.mem_cons.mp h with z | z
    · rw [z]; omega
    · have := joinL_part s y ys p z; omega
theorem isName_word {p : List Nat} (h : isName p = true) : isWord p = true := by
  unfold isName at h
  rw [Bool.and_eq_true] at h
  exact h.1
theorem isName_ne {p : List Nat} (h : isName p = true) : p ≠ [] := fun z => by rw [z] at h; cases h
theorem nameK_free {n : List Nat} (h : NameK n) {s : Nat} (hs : isRun s = false) (h47 : s ≠ 47) : s ∉ n := fun hm => by
  obtain ⟨⟨x, xs, rfl, _, hw⟩, _⟩ := h
  rcases joinL_mem _ _ _ _ hm with ⟨p, hp, hc⟩ | z
  · exact word_free (isName_word (hw p hp)) hs hc
  · exact h47 (List.mem_singleton.mp z)
theorem mL_len {m : Option Int} (h : FewO m) : (mL m).length ≤ 61 := by
  cases m with
  | none => exact (by decide +kernel : (tl ("none" : Str)).length ≤ 61)
  | some i => exact few_len h
theorem mL_free {m : Option Int} {s : Nat} (hs : s = 32 ∨ s = 10) : s ∉ mL m := by
  cases m with
  | none => rcases hs with rfl | rfl <;> exact (by decide +kernel)
  | some i => rcases hs with rfl | rfl <;> exact intL_free (by decide)
theorem bitsL_free {v : List Bool} {s : Nat} (hs : s = 32 ∨ s = 10) : s ∉ bitsL v := fun hm => by
  unfold bitsL at hm
  split at hm
  · have := List.mem_singleton.mp hm; omega
  · obtain ⟨b, _, h⟩ := List.mem_map.mp hm
    unfold bitL at h
    split at h <;> omega
theorem vioW_free {o : Option (Int × List Bool)} {s : Nat} (hs : s = 32 ∨ s = 10) : ∀ p ∈ vioW o, s ∉ p := fun p hp => by
  cases o with
  | none => rw [List.mem_singleton.mp hp]; rcases hs with rfl | rfl <;> exact (by decide +kernel)
  | some ib =>
    obtain ⟨i, bs⟩ := ib
    simp only [vioW, List.mem_cons, List.not_mem_nil, or_false] at hp
    rcases hp with z | z | z | z | z <;> rw [z]
    · rcases hs with rfl | rfl <;> exact (by decide +kernel)
    · rcases hs with rfl | rfl <;> exact (by decide +kernel)
    · rcases hs with rfl | rfl <;> exact intL_free (by decide)
    · rcases hs with rfl | rfl <;> exact (by decide +kernel)
    · exact bitsL_free hs
/-- the words of a row -/
def rowW (x : RowR) : List (List Nat) := [tl ("reg" : Str), x.name, tl ("setup" : Str), mL x.setup, tl ("hold" : Str), mL x.hold] ++ vioW x.vio
theorem rowW_free {x : RowR} {sz : Nat} (h : RowOkR sz x) {s : Nat} (hs : s = 32 ∨ s = 10) : ∀ p ∈ rowW x, s ∉ p := fun p hp => by
  unfold rowW at hp
  rcases List.mem_append.mp hp with y | y
  · simp only [List.mem_cons, List.not_mem_nil, or_false] at y
    rcases y with z | z | z | z | z | z <;> rw [z]
    · rcases hs with rfl | rfl <;> exact (by decide +kernel)
    · rcases hs with rfl | rfl
      · exact nameK_free h.1 run_signs.2.1 (by decide)
      · exact nameK_free h.1 run_signs.2.2 (by decide)
    · rcases hs with rfl | rfl <;> exact (by decide +kernel)
    · exact mL_free hs
    · rcases hs with rfl | rfl <;> exact (by decide +kernel)
    · exact mL_free hs
  · exact vioW_free hs p y
theorem rowW_len {x : RowR} {sz : Nat} (hsz : sz ≤ 10) (h : RowOkR sz x) : (rowW x).length ≤ 11 ∧ ∀ p ∈ rowW x, p.length ≤ 100 := by
  obtain ⟨hn, h1, h2, h3⟩ := h
  have l1 := mL_len h1
  have l2 := mL_len h2
  have l4 := hn.2
  have key : (vioW x.vio).length ≤ 5 ∧ ∀ p ∈ vioW x.vio, p.length ≤ 100 := by
    cases hx : x.vio with
    | none => exact ⟨by show 1 ≤ 5; decide, fun p hp => by rw [List.mem_singleton.mp hp]; decide +kernel⟩
    | some ib =>
      obtain ⟨i, bs⟩ := ib
      obtain ⟨y1, y2⟩ := h3 i bs hx
      have y3 := few_len y1
      have y4 : (bitsL bs).length ≤ 11 := by unfold bitsL; split; decide; rw [List.length_map]; omega
      refine ⟨Nat.le_refl _, fun p hp => ?_⟩
      simp only [vioW, List.mem_cons, List.not_mem_nil, or_false] at hp
      rcases hp with z | z | z | z | z <;> rw [z]
      · decide +kernel
      · decide +kernel
      · omega
      · decide +kernel
      · omega
  refine ⟨by unfold rowW; rw [List.length_append]; show 6 + _ ≤ 11; omega, fun p hp => ?_⟩
  unfold rowW at hp
  rcases List.mem_append.mp hp with y | y
  · simp only [List.mem_cons, List.not_mem_nil, or_false] at y
    rcases y with z | z | z | z | z | z <;> rw [z]
    · decide +kernel
    · omega
    · decide +kernel
    · omega
    · decide +kernel
    · omega
  · exact key.2 p y
theorem row_lenR {x : RowR} {sz : Nat} (hsz : sz ≤ 10) (h : RowOkR sz x) : (rowLR x).length ≤ 2000 := by
  obtain ⟨a, b⟩ := rowW_len hsz h
  have := joinL_len [32] 100 (tl ("reg" : Str)) ([x.name, tl ("setup" : Str), mL x.setup, tl ("hold" : Str), mL x.hold] ++ vioW x.vio) b
  have e : ([32] : List Nat).length = 1 := rfl
  rw [e] at this
  have e2 : (rowW x).length = ([x.name, tl ("setup" : Str), mL x.setup, tl ("hold" : Str), mL x.hold] ++ vioW x.vio).length + 1 := rfl
  have : ([x.name, tl ("setup" : Str), mL x.setup, tl ("hold" : Str), mL x.hold] ++ vioW x.vio).length * (100 + 1) ≤ 10 * 101 := Nat.mul_le_mul_right _ (by omega)
  show (joinL [32] (tl ("reg" : Str) :: ([x.name, tl ("setup" : Str), mL x.setup, tl ("hold" : Str), mL x.hold] ++ vioW x.vio))).length ≤ 2000
  omega
theorem head_freeR {r : RepR} (ok : RepOkR r) {s : Nat} (hs : s = 32 ∨ s = 10) : ∀ p ∈ [tl ("module" : Str), r.modu, tl ("period" : Str), intL r.per], s ∉ p := fun p hp => by
  simp only [List.mem_cons, List.not_mem_nil, or_false] at hp
  rcases hp with z | z | z | z <;> rw [z]
  · rcases hs with rfl | rfl <;> exact (by decide +kernel)
  · rcases hs with rfl | rfl
    · exact word_free (isName_word ok.modn) run_signs.2.1
    · exact word_free (isName_word ok.modn) run_signs.2.2
  · rcases hs with rfl | rfl <;> exact (by decide +kernel)
  · rcases hs with rfl | rfl <;> exact intL_free (by decide)
theorem head_lenR {r : RepR} (ok : RepOkR r) : (headR r).length ≤ 2000 := by
  have l1 := few_len ok.per
  have l2 := ok.modl
  have := joinL_len [32] 61 (tl ("module" : Str)) [r.modu, tl ("period" : Str), intL r.per] fun p hp => by
    simp only [List.mem_cons, List.not_mem_nil, or_false] at hp
    rcases hp with z | z | z | z <;> rw [z]
    · decide +kernel
    · omega
    · decide +kernel
    · omega
  exact Nat.le_trans this (by show 61 + 3 * (61 + 1) ≤ 2000; decide)
theorem verd_len (b : Bool) : (verdL b).length ≤ 2000 := by cases b <;> decide +kernel
theorem free_join {s : Nat} {x : List Nat} {xs : List (List Nat)} (h : ∀ p ∈ x :: xs, s ∉ p) (h2 : s ≠ 32) : s ∉ joinL [32] (x :: xs) := fun hm => by
  rcases joinL_mem _ _ _ _ hm with ⟨p, hp, hc⟩ | z
  · exact h p hp hc
  · exact h2 (List.mem_singleton.mp z)
theorem lines_lenR {r : RepR} (ok : RepOkR r) : r.lines.length ≤ 7 ∧ ∀ l ∈ r.lines, l.length ≤ 2000 ∧ 10 ∉ l := by
  obtain ⟨sz, hsz, hrow⟩ := ok.row
  refine ⟨by unfold RepR.lines; rw [List.length_cons, List.length_append, List.length_map]; have := ok.rows; show _ + 1 + 1 ≤ 7; omega, fun l hl => ?_⟩
  unfold RepR.lines at hl
  rcases List.mem_cons.mp hl with z | z
  · rw [z]; exact ⟨head_lenR ok, free_join (head_freeR ok (.inr rfl)) (by decide)⟩
  · rcases List.mem_append.mp z with z | z
    · obtain ⟨x, hx, rfl⟩ := List.mem_map.mp z
      exact ⟨row_lenR hsz (hrow x hx), free_join (rowW_free (hrow x hx) (.inr rfl)) (by decide)⟩
    · rw [List.mem_singleton.mp z]
      exact ⟨verd_len _, by cases r.clean <;> exact (by decide +kernel)⟩
theorem nodup_le {α : Type} [DecidableEq α] : ∀ {xs l : List α}, xs.Nodup → (∀ x ∈ xs, x ∈ l) → xs.length ≤ l.length
  | [], _, _, _ => Nat.zero_le _
  | x :: xs, l, d, h => by
    have hx := h x List.mem_cons_self
    have := nodup_le (xs := xs) (l := l.erase x) (List.nodup_cons.mp d).2 fun y hy => by
      refine (List.mem_erase_of_ne fun z => ?_).mpr (h y (List.mem_cons_of_mem _ hy))
      subst z
      exact (List.nodup_cons.mp d).1 hy
    rw [List.length_erase_of_mem hx] at this
    have := List.length_pos_of_mem hx
    rw [List.length_cons]
    omega
theorem nodup_mk : ∀ {l : List (List Nat)}, l.Nodup → (l.map mk).Nodup
  | [], _ => List.nodup_nil
  | x :: l, d => by
    obtain ⟨a, b⟩ := List.nodup_cons.mp d
    refine List.nodup_cons.mpr ⟨fun h => ?_, nodup_mk b⟩
    obtain ⟨y, hy, e⟩ := List.mem_map.mp h
    have : y = x := by have := congrArg tl e; rwa [tl_mkS, tl_mkS] at this
    exact a (this ▸ hy)
def vlen (x : RowR) : Option Int := x.vio.map fun q => (q.2.length : Int)
theorem cutV_mid (a : V) (m : List V) (z : V) : cutV (a :: (m ++ [z])) (some 1) (some (-1)) = m := by
  have e1 : HT.sIx (a :: (m ++ [z])).length 0 (some 1) = 1 := by
    have : HT.sIx (a :: (m ++ [z])).length 0 (some ((1 : Nat) : Int)) = _ := HT.sIx_nat _ _ _
    rw [show (1 : Int) = ((1 : Nat) : Int) from rfl, this, List.length_cons]; omega
  have e2 : HT.sIx (a :: (m ++ [z])).length (a :: (m ++ [z])).length (some (-1)) = m.length + 1 := by
    show (if (-1 : Int) < 0 then ((-1 : Int) + ((a :: (m ++ [z])).length : Int)).toNat else min (-1 : Int).toNat (a :: (m ++ [z])).length) = m.length + 1
    rw [if_pos (by decide), List.length_cons, List.length_append]
    show ((-1 : Int) + ((m.length + 1 + 1 : Nat) : Int)).toNat = _
    omega
  unfold cutV
  rw [e1, e2, List.drop_succ_cons, List.drop_zero, Nat.add_sub_cancel, List.take_left]
end G
namespace G
open PySem PySem.Spec PyProof.Rows L2 Evl TL
/-! ## any text: words, whole numbers, lines -/
theorem mk_injL {a b : List Nat} (h : mk a = mk b) : a = b := by have := congrArg tl h; rwa [tl_mkS, tl_mkS] at this
theorem map_mk_inj : ∀ {a b : List (List Nat)}, a.map mk = b.map mk → a = b
  | [], [], _ => rfl
  | [], _ :: _, h => by cases h
  | _ :: _, [], h => by cases h
  | x :: a, y :: b, h => by
    rw [List.map_cons, List.map_cons] at h
    injection h with h1 h2
    rw [mk_injL h1, map_mk_inj h2]
/-- every text is its pieces joined -/
theorem split_ex (s : Nat) : ∀ T : List Nat, ∃ x xs, T = joinL [s] (x :: xs) ∧ ∀ p ∈ x :: xs, s ∉ p
  | [] => ⟨[], [], rfl, fun p hp => by rw [List.mem_singleton.mp hp]; exact List.not_mem_nil⟩
  | c :: T => by
    obtain ⟨x, xs, e, h⟩ := split_ex s T
    by_cases hc : c = s
    · subst hc
      refine ⟨[], x :: xs, ?_, fun p hp => ?_⟩
      · show c :: T = [] ++ ([c] ++ joinL [c] (x :: xs))
        rw [← e]; rfl
      · rcases List.mem_cons.mp hp with z | z
        · rw [z]; exact List.not_mem_nil
        · exact h p z
    · refine ⟨c :: x, xs, ?_, fun p hp => ?_⟩
      · rw [e]
        cases xs <;> rfl
      · rcases List.mem_cons.mp hp with z | z
        · rw [z]
          intro hm
          rcases List.mem_cons.mp hm with q | q
          · exact hc q.symm
          · exact h x List.mem_cons_self q
        · exact h p (List.mem_cons_of_mem _ z)
theorem split_mk {s : Nat} (hs : (mk [s]).cps.all (· < 256) = true) {x : List Nat} {xs : List (List Nat)} (h : ∀ p ∈ x :: xs, s ∉ p) : Txt.split (mk (joinL [s] (x :: xs))) (mk [s]) = (x :: xs).map mk := by
  rw [(join_mk [s] x xs).symm]
  exact split_join (s := s) (S := []) rfl hs (by simp) fun q hq => by
    obtain ⟨l, hl', rfl⟩ := List.mem_map.mp hq
    rw [tl_mkS]
    exact h l hl'
theorem join_inj {s : Nat} (hs : (mk [s]).cps.all (· < 256) = true) {x y : List Nat} {xs ys : List (List Nat)} (h : ∀ p ∈ x :: xs, s ∉ p) (g : ∀ p ∈ y :: ys, s ∉ p) (e : joinL [s] (x :: xs) = joinL [s] (y :: ys)) : x :: xs = y :: ys := by
  have a := split_mk hs h
  rw [e, split_mk hs g] at a
  exact map_mk_inj a.symm
/-- a text without its dash -/
def undash : List Nat → List Nat
  | 45 :: r => r
  | T => T
theorem undash_cases (T : List Nat) : (∃ r, T = 45 :: r ∧ undash T = r) ∨ (undash T = T ∧ ∀ r, T ≠ 45 :: r) := by
  match T with
  | 45 :: r => exact .inl ⟨r, rfl, rfl⟩
  | [] => exact .inr ⟨rfl, fun r => by simp⟩
  | c :: r =>
    by_cases hc : c = 45
    · subst hc; exact .inl ⟨r, rfl, rfl⟩
    · refine .inr ⟨?_, fun r' h => hc (by injection h)⟩
      unfold undash
      split
      · rename_i h; injection h with h1 h2; exact absurd h1 hc
      · rfl
theorem undash_len (T : List Nat) : (undash T).length ≤ T.length := by
  rcases undash_cases T with ⟨r, e, h⟩ | ⟨h, _⟩
  · rw [h, e]; exact Nat.le_succ _
  · rw [h]; exact Nat.le_refl _
theorem undash_eq (T : List Nat) : tl (Txt.removeprefix (mk T) (mk [45])) = undash T := by
  rw [PySem.StrLaws.removeprefix_eq, PySem.StrLaws.subAt_eq]
  show tl (if (decide (0 + (mk [45]).length ≤ (mk T).length) && (((tl (mk T)).drop 0).take (mk [45]).length == tl (mk [45]))) = true then _ else _) = _
  rw [tl_mkS, tl_mkS, mk_len, mk_len, List.drop_zero]
  rcases undash_cases T with ⟨r, e, h⟩ | ⟨h, hn⟩
  · subst e
    rw [h, if_pos (by simp)]
    show ((tl (mk (45 :: r))).drop 1).take ((45 :: r).length - 1) = _
    rw [tl_mkS, List.drop_succ_cons, List.drop_zero, List.length_cons, Nat.add_sub_cancel, List.take_length]
  · rw [h, if_neg]
    · exact tl_mkS _
    · intro z
      rw [Bool.and_eq_true] at z
      have z2 := eq_of_beq z.2
      cases T with
      | nil => cases z2
      | cons c r =>
        have : c = 45 := by
          have z2 : (c :: r).take 1 = [45] := z2
          rw [List.take_succ_cons, List.take_zero] at z2
          injection z2
        subst this
        exact hn r rfl
theorem undash_int (i : Int) : undash (intL i) = numL i.natAbs := by rw [← undash_eq, nodash]
theorem val_lt : ∀ (n : Nat) (cs : List Nat), cs.length ≤ n → (∀ c ∈ cs, 48 ≤ c ∧ c ≤ 57) → NumText.digitsVal cs < 10 ^ n
  | 0, cs, h, _ => by
    have : cs = [] := List.eq_nil_of_length_eq_zero (by omega)
    subst this; decide
  | n + 1, cs, h, hd => by
    rcases snoc_cases cs with rfl | ⟨ds, c, rfl⟩
    · exact Nat.lt_of_lt_of_le (by decide : NumText.digitsVal [] < 1) (Nat.one_le_pow _ _ (by decide))
    · rw [List.length_append] at h
      have h : ds.length + 1 ≤ n + 1 := h
      have h1 := val_lt n ds (by omega) fun d hd' => hd d (by simp [hd'])
      have h2 := hd c (by simp)
      rw [NumText.digitsVal_snoc, Nat.pow_succ]
      omega
/-- a whole number's text, dash and digits, or not: what int() tells of it -/
theorem int_any {T : List Nat} (h0 : undash T ≠ []) (h1 : (undash T).length ≤ 60) (h2 : ∀ c ∈ undash T, 48 ≤ c ∧ c ≤ 57) : ∃ i, Few i ∧ PySem.intText? (mk T) = some i := by
  have hv := val_lt 60 (undash T) h1 h2
  have hl := undash_len T
  rcases undash_cases T with ⟨r, e, h⟩ | ⟨h, _⟩
  · rw [h] at h0 h1 h2 hv
    have := PySem.intText_neg (x := mk T) (cs := r) (by rw [e]; exact tl_mkS _) h2 h0 (by rw [mk_len, e, List.length_cons]; omega)
    refine ⟨_, ?_, this⟩
    show (-((NumText.digitsVal r : Nat) : Int)).natAbs < 10 ^ 60
    rw [Int.natAbs_neg, Int.natAbs_natCast]; exact hv
  · rw [h] at h0 h1 h2 hv
    have ht : (mk T).cps.toList = T := tl_mkS _
    have := PySem.intText_digits (x := mk T) (by rw [ht]; exact h2) (by rw [ht]; exact h0) (by rw [mk_len]; omega)
    rw [ht] at this
    exact ⟨_, by show (((NumText.digitsVal T : Nat) : Int)).natAbs < 10 ^ 60; rw [Int.natAbs_natCast]; exact hv, this⟩
section
variable {P : Program} {w : World} {K : PySem.W.Frag} {mg : Str → Option Value} {base : Heap}
/-- T is the text of a whole number of 60 digits at most -/
def IsInt (T : List Nat) (i : Int) : Prop := Few i ∧ T = intL i
def spIntG : Sp := fun vs H Q _ => ∃ T : List Nat, vs = [.str (mk T)] ∧ T.length ≤ 60000 ∧ (∀ i H', IsInt T i → Ex H H' → Q (.int i) H') ∧ ((∀ i, ¬ IsInt T i) → ∀ H', Ex H H' → Q .non H')
theorem sc_integer_of : FnScope ["word", "digits", "number", "character"] ["word"] (defScope s_integer_of) := ⟨rfl, rfl, rfl, by decide +kernel, rfl, by decide +kernel, by decide +kernel⟩
theorem ok_integer_ofG (D : Dfd K mg "integer_of" s_integer_of ["word"]) (T : TxtR1 mg) : Has P w K mg base 1 "integer_of" ["word"] spIntG := by
  obtain ⟨tD, g_DIGITS⟩ := T.DIG
  obtain ⟨tM, g_MOST_DIGITS⟩ := T.MOST
  refine D.has fun f fd F => F.ok sc_integer_of (fun vs H Q E h => ?_) (fun cdv A outer s H vs Q E hr h => ?_)
  · obtain ⟨b, rfl, _⟩ := h
    rfl
  · obtain ⟨Y, rfl, hl, q1, q2⟩ := h
    refine ⟨_, (pss_cons (ps_set (i := 1) sc_integer_of.nd rfl (.inl rfl) (pe_bm PySem.F.plainAttrs_str PySem.F.slot_str_removeprefix PySem.F.type_str_removeprefix mt_removeprefix (pv 0) (pa_cons pe_str pa_nil)))
    (pss_cons (ps_if (PW.pt (pw_or (pt_cmpR op_eq (pv 1) pe_str (nomark _)) (pw_or (pt_cmpR op_gt (pe_callB call_len_str (by rfl) T.len (by decide +kernel) (pa_cons (pv 1) pa_nil)) (gInt rfl g_MOST_DIGITS) (nomark _)) (pw_or1 (pt_val (pe_callB (cr_any rfl) (by rfl) T.any (by decide +kernel) (pa_cons (pe_lc (own := [("character", 3)]) (g := gName 3) (tt := tYes) rfl sc_integer_of.nd (pi_str (pv 1)) (blkOk_by (N := ["word", "digits", "number", "character"]) (sc := defScope s_integer_of) (own := [("character", 3)]) (by decide +kernel)) (fun _ _ _ _ _ => (pg_name (i := 3) sc_integer_of.nd rfl (.inl rfl))) (fun _ _ _ _ _ => pts_nil) (fun _ _ _ _ _ => (pe_cmpR op_notIn_sign (pv 3) (gStr rfl g_DIGITS) rfl))) pa_nil)))))))
      (pss_one (ps_ret pe_non))
      pss_nil)
    (pss_cons (ps_set (i := 2) sc_integer_of.nd rfl (.inl rfl) (pe_callTy call_int_str (by rfl) T.int (by decide +kernel) (pa_cons (pv 0) pa_nil)))
    (pss_one (ps_ret (pe_ifExp (pt_cmpR op_eq (pe_callTy call_str_int (by rfl) T.str (by decide +kernel) (pa_cons (pv 2) pa_nil)) (pv 0) (nomark _)) (pv 2) pe_non)))))), ?_⟩
    have hul := undash_len Y
    refine ⟨_, rfl, rfl, _, _, rfl, rfl, sz_of (by rw [mk_len]; omega), ?_⟩
    have e0 : Txt.removeprefix (mk Y) ("-" : Str) = mk (undash Y) := ext_tl (by rw [tl_mkS]; exact undash_eq Y)
    rw [e0]
    have key : ∀ i, IsInt Y i → undash Y = numL i.natAbs ∧ (numL i.natAbs).length ≤ 60 := fun i hi => by
      obtain ⟨hf, e⟩ := hi
      exact ⟨by rw [e, undash_int], few_digits hf⟩
    by_cases h0 : undash Y = []
    · refine ⟨_, rfl, rfl, _, rfl, iteY ?_ ?_⟩
      · show decide (V.str (mk (undash Y)) = V.str (mk [])) = true
        rw [decV_mk]; exact decide_eq_true h0
      · exact q2 (fun i hi => numL_ne i.natAbs (by rw [← (key i hi).1, h0])) H (Ex.refl _)
    refine ⟨_, rfl, rfl, _, rfl, iteN ?_ ?_⟩
    · show decide (V.str (mk (undash Y)) = V.str (mk [])) = false
      rw [decV_mk]; exact decide_eq_false h0
    by_cases h1 : (undash Y).length ≤ 60
    case neg =>
      refine ⟨_, rfl, _, rfl, sz_of (by rw [mk_len]; omega), _, _, rfl, rfl, _, rfl, iteY ?_ ?_⟩
      · rw [mk_len]
        exact decide_eq_true (by omega)
      · exact q2 (fun i hi => h1 (by rw [(key i hi).1]; exact (key i hi).2)) H (Ex.refl _)
    refine ⟨_, rfl, _, rfl, sz_of (by rw [mk_len]; omega), _, _, rfl, rfl, _, rfl, iteN ?_ ?_⟩
    · rw [mk_len]
      exact decide_eq_false (by omega)
    refine ⟨_, rfl, _, rfl, fun L nL => lcSm (fun c => .bl (!decide (c ∈ tl ("0123456789" : Str)))) (by rw [mk_len]; omega) (fun _ => rfl) (fun j c H1 _ _ Q q => ⟨_, rfl, c, _, rfl, rfl, q⟩) ?_⟩
    have E1 : Ex H (upd H L (.lst ((tl (mk (undash Y))).map fun c => V.bl (!decide (c ∈ tl ("0123456789" : Str)))))) := Ex.new nL
    have hdig : ∀ c, c ∈ tl ("0123456789" : Str) ↔ (48 ≤ c ∧ c ≤ 57) := fun c => by
      constructor
      · exact fun h => (by decide +kernel : ∀ c ∈ tl ("0123456789" : Str), 48 ≤ c ∧ c ≤ 57) c h
      · rintro ⟨a, b⟩
        have : c = 48 ∨ c = 49 ∨ c = 50 ∨ c = 51 ∨ c = 52 ∨ c = 53 ∨ c = 54 ∨ c = 55 ∨ c = 56 ∨ c = 57 := by omega
        rcases this with z | z | z | z | z | z | z | z | z | z <;> rw [z] <;> decide +kernel
    by_cases h2 : ∀ c ∈ undash Y, 48 ≤ c ∧ c ≤ 57
    case neg =>
      refine ⟨L, ((tl (mk (undash Y))).map fun c => !decide (c ∈ tl ("0123456789" : Str))), rfl, SqL.of ?_, _, rfl, iteY ?_ ?_⟩
      · rw [upd_same, List.map_map]; rfl
      · rw [tl_mkS, List.any_map, List.any_eq_true]
        have ⟨c, hc⟩ := Classical.not_forall.mp h2
        have ⟨hm, hn⟩ := Classical.not_imp.mp hc
        refine ⟨c, hm, ?_⟩
        show (!decide (c ∈ tl ("0123456789" : Str))) = true
        rw [decide_eq_false fun z => hn ((hdig c).mp z)]; rfl
      · exact q2 (fun i hi => h2 (by rw [(key i hi).1]; exact numL_digits _)) _ E1
    refine ⟨L, ((tl (mk (undash Y))).map fun c => !decide (c ∈ tl ("0123456789" : Str))), rfl, SqL.of ?_, _, rfl, iteN ?_ ?_⟩
    · rw [upd_same, List.map_map]; rfl
    · rw [tl_mkS, List.any_map, List.any_eq_false]
      intro c hc
      show ¬ (!decide (c ∈ tl ("0123456789" : Str))) = true
      rw [decide_eq_true ((hdig c).mpr (h2 c hc))]; decide
    obtain ⟨i, hf, hi⟩ := int_any h0 h1 h2
    refine ⟨_, rfl, _, i, rfl, hi, ?_, ?_⟩
    · rw [mk_len]
      rcases undash_cases Y with ⟨r, e, h⟩ | ⟨h, _⟩
      · rw [h] at h1; rw [e, List.length_cons]; omega
      · rw [h] at h1; omega
    refine ⟨_, rfl, i, rfl, few_log hf, _, rfl, rfl, _, rfl, ?_⟩
    by_cases he : Y = intL i
    · refine iteY ?_ ⟨_, rfl, q1 i _ ⟨hf, he⟩ E1⟩
      rw [str_int, he]; exact decide_eq_true rfl
    · refine iteN ?_ (q2 (fun j hj => ?_) _ E1)
      · rw [str_int]
        show decide (V.str (mk (intL i)) = V.str (mk Y)) = false
        rw [decV_mk]; exact decide_eq_false fun z => he z.symm
      · have : PySem.intText? (mk Y) = some j := by rw [hj.2]; exact int_back hj.1
        rw [hi] at this
        injection this with this
        exact he (by rw [this]; exact hj.2)
def spBitG : Sp := fun vs H Q _ => ∃ c : Nat, vs = [.str (mk [c])] ∧ (∀ b : Bool, c = bitL b → Q (.bl b) H) ∧ ((∀ b, c ≠ bitL b) → Q .non H)
theorem sc_bit_of : FnScope ["character"] ["character"] (defScope s_bit_of) := ⟨rfl, rfl, rfl, by decide +kernel, rfl, by decide +kernel, by decide +kernel⟩
theorem ok_bit_ofG (D : Dfd K mg "bit_of" s_bit_of ["character"]) : Has P w K mg base 1 "bit_of" ["character"] spBitG := by
  refine D.has fun f fd F => F.ok sc_bit_of (fun vs H Q E h => ?_) (fun cdv A outer s H vs Q E hr h => ?_)
  · obtain ⟨b, rfl, _⟩ := h
    rfl
  · obtain ⟨c, rfl, q1, q2⟩ := h
    refine ⟨_, (pss_cons (ps_if (pt_cmpR op_eq (pv 0) pe_str (nomark _))
      (pss_one (ps_ret pe_bl))
      pss_nil)
    (pss_one (ps_ret (pe_ifExp (pt_cmpR op_eq (pv 0) pe_str (nomark _)) pe_bl pe_non)))), ?_⟩
    have hd : ∀ n : Nat, decide (V.str (mk [c]) = V.str (mk [n])) = decide (c = n) := fun n => by rw [decV_mk]; simp
    by_cases h0 : c = 48
    · exact ⟨_, rfl, rfl, _, rfl, iteY ((hd 48).trans (decide_eq_true h0)) (q1 false h0)⟩
    by_cases h1 : c = 49
    · exact ⟨_, rfl, rfl, _, rfl, iteN ((hd 48).trans (decide_eq_false h0)) ⟨_, rfl, rfl, _, rfl, iteY ((hd 49).trans (decide_eq_true h1)) (q1 true h1)⟩⟩
    · exact ⟨_, rfl, rfl, _, rfl, iteN ((hd 48).trans (decide_eq_false h0)) ⟨_, rfl, rfl, _, rfl, iteN ((hd 49).trans (decide_eq_false h1)) (q2 fun b h => by cases b; exact h0 h; exact h1 h)⟩⟩
end
end G
namespace G
open PySem PySem.Spec PyProof.Rows L2 Evl TL
theorem ends_last (X : List Nat) (d c : Nat) : Txt.endswith (mk (X ++ [d])) (mk [c]) = decide (d = c) := by
  show (decide (0 + (mk [c]).length ≤ (mk (X ++ [d])).length) && PySem.Builtin.Str.subAt (mk (X ++ [d])) (mk [c]) ((mk (X ++ [d])).length - (mk [c]).length)) = _
  rw [PySem.StrLaws.subAt_eq]
  show (_ && (((tl (mk (X ++ [d]))).drop _).take _ == tl (mk [c]))) = _
  rw [tl_mkS, tl_mkS, mk_len, mk_len, List.length_append]
  show (decide (0 + 1 ≤ X.length + 1) && (((X ++ [d]).drop (X.length + 1 - 1)).take 1 == [c])) = _
  rw [Nat.add_sub_cancel, List.drop_left, decide_eq_true (by omega), Bool.eq_iff_iff]
  simp
/-- a text of lines, each with its line feed -/
def IsLines (T : List Nat) (ls : List (List Nat)) : Prop := (∃ x xs, ls = x :: xs ∧ T = joinL [10] (x :: xs) ++ [10] ∧ ∀ l ∈ x :: xs, 10 ∉ l) ∨ (ls = [] ∧ ∀ X, T ≠ X ++ [10])
def IsMar (T : List Nat) (m : Option Int) : Prop := FewO m ∧ T = mL m
def VioG : Option (Int × List Bool) → Prop
  | none => True
  | some (i, _) => Few i
def IsVio (ws : List (List Nat)) (o : Option (Int × List Bool)) : Prop := VioG o ∧ ws = vioW o
/-- what bit_of tells of a sign -/
def bv (c : Nat) : V := if c = 48 then .bl false else if c = 49 then .bl true else .non
theorem bv_bit (b : Bool) : bv (bitL b) = .bl b := by cases b <;> rfl
theorem bv_no {c : Nat} (h : ∀ b, c ≠ bitL b) : bv c = .non := by
  unfold bv
  rw [if_neg (show c ≠ 48 from h false), if_neg (show c ≠ 49 from h true)]
theorem bv_all : ∀ {T : List Nat}, (∀ c ∈ T, c = 48 ∨ c = 49) → ∃ v : List Bool, T = v.map bitL
  | [], _ => ⟨[], rfl⟩
  | c :: T, h => by
    obtain ⟨v, e⟩ := bv_all (T := T) fun d hd => h d (List.mem_cons_of_mem _ hd)
    rcases h c List.mem_cons_self with z | z
    · exact ⟨false :: v, by rw [List.map_cons, ← e, z]; rfl⟩
    · exact ⟨true :: v, by rw [List.map_cons, ← e, z]; rfl⟩
theorem eqvAll_strs : ∀ xs ys : List Str, PyData.eqvAll (xs.map PyData.str) (ys.map PyData.str) = decide (xs = ys)
  | [], [] => by simp [PyData.eqvAll]
  | [], y :: ys => by simp [PyData.eqvAll]
  | x :: xs, [] => by simp [PyData.eqvAll]
  | x :: xs, y :: ys => by
    have : (x == y) = decide (x = y) := by rw [Bool.eq_iff_iff]; simp
    simp [PyData.eqvAll, PyData.eqv, eqvAll_strs xs ys, this]
theorem eqv_strsG (xs ys : List Str) : PyData.eqv (.list (xs.map PyData.str)) (.list (ys.map PyData.str)) = decide (xs = ys) := by
  simp [PyData.eqv, eqvAll_strs]
theorem eqv_tup3 (a b c x y z : Str) : PyData.eqv (.tuple [.str a, .str b, .str c]) (.tuple [.str x, .str y, .str z]) = decide (a = x ∧ b = y ∧ c = z) := by
  simp [PyData.eqv, PyData.eqvAll]
  by_cases h1 : a = x <;> by_cases h2 : b = y <;> by_cases h3 : c = z <;> simp [h1, h2, h3]
section
variable {P : Program} {w : World} {K : PySem.W.Frag} {mg : Str → Option Value} {base : Heap}
def spLinesG : Sp := fun vs H Q _ => ∃ Y : List Nat, vs = [.str (mk Y)] ∧ Y.length ≤ 60000 ∧ ∀ (p : Addr) (H' : Hp) (ls : List (List Nat)), Ex H H' → H' p = some (.lst (strV ls)) → IsLines Y ls → Q (.ref p) H'
theorem sc_lines_of : FnScope ["text"] ["text"] (defScope s_lines_of) := ⟨rfl, rfl, rfl, by decide +kernel, rfl, by decide +kernel, by decide +kernel⟩
theorem ok_lines_ofG (D : Dfd K mg "lines_of" s_lines_of ["text"]) : Has P w K mg base 1 "lines_of" ["text"] spLinesG := by
  refine D.has fun f fd F => F.ok sc_lines_of (fun vs H Q E h => ?_) (fun cdv A outer s H vs Q E hr h => ?_)
  · obtain ⟨x, rfl, _⟩ := h
    rfl
  · obtain ⟨Y, rfl, hl, q⟩ := h
    refine ⟨_, (pss_one (ps_ret (pe_ifExp (pt_val (pe_bm PySem.F.plainAttrs_str PySem.F.slot_str_endswith PySem.F.type_str_endswith mt_endswith (pv 0) (pa_cons pe_str pa_nil))) (pe_bm PySem.F.plainAttrs_str PySem.F.slot_str_split PySem.F.type_str_split mt_split (pe_slice sl_str (pv 0) po_none (po_some (pe_un un_neg pe_int))) (pa_cons pe_str pa_nil)) (pe_lst pa_nil)))), ?_⟩
    rcases snoc_cases Y with rfl | ⟨X, d, rfl⟩
    · exact ⟨_, rfl, rfl, _, _, rfl, rfl, _, rfl, iteN (by decide +kernel) ⟨Nat.zero_le _, fun l nl => q l _ [] (Ex.new nl) upd_same (.inr ⟨rfl, fun X h => by cases X <;> cases h⟩)⟩⟩
    rw [List.length_append] at hl
    have hl : X.length + 1 ≤ 60000 := hl
    by_cases hd : d = 10
    case neg =>
      refine ⟨_, rfl, rfl, _, _, rfl, rfl, _, rfl, iteN ?_ ⟨Nat.zero_le _, fun l nl => q l _ [] (Ex.new nl) upd_same (.inr ⟨rfl, fun Z h => hd ?_⟩)⟩⟩
      · exact (ends_last X d 10).trans (decide_eq_false hd)
      · exact (List.append_inj' h rfl).2 |> fun z => by injection z
    subst hd
    refine ⟨_, rfl, rfl, _, _, rfl, rfl, _, rfl, iteY ?_ ?_⟩
    · exact ends_snoc _ _
    refine ⟨_, rfl, _, rfl, _, rfl, _, rfl, sz_of (by rw [mk_len, List.length_append]; show _ + 1 ≤ _; omega), rfl, _, _, rfl, rfl, by decide, ?_, fun p np => ?_⟩
    · rw [cut_snoc, mk_len]
      exact sz_of (by omega)
    rw [cut_snoc]
    obtain ⟨x, xs, e, hf⟩ := split_ex 10 X
    have es : Txt.split (mk X) ("\n" : Str) = (x :: xs).map mk := by rw [e]; exact split_mk (s := 10) (by decide +kernel) hf
    rw [es, List.map_map]
    exact q p _ (x :: xs) (Ex.new np) upd_same (.inl ⟨x, xs, rfl, by rw [← e], hf⟩)
def spIsName : Sp := fun vs H Q _ => ∃ T : List Nat, vs = [.str (mk T)] ∧ T ≠ [] ∧ T.length ≤ 50000 ∧ ∀ H', Ex H H' → Q (.bl (isName T)) H'
theorem sc_is_name : FnScope ["token"] ["token"] (defScope s_is_name) := ⟨rfl, rfl, rfl, by decide +kernel, rfl, by decide +kernel, by decide +kernel⟩
theorem ok_is_name (D : Dfd K mg "is_name" s_is_name ["token"]) (T : TxtP K mg) (C : Has P w K mg base 1 "is_word" ["token"] spIsWord) : Has P w K mg base 2 "is_name" ["token"] spIsName := by
  obtain ⟨aK, g_KEYWORDS, hK⟩ := T.KEY
  obtain ⟨f_is_word, d_is_word, G_is_word, g_is_word, k_is_word, b_is_word⟩ := C
  refine D.has fun f fd F => F.ok sc_is_name (fun vs H Q E h => ?_) (fun cdv A outer s H vs Q E hr h => ?_)
  · obtain ⟨T, rfl, _⟩ := h
    rfl
  · obtain ⟨T, rfl, hne, hlen, q⟩ := h
    refine ⟨_, (pss_one (ps_ret (pe_and (pe_call G_is_word (hr.mono (by omega)) (by rfl) g_is_word k_is_word b_is_word .nil pass0 (pa_cons (pv 0) pa_nil)) (pe_one (pe_cmpR op_notIn_seq (pv 0) (gRef rfl g_KEYWORDS) (by rfl)))))), ?_⟩
    refine ⟨_, rfl, T, rfl, hne, hlen, fun H1 e1 => ⟨_, rfl, ?_⟩⟩
    have := q H1 e1
    unfold isName at this
    cases hw : isWord T with
    | false => rw [hw] at this; exact iteF this
    | true =>
      rw [hw, Bool.true_and] at this
      refine iteT ⟨_, rfl, aK, _, rfl, .inr (hK H1), rfl, flat_map (fun _ => rfl) _, ?_⟩
      show Q (.bl (if true = true then !inV (.str (mk T)) (kwds.map V.str) else inV (.str (mk T)) (kwds.map V.str))) H1
      rw [if_pos rfl, inV_strs]
      exact this
theorem sc_uis_name : FnScope ["word"] ["word"] (defScope s_uis_name) := ⟨rfl, rfl, rfl, by decide +kernel, rfl, by decide +kernel, by decide +kernel⟩
theorem ok_uis_name (D : Dfd K mg "_is_name" s_uis_name ["word"]) (C : Has P w K mg base 2 "is_name" ["token"] spIsName) : Has P w K mg base 3 "_is_name" ["word"] spIsName := by
  obtain ⟨f_is_name, d_is_name, G_is_name, g_is_name, k_is_name, b_is_name⟩ := C
  refine D.has fun f fd F => F.ok sc_uis_name (fun vs H Q E h => ?_) (fun cdv A outer s H vs Q E hr h => ?_)
  · obtain ⟨T, rfl, _⟩ := h
    rfl
  · obtain ⟨T, rfl, hne, hlen, q⟩ := h
    refine ⟨_, (pss_one (ps_ret (pe_and (pe_cmpR op_ne (pv 0) pe_str (nomark _)) (pe_one (pe_call G_is_name (hr.mono (by omega)) (by rfl) g_is_name k_is_name b_is_name .nil pass0 (pa_cons (pv 0) pa_nil)))))), ?_⟩
    refine ⟨_, rfl, rfl, _, rfl, iteY ?_ ⟨_, rfl, T, rfl, hne, hlen, q⟩⟩
    show (!decide (V.str (mk T) = V.str (mk []))) = true
    rw [decV_mk, decide_eq_false hne]; rfl
def spRIntG (B : Addr) : Sp := fun vs H Q E => ∃ Y : List Nat, vs = [.str (mk Y)] ∧ Y.length ≤ 60000 ∧ (∀ i H', IsInt Y i → Ex H H' → Q (.int i) H') ∧ ((∀ i, ¬ IsInt Y i) → ∀ H', Ex H H' → E (.ref B) none H')
theorem sc_read_integer : FnScope ["word", "number"] ["word"] (defScope s_read_integer) := ⟨rfl, rfl, rfl, by decide +kernel, rfl, by decide +kernel, by decide +kernel⟩
theorem ok_read_integerG {B : Addr} (D : Dfd K mg "_read_integer" s_read_integer ["word"]) (UB : ExcT K mg "BadReport" B) (C1 : Has P w K mg base 1 "integer_of" ["word"] spIntG) : HasX P w K mg base 2 "_read_integer" ["word"] (spRIntG B) := by
  obtain ⟨f_integer_of, d_integer_of, G_integer_of, g_integer_of, k_integer_of, b_integer_of⟩ := C1
  obtain ⟨f, fd, F, gf, bf⟩ := D
  refine ⟨f, fd, F.okX sc_read_integer (fun vs H Q E h => ?_) (fun cdv A outer s H vs Q E hr h => ?_), gf, F.kp, bf⟩
  · obtain ⟨i, rfl, _⟩ := h
    rfl
  · obtain ⟨Y, rfl, hl, q1, q2⟩ := h
    refine ⟨_, (pss_cons (ps_set (i := 1) sc_read_integer.nd rfl (.inl rfl) (pe_call G_integer_of (hr.mono (by omega)) (by rfl) g_integer_of k_integer_of b_integer_of .nil pass0 (pa_cons (pv 0) pa_nil)))
    (pss_cons (ps_if (pt_cmpR op_isN (pv 1) pe_non (nomark _))
      (pss_one (ps_raise rfl (takes_of rfl rfl rfl rfl) (pmk_ownA PySem.F.excBase_ValueError UB.xP UB.gC UB.kC (raises_own UB.bC UB.tC) rfl (pa_cons pe_str pa_nil))))
      pss_nil)
    (pss_one (ps_ret (pv 1))))), ?_⟩
    refine ⟨_, rfl, Y, rfl, hl, fun i H1 hi E1 => ⟨_, rfl, rfl, _, rfl, iteN rfl ⟨_, rfl, q1 i H1 hi E1⟩⟩, fun hn H1 E1 => ⟨_, rfl, rfl, _, rfl, iteY rfl ⟨(by show 1 ≤ sizeLine; decide), q2 hn H1 E1⟩⟩⟩
def spMarG (B : Addr) : Sp := fun vs H Q E => ∃ Y : List Nat, vs = [.str (mk Y)] ∧ Y.length ≤ 60000 ∧ (∀ m H', IsMar Y m → Ex H H' → Q (mV m) H') ∧ ((∀ m, ¬ IsMar Y m) → ∀ H', Ex H H' → E (.ref B) none H')
theorem sc_read_margin : FnScope ["word"] ["word"] (defScope s_read_margin) := ⟨rfl, rfl, rfl, by decide +kernel, rfl, by decide +kernel, by decide +kernel⟩
theorem ok_read_marginG {B : Addr} (D : Dfd K mg "_read_margin" s_read_margin ["word"]) (C1 : HasX P w K mg base 2 "_read_integer" ["word"] (spRIntG B)) : HasX P w K mg base 3 "_read_margin" ["word"] (spMarG B) := by
  obtain ⟨f_read_integer, d_read_integer, G_read_integer, g_read_integer, k_read_integer, b_read_integer⟩ := C1
  obtain ⟨f, fd, F, gf, bf⟩ := D
  refine ⟨f, fd, F.okX sc_read_margin (fun vs H Q E h => ?_) (fun cdv A outer s H vs Q E hr h => ?_), gf, F.kp, bf⟩
  · obtain ⟨i, rfl, _⟩ := h
    rfl
  · obtain ⟨Y, rfl, hl, q1, q2⟩ := h
    refine ⟨_, (pss_one (ps_ret (pe_ifExp (pt_cmpR op_eq (pv 0) pe_str (nomark _)) pe_non (pe_call G_read_integer (hr.mono (by omega)) (by rfl) g_read_integer k_read_integer b_read_integer .nil (passes_call (takes_of rfl rfl rfl rfl) fun _ _ _ _ h => h) (pa_cons (pv 0) pa_nil))))), ?_⟩
    have hd : decide (V.str (mk Y) = V.str (mk (tl ("none" : Str)))) = decide (Y = tl ("none" : Str)) := decV_mk _ _
    by_cases hn : Y = tl ("none" : Str)
    · exact ⟨_, rfl, rfl, _, rfl, iteY (hd.trans (decide_eq_true hn)) (q1 none H ⟨trivial, hn⟩ (Ex.refl _))⟩
    · refine ⟨_, rfl, rfl, _, rfl, iteN (hd.trans (decide_eq_false hn)) ⟨_, rfl, Y, rfl, hl, fun i H1 hi E1 => q1 (some i) H1 ⟨hi.1, hi.2⟩ E1, fun hi H1 E1 => q2 (fun m hm => ?_) H1 E1⟩⟩
      cases m with
      | none => exact hn hm.2
      | some i => exact hi i ⟨hm.1, hm.2⟩
def spVecG (B : Addr) : Sp := fun vs H Q E => ∃ Y : List Nat, vs = [.str (mk Y)] ∧ Y.length ≤ 60000 ∧ (∀ (v : List Bool) (t : Addr) (H' : Hp), Y = bitsL v → Ex H H' → H' t = some (.tup (v.map V.bl)) → Q (.ref t) H') ∧ ((∀ v, Y ≠ bitsL v) → ∀ H', Ex H H' → E (.ref B) none H')
theorem sc_read_vector : FnScope ["word", "bits", "character"] ["word"] (defScope s_read_vector) := ⟨rfl, rfl, rfl, by decide +kernel, rfl, by decide +kernel, by decide +kernel⟩
theorem ok_read_vectorG {B : Addr} (D : Dfd K mg "_read_vector" s_read_vector ["word"]) (UB : ExcT K mg "BadReport" B) (T : TxtP K mg) (C1 : Has P w K mg base 1 "bit_of" ["character"] spBitG) : HasX P w K mg base 2 "_read_vector" ["word"] (spVecG B) := by
  obtain ⟨f_bit_of, d_bit_of, G_bit_of, g_bit_of, k_bit_of, b_bit_of⟩ := C1
  obtain ⟨f, fd, F, gf, bf⟩ := D
  refine ⟨f, fd, F.okX sc_read_vector (fun vs H Q E h => ?_) (fun cdv A outer s H vs Q E hr h => ?_), gf, F.kp, bf⟩
  · obtain ⟨i, rfl, _⟩ := h
    rfl
  · obtain ⟨Y, rfl, hl, q1, q2⟩ := h
    refine ⟨_, (pss_cons (ps_if (pt_cmpR op_eq (pv 0) pe_str (nomark _))
      (pss_one (ps_ret (pe_tup pa_nil)))
      pss_nil)
    (pss_cons (ps_set (i := 1) sc_read_vector.nd rfl (.inl rfl) (pe_callTy call_tuple_of (by rfl) T.tuple (by decide +kernel) (pa_cons (pe_lc (own := [("character", 2)]) (g := gName 2) (tt := tYes) rfl sc_read_vector.nd (pi_str (pv 0)) (blkOk_by (N := ["word", "bits", "character"]) (sc := defScope s_read_vector) (own := [("character", 2)]) (by decide +kernel)) (fun _ _ _ _ _ => (pg_name (i := 2) sc_read_vector.nd rfl (.inl rfl))) (fun _ _ _ _ _ => pts_nil) (fun _ _ _ _ _ => (pe_call G_bit_of (hr.mono (by omega)) (by rfl) g_bit_of k_bit_of b_bit_of .nil pass0 (pa_cons (pv 2) pa_nil)))) pa_nil)))
    (pss_cons (ps_if (PW.pt (pw_or (pt_cmpR op_eq (pe_callB call_len_seq (by rfl) T.len (by decide +kernel) (pa_cons (pv 1) pa_nil)) pe_int (nomark _)) (pw_or1 (pt_cmpR op_in_seq pe_non (pv 1) (by rfl)))))
      (pss_one (ps_raise rfl (takes_of rfl rfl rfl rfl) (pmk_ownA PySem.F.excBase_ValueError UB.xP UB.gC UB.kC (raises_own UB.bC UB.tC) rfl (pa_cons pe_str pa_nil))))
      pss_nil)
    (pss_one (ps_ret (pv 1)))))), ?_⟩
    have hd : decide (V.str (mk Y) = V.str (mk [45])) = decide (Y = [45]) := decV_mk _ _
    by_cases h45 : Y = [45]
    · exact ⟨_, rfl, rfl, _, rfl, iteY (hd.trans (decide_eq_true h45)) ⟨(by show 0 ≤ sizeLine; decide), fun t nt => q1 [] t _ (by rw [h45]; rfl) (Ex.new nt) upd_same⟩⟩
    refine ⟨_, rfl, rfl, _, rfl, iteN (hd.trans (decide_eq_false h45)) ?_⟩
    have hsz : (mk Y).cps.size = Y.length := by show Y.toArray.size = _; rw [List.size_toArray]
    refine ⟨_, rfl, _, rfl, fun L nL => wk_it walk_str (fun j H' => Ex H H' ∧ H' L = some (.lst ((Y.take j).map bv))) ⟨Ex.new nL, upd_same⟩ (fun _ _ _ _ => trivial) ?_ ?_⟩
    · rintro j x H1 H2 hj ⟨E1, hL⟩ ⟨rfl, c, hc, rfl⟩
      rw [hsz] at hj
      have hc : Y.toArray[j]? = some c := hc
      rw [List.getElem?_toArray] at hc
      have st : ∀ v : V, v = bv c → ∃ acc, H2 L = some (.lst acc) ∧ acc.length < sizeLine ∧ Ex H (upd H2 L (.lst (acc ++ [v]))) ∧ upd H2 L (.lst (acc ++ [v])) L = some (.lst ((Y.take (j + 1)).map bv)) := fun v hv => by
        refine ⟨_, hL, ?_, E1.mut nL, ?_⟩
        · rw [List.length_map, List.length_take]; exact sz_lt (by omega)
        · rw [upd_same, take_snoc1 hc, List.map_append, hv]; rfl
      exact ⟨rfl, tYes_in ⟨_, rfl, c, rfl, fun b hb => st _ (by rw [hb, bv_bit]), fun hb => st _ (bv_no hb).symm⟩⟩
    rintro H1 ⟨E1, hL⟩
    rw [hsz, List.take_length] at hL
    refine ⟨L, _, rfl, .inl ⟨SqL.of hL, fun t nt => ?_⟩⟩
    have E2 : Ex H (upd H1 t (.tup (Y.map bv))) := E1.trans (Ex.new nt)
    have ht : upd H1 t (.tup (Y.map bv)) t = some (.tup (Y.map bv)) := upd_same
    have ilen : decide (V.int ((Y.map bv).length : Int) = V.int 0) = decide (Y = []) := by
      rw [List.length_map, Bool.eq_iff_iff, decide_eq_true_iff, decide_eq_true_iff]
      constructor
      · exact fun z => List.eq_nil_of_length_eq_zero (by have := V.int.inj z; omega)
      · rintro rfl; rfl
    by_cases h0 : Y = []
    · refine ⟨_, rfl, t, _, rfl, .inr (SqT.of ht), rfl, _, rfl, iteY (ilen.trans (decide_eq_true h0)) ⟨(by show 1 ≤ sizeLine; decide), q2 (fun v hv => ?_) _ E2⟩⟩
      have hv : Y = bitsL v := hv
      unfold bitsL at hv
      split at hv
      · rw [h0] at hv; cases hv
      · rename_i hne
        rw [h0] at hv
        exact hne (List.map_eq_nil_iff.mp hv.symm)
    refine ⟨_, rfl, t, _, rfl, .inr (SqT.of ht), rfl, _, rfl, iteN (ilen.trans (decide_eq_false h0)) ?_⟩
    have hfl : ((Y.map bv).all flatV) = true := flat_map (fun c => by unfold bv; split; rfl; split <;> rfl) _
    by_cases hb : ∀ c ∈ Y, c = 48 ∨ c = 49
    · obtain ⟨v, hv⟩ := bv_all hb
      have em : Y.map bv = v.map V.bl := by
        rw [hv, List.map_map]
        exact List.map_congr_left fun b _ => bv_bit b
      have hvn : v ≠ [] := fun z => h0 (by rw [hv, z]; rfl)
      refine ⟨_, rfl, t, _, rfl, .inr (SqT.of ht), rfl, hfl, _, rfl, iteN ?_ ⟨_, rfl, q1 v t _ (by rw [hv]; unfold bitsL; rw [if_neg hvn]) E2 (by rw [ht, em])⟩⟩
      show inV .non (Y.map bv) = false
      rw [em]
      unfold inV
      rw [List.any_map, List.any_eq_false]
      intro b _ h
      cases h
    · have ⟨c, hc⟩ := Classical.not_forall.mp hb
      have ⟨hm, hn⟩ := Classical.not_imp.mp hc
      refine ⟨_, rfl, t, _, rfl, .inr (SqT.of ht), rfl, hfl, _, rfl, iteY ?_ ⟨(by show 1 ≤ sizeLine; decide), q2 (fun v hv => ?_) _ E2⟩⟩
      · show inV .non (Y.map bv) = true
        unfold inV
        rw [List.any_map, List.any_eq_true]
        refine ⟨c, hm, ?_⟩
        have : bv c = .non := bv_no fun b z => hn (by cases b; exact .inl z; exact .inr z)
        show eqV (bv c) .non = true
        rw [this]; rfl
      · have hv : Y = bitsL v := hv
        unfold bitsL at hv
        split at hv
        · exact h45 hv
        · rw [hv] at hm
          obtain ⟨b, _, e⟩ := List.mem_map.mp hm
          exact hn (by rw [← e]; cases b; exact .inl rfl; exact .inr rfl)
def spVioG (B : Addr) : Sp := fun vs H Q E => ∃ (p : Addr) (ws : List (List Nat)), vs = [.ref p] ∧ H p = some (.lst (strV ws)) ∧ (∀ l ∈ ws, l.length ≤ 60000 ∧ ∀ c ∈ l, c < 200) ∧ (∀ o v H', IsVio ws o → Ex H H' → VioAt H' v o → Q v H') ∧ ((∀ o, ¬ IsVio ws o) → ∀ H', Ex H H' → E (.ref B) none H')
theorem sc_read_violation : FnScope ["words"] ["words"] (defScope s_read_violation) := ⟨rfl, rfl, rfl, by decide +kernel, rfl, by decide +kernel, by decide +kernel⟩
theorem ok_read_violationG {B : Addr} (D : Dfd K mg "_read_violation" s_read_violation ["words"]) (UB : ExcT K mg "BadReport" B) (T : TxtP K mg) (C1 : HasX P w K mg base 2 "_read_integer" ["word"] (spRIntG B)) (C2 : HasX P w K mg base 2 "_read_vector" ["word"] (spVecG B)) : HasX P w K mg base 3 "_read_violation" ["words"] (spVioG B) := by
  obtain ⟨f_read_integer, d_read_integer, G_read_integer, g_read_integer, k_read_integer, b_read_integer⟩ := C1
  obtain ⟨f_read_vector, d_read_vector, G_read_vector, g_read_vector, k_read_vector, b_read_vector⟩ := C2
  obtain ⟨f, fd, F, gf, bf⟩ := D
  refine ⟨f, fd, F.okX sc_read_violation (fun vs H Q E h => ?_) (fun cdv A outer s H vs Q E hr h => ?_), gf, F.kp, bf⟩
  · obtain ⟨i, _, rfl, _⟩ := h
    rfl
  · obtain ⟨p, ws, rfl, hp, hws, q1, q2⟩ := h
    refine ⟨_, (pss_cons (ps_if (pt_cmpR (op_eqD hr.units) (pv 0) (pe_lst (pa_cons pe_str pa_nil)) (nomark _))
      (pss_one (ps_ret pe_non))
      pss_nil)
    (pss_cons (ps_if (PW.pt (pw_or (pt_cmpR op_ne (pe_callB call_len_seq (by rfl) T.len (by decide +kernel) (pa_cons (pv 0) pa_nil)) pe_int (nomark _)) (pw_or1 (pt_cmpR (op_neD hr.units) (pe_tup (pa_cons (pe_ix ix_list (pv 0) pe_int (fun _ _ => rfl)) (pa_cons (pe_ix ix_list (pv 0) pe_int (fun _ _ => rfl)) (pa_cons (pe_ix ix_list (pv 0) pe_int (fun _ _ => rfl)) pa_nil)))) (pe_tup (pa_cons pe_str (pa_cons pe_str (pa_cons pe_str pa_nil)))) (nomark _)))))
      (pss_one (ps_raise rfl (takes_of rfl rfl rfl rfl) (pmk_ownA PySem.F.excBase_ValueError UB.xP UB.gC UB.kC (raises_own UB.bC UB.tC) rfl (pa_cons pe_str pa_nil))))
      pss_nil)
    (pss_one (ps_ret (pe_tup (pa_cons (pe_call G_read_integer (hr.mono (by omega)) (by rfl) g_read_integer k_read_integer b_read_integer .nil (passes_call (takes_of rfl rfl rfl rfl) fun _ _ _ _ h => h) (pa_cons (pe_ix ix_list (pv 0) pe_int (fun _ _ => rfl)) pa_nil)) (pa_cons (pe_call G_read_vector (hr.mono (by omega)) (by rfl) g_read_vector k_read_vector b_read_vector .nil (passes_call (takes_of rfl rfl rfl rfl) fun _ _ _ _ h => h) (pa_cons (pe_ix ix_list (pv 0) pe_int (fun _ _ => rfl)) pa_nil)) pa_nil))))))), ?_⟩
    refine ⟨_, rfl, (by show 1 ≤ sizeLine; decide), fun l nl => ?_⟩
    have E1 : Ex H (upd H l (.lst [.str "ok"])) := Ex.new nl
    have hl : upd H l (.lst [.str "ok"]) l = some (.lst [.str "ok"]) := upd_same
    generalize upd H l (.lst [.str "ok"]) = H1 at *
    have hp1 : H1 p = some (.lst ((ws.map mk).map V.str)) := by rw [E1 _ _ hp, List.map_map]; rfl
    have sm : ∀ x ∈ ws.map mk, PyData.strOk x = true := fun x hx => by
      obtain ⟨l, hl, rfl⟩ := List.mem_map.mp hx
      exact strOk_mk (hws l hl).2
    refine ⟨_, _, dp_strsL (SqL.of hp1), dp_strsL (xs := ["ok"]) (SqL.of hl), shaped_strsL sm, shaped_strsL (by decide +kernel), _, rfl, ?_⟩
    have ek : PyData.eqv (.list ((ws.map mk).map PyData.str)) (.list ((["ok"] : List Str).map PyData.str)) = decide (ws = [tl ("ok" : Str)]) := by
      rw [eqv_strsG, Bool.eq_iff_iff, decide_eq_true_iff, decide_eq_true_iff]
      have : (["ok"] : List Str) = [tl ("ok" : Str)].map mk := by rw [List.map_cons, mk_tlS]; rfl
      rw [this]
      exact ⟨map_mk_inj, fun z => by rw [z]⟩
    by_cases hok : ws = [tl ("ok" : Str)]
    · exact iteY (ek.trans (decide_eq_true hok)) (q1 none .non H1 ⟨trivial, hok⟩ E1 rfl)
    refine iteN (ek.trans (decide_eq_false hok)) ?_
    have hw : H1 p = some (.lst (strV ws)) := E1 _ _ hp
    have sl : (strV ws).length = ws.length := by unfold strV; rw [List.length_map]
    have e5 : (!decide (V.int ((strV ws).length : Int) = V.int 5)) = !decide (ws.length = 5) := by
      rw [sl]
      congr 1
      rw [Bool.eq_iff_iff, decide_eq_true_iff, decide_eq_true_iff]
      exact ⟨fun z => by have := V.int.inj z; omega, fun z => by rw [z]; rfl⟩
    by_cases h5 : ws.length = 5
    case neg =>
      refine ⟨_, rfl, p, _, rfl, .inl (SqL.of hw), rfl, _, rfl, iteY (by rw [e5, decide_eq_false h5]; rfl) ⟨(by show 1 ≤ sizeLine; decide), q2 (fun o ho => ?_) _ E1⟩⟩
      cases o with
      | none => exact hok ho.2
      | some ib => exact h5 (by rw [ho.2]; rfl)
    obtain ⟨a1, a2, a3, a4, a5, rfl⟩ : ∃ a1 a2 a3 a4 a5, ws = [a1, a2, a3, a4, a5] := by
      match ws, h5 with
      | [a1, a2, a3, a4, a5], _ => exact ⟨a1, a2, a3, a4, a5, rfl⟩
    have hw : H1 p = some (.lst [.str (mk a1), .str (mk a2), .str (mk a3), .str (mk a4), .str (mk a5)]) := hw
    refine ⟨_, rfl, p, _, rfl, .inl (SqL.of hw), rfl, _, rfl, iteN (by show (!decide (V.int 5 = V.int 5)) = false; rw [decide_eq_true rfl]; rfl) ?_⟩
    refine ⟨_, rfl, _, _, _, _, rfl, rfl, SqL.of hw, atI_nat (j := 0) rfl, _, rfl, _, _, _, _, rfl, rfl, SqL.of hw, atI_nat (j := 1) rfl, _, rfl, _, _, _, _, rfl, rfl, SqL.of hw, atI_nat (j := 3) rfl, (by show 3 ≤ sizeLine; decide), fun t1 n1 => ⟨(by show 3 ≤ sizeLine; decide), fun t2 n2 => ?_⟩⟩
    have E2 : Ex H1 (upd H1 t1 (.tup [.str (mk a1), .str (mk a2), .str (mk a4)])) := Ex.new n1
    have g1 : upd H1 t1 (.tup [.str (mk a1), .str (mk a2), .str (mk a4)]) t1 = some (.tup [.str (mk a1), .str (mk a2), .str (mk a4)]) := upd_same
    generalize upd H1 t1 (.tup [.str (mk a1), .str (mk a2), .str (mk a4)]) = H2 at *
    have E3 : Ex H2 (upd H2 t2 (.tup [.str "loose", .str "at", .str "for"])) := Ex.new n2
    have st : SeqAt.shaped (.tuple [.str (mk a1), .str (mk a2), .str (mk a4)]) = true := by
      have o1 := strOk_mk (hws a1 (by simp)).2
      have o2 := strOk_mk (hws a2 (by simp)).2
      have o4 := strOk_mk (hws a4 (by simp)).2
      simp [SeqAt.shaped, PyData.canLay0, PyData.canLayAll0, PyData.depth, PyData.depthAll, o1, o2, o4]
    have e3 : PyData.eqv (.tuple [.str (mk a1), .str (mk a2), .str (mk a4)]) (.tuple [.str "loose", .str "at", .str "for"]) = decide (a1 = tl ("loose" : Str) ∧ a2 = tl ("at" : Str) ∧ a4 = tl ("for" : Str)) := by
      rw [eqv_tup3, Bool.eq_iff_iff, decide_eq_true_iff, decide_eq_true_iff]
      exact ⟨fun ⟨x, y, z⟩ => ⟨by rw [← x, tl_mkS], by rw [← y, tl_mkS], by rw [← z, tl_mkS]⟩, fun ⟨x, y, z⟩ => ⟨by rw [x, mk_tlS], by rw [y, mk_tlS], by rw [z, mk_tlS]⟩⟩
    have E13 := E1.trans (E2.trans E3)
    have hw3 := (E2.trans E3) _ _ hw
    by_cases hk : a1 = tl ("loose" : Str) ∧ a2 = tl ("at" : Str) ∧ a4 = tl ("for" : Str)
    case neg =>
      refine ⟨_, _, dp_str3 (E3 _ _ g1), dp_str3 upd_same, st, by decide +kernel, _, rfl, iteY (by rw [e3, decide_eq_false hk]; rfl) ⟨(by show 1 ≤ sizeLine; decide), q2 (fun o ho => ?_) _ E13⟩⟩
      cases o with
      | none => exact hok ho.2
      | some ib =>
        obtain ⟨i, bs⟩ := ib
        have := ho.2
        unfold vioW at this
        injection this with x1 this
        injection this with x2 this
        injection this with x3 this
        injection this with x4 this
        exact hk ⟨x1, x2, x4⟩
    refine ⟨_, _, dp_str3 (E3 _ _ g1), dp_str3 upd_same, st, by decide +kernel, _, rfl, iteN (by rw [e3, decide_eq_true hk]; rfl) ?_⟩
    obtain ⟨rfl, rfl, rfl⟩ := hk
    generalize upd H2 t2 (.tup [.str "loose", .str "at", .str "for"]) = H3 at *
    have bad : ∀ o, IsVio [tl ("loose" : Str), tl ("at" : Str), a3, tl ("for" : Str), a5] o → ∃ i bs, IsInt a3 i ∧ a5 = bitsL bs ∧ o = some (i, bs) := fun o ho => by
      cases o with
      | none => exact absurd ho.2 hok
      | some ib =>
        obtain ⟨i, bs⟩ := ib
        have := ho.2
        unfold vioW at this
        injection this with x1 this
        injection this with x2 this
        injection this with x3 this
        injection this with x4 this
        injection this with x5 this
        exact ⟨i, bs, ⟨ho.1, x3⟩, x5, rfl⟩
    refine ⟨_, rfl, _, _, _, _, rfl, rfl, SqL.of hw3, atI_nat (j := 2) rfl, a3, rfl, (hws a3 (by simp)).1, fun i H4 hi E4 => ?_, fun hn H4 E4 => q2 (fun o ho => ?_) _ (E13.trans E4)⟩
    · refine ⟨_, rfl, _, _, _, _, rfl, rfl, SqL.of (E4 _ _ hw3), atI_nat (j := 4) rfl, a5, rfl, (hws a5 (by simp)).1, fun v t H5 hv E5 ht => ⟨(by show 2 ≤ sizeLine; decide), fun c nc => ?_⟩, fun hn H5 E5 => q2 (fun o ho => ?_) _ (E13.trans (E4.trans E5))⟩
      · exact q1 (some (i, v)) (.ref c) _ ⟨hi.1, by rw [hi.2, hv]; rfl⟩ ((E13.trans (E4.trans E5)).trans (Ex.new nc)) ⟨c, t, rfl, upd_same, (Ex.new nc) _ _ ht⟩
      · obtain ⟨i', bs, _, h, _⟩ := bad o ho
        exact hn bs h
    · obtain ⟨i', bs, h, _, _⟩ := bad o ho
      exact hn i' h
end
end G
namespace G
open PySem PySem.Spec PyProof.Rows L2 Evl TL
def NameG (n : List Nat) : Prop := ∃ (x : List Nat) (xs : List (List Nat)), n = joinL [47] (x :: xs) ∧ ∀ p ∈ x :: xs, isName p = true
def RowOkG (x : RowR) : Prop := NameG x.name ∧ FewO x.setup ∧ FewO x.hold ∧ VioG x.vio
def IsHead (Y : List Nat) (m : List Nat) (i : Int) : Prop := isName m = true ∧ 1 ≤ i ∧ Few i ∧ Y = joinL [32] [tl ("module" : Str), m, tl ("period" : Str), intL i]
def IsRow (Y : List Nat) (x : RowR) : Prop := RowOkG x ∧ Y = rowLR x
def CheckOk (rows : List RowR) : Prop := (rows.map (·.name)).Nodup ∧ ∃ sz : Nat, ∀ x ∈ rows, ∀ i bs, x.vio = some (i, bs) → bs.length = sz
def IsRep (Y : List Nat) (r : RepR) : Prop := isName r.modu = true ∧ 1 ≤ r.per ∧ Few r.per ∧ (∀ x ∈ r.rows, RowOkG x) ∧ CheckOk r.rows ∧ Y = r.text
theorem nameG_free {n : List Nat} (h : NameG n) {s : Nat} (hs : isRun s = false) (h47 : s ≠ 47) : s ∉ n := fun hm => by
  obtain ⟨x, xs, rfl, hw⟩ := h
  rcases joinL_mem _ _ _ _ hm with ⟨p, hp, hc⟩ | z
  · exact word_free (isName_word (hw p hp)) hs hc
  · exact h47 (List.mem_singleton.mp z)
theorem rowW_freeG {x : RowR} (h : NameG x.name) {s : Nat} (hs : s = 32 ∨ s = 10) : ∀ p ∈ rowW x, s ∉ p := fun p hp => by
  unfold rowW at hp
  rcases List.mem_append.mp hp with y | y
  · simp only [List.mem_cons, List.not_mem_nil, or_false] at y
    rcases y with z | z | z | z | z | z <;> rw [z]
    · rcases hs with rfl | rfl <;> exact (by decide +kernel)
    · rcases hs with rfl | rfl
      · exact nameG_free h run_signs.2.1 (by decide)
      · exact nameG_free h run_signs.2.2 (by decide)
    · rcases hs with rfl | rfl <;> exact (by decide +kernel)
    · exact mL_free hs
    · rcases hs with rfl | rfl <;> exact (by decide +kernel)
    · exact mL_free hs
  · exact vioW_free hs p y
theorem head_freeG {m : List Nat} {i : Int} (hm : isName m = true) {s : Nat} (hs : s = 32 ∨ s = 10) : ∀ p ∈ [tl ("module" : Str), m, tl ("period" : Str), intL i], s ∉ p := fun p hp => by
  simp only [List.mem_cons, List.not_mem_nil, or_false] at hp
  rcases hp with z | z | z | z <;> rw [z]
  · rcases hs with rfl | rfl <;> exact (by decide +kernel)
  · rcases hs with rfl | rfl
    · exact word_free (isName_word hm) run_signs.2.1
    · exact word_free (isName_word hm) run_signs.2.2
  · rcases hs with rfl | rfl <;> exact (by decide +kernel)
  · rcases hs with rfl | rfl <;> exact intL_free (by decide)
theorem k32 : (mk [32]).cps.all (· < 256) = true := by decide +kernel
theorem k47 : (mk [47]).cps.all (· < 256) = true := by decide +kernel
theorem k10 : (mk [10]).cps.all (· < 256) = true := by decide +kernel
theorem head_words {x m : List Nat} {xs : List (List Nat)} {i : Int} (hf : ∀ p ∈ x :: xs, 32 ∉ p) (h : IsHead (joinL [32] (x :: xs)) m i) : x :: xs = [tl ("module" : Str), m, tl ("period" : Str), intL i] :=
  join_inj k32 hf (head_freeG h.1 (.inl rfl)) h.2.2.2
theorem row_words {x : List Nat} {xs : List (List Nat)} {r : RowR} (hf : ∀ p ∈ x :: xs, 32 ∉ p) (h : IsRow (joinL [32] (x :: xs)) r) : x :: xs = rowW r :=
  join_inj k32 hf (rowW_freeG h.1.1 (.inl rfl)) h.2
theorem name_words {y : List Nat} {ys : List (List Nat)} (hf : ∀ p ∈ y :: ys, 47 ∉ p) (h : NameG (joinL [47] (y :: ys))) : ∀ p ∈ y :: ys, isName p = true := by
  obtain ⟨x, xs, e, hw⟩ := h
  have := join_inj k47 hf (fun p hp => word_free (isName_word (hw p hp)) run_signs.1) e
  rw [this]
  exact hw
theorem piece_len {s : Nat} {x : List Nat} {xs : List (List Nat)} {n : Nat} (h : (joinL [s] (x :: xs)).length ≤ n) : ∀ p ∈ x :: xs, p.length ≤ n := fun p hp => Nat.le_trans (joinL_part [s] x xs p hp) h
theorem piece_mem (s : List Nat) : ∀ (x : List Nat) (xs : List (List Nat)) (p : List Nat), p ∈ x :: xs → ∀ c ∈ p, c ∈ joinL s (x :: xs)
  | x, [], p, hp, c, hc => by rw [List.mem_singleton.mp hp] at hc; exact hc
  | x, y :: ys, p, hp, c, hc => by
    show c ∈ x ++ (s ++ joinL s (y :: ys))
    rcases List.mem_cons.mp hp with z | z
    · rw [z] at hc; exact List.mem_append_left _ hc
    · exact List.mem_append_right _ (List.mem_append_right _ (piece_mem s y ys p z c hc))
theorem join_count (s : List Nat) : ∀ (x : List Nat) (xs : List (List Nat)), xs.length * s.length ≤ (joinL s (x :: xs)).length
  | x, [] => by show 0 * _ ≤ _; omega
  | x, y :: ys => by
    have := join_count s y ys
    show (ys.length + 1) * s.length ≤ (x ++ (s ++ joinL s (y :: ys))).length
    rw [List.length_append, List.length_append, Nat.succ_mul]; omega
section
variable {P : Program} {w : World} {K : PySem.W.Frag} {mg : Str → Option Value} {base : Heap}
def spCleanG : Sp := fun vs H Q _ => ∃ (a : Addr) (r : RepR), vs = [.ref a] ∧ RepAtR H a r ∧ r.rows.length ≤ 60 ∧ ∀ H', Ex H H' → Q (.bl r.clean) H'
theorem sc_is_clean_report : FnScope ["report", "row"] ["report"] (defScope s_is_clean_report) := ⟨rfl, rfl, rfl, by decide +kernel, rfl, by decide +kernel, by decide +kernel⟩
theorem ok_is_clean_reportG (D : Dfd K mg "is_clean_report" s_is_clean_report ["report"]) (T : TxtP K mg) : Has P w K mg base 1 "is_clean_report" ["report"] spCleanG := by
  refine D.has fun f fd F => F.ok sc_is_clean_report (fun vs H Q E h => ?_) (fun cdv A outer s H vs Q E hr h => ?_)
  · obtain ⟨a, r, rfl, _⟩ := h
    rfl
  · obtain ⟨a, r, rfl, ⟨rt, ra, ha, hrt, hA⟩, hl, q⟩ := h
    refine ⟨_, (pss_one (ps_ret (pe_callB (cr_all rfl) (by rfl) T.all (by decide +kernel) (pa_cons (pe_lc (own := [("row", 1)]) (g := gName 1) (tt := tYes) rfl sc_is_clean_report.nd (pi_tup (pe_ix ix_tup (pv 0) pe_int (fun _ _ => rfl))) (blkOk_by (N := ["report", "row"]) (sc := defScope s_is_clean_report) (own := [("row", 1)]) (by decide +kernel)) (fun _ _ _ _ _ => (pg_name (i := 1) sc_is_clean_report.nd rfl (.inl rfl))) (fun _ _ _ _ _ => pts_nil) (fun _ _ _ _ _ => (pe_cmpR op_isN (pe_ix (kIxT (K := K) rfl) (pv 1) pe_int (fun _ _ => rfl)) pe_non (nomark _)))) pa_nil)))), ?_⟩
    refine ⟨_, rfl, _, _, _, _, rfl, rfl, SqT.of ha, atI_nat (j := 2) rfl, rt, rfl, ⟨_, SqT.of hrt⟩, fun L nL => wk_tup (K := K) (a := rt) (xs := ra.map V.ref)
      (fun k H' => Ex H H' ∧ H' L = some (.lst (((r.rows.take k).map fun x => x.vio.isNone).map V.bl))) ⟨Ex.new nL, upd_same⟩ (fun k H' _ g => SqT.of (g.1 _ _ hrt)) ?_ ?_⟩
    · rintro k y H4 hy ⟨E4, hL⟩
      obtain ⟨c, hc, rfl⟩ := refs_get hy
      obtain ⟨x, hx, v, h1, h2⟩ := hA.at_ hc
      have hk := (List.getElem?_eq_some_iff.mp hx).1
      refine ⟨rfl, tYes_in ?_⟩
      simp only [wipe, _root_.L2.start, List.map_cons, List.map_nil, List.length_cons, List.length_nil, Nat.reduceAdd, Nat.reduceSub, List.replicate_succ, List.replicate_zero, List.cons_append, List.nil_append, List.set_cons_zero, List.set_cons_succ]
      refine ⟨_, rfl, _, _, _, _, rfl, rfl, SqT.of (E4 _ _ h1), atI_nat (j := 3) rfl, rfl, _, hL, sz_lt (by rw [List.length_map, List.length_map, List.length_take]; omega), E4.mut nL, ?_⟩
      rw [upd_same, take_snoc1 hx, List.map_append, List.map_append, vio_is h2]; rfl
    · rintro H4 ⟨E4, hL⟩
      rw [List.length_map, hA.1, List.take_length] at hL
      refine ⟨L, _, rfl, SqL.of hL, ?_⟩
      have := q H4 E4
      have e : (r.rows.map fun x => x.vio.isNone).all id = r.clean := by rw [List.all_map]; rfl
      rw [e]
      exact this
def spVerdG : Sp := fun vs H Q _ => ∃ (a : Addr) (r : RepR), vs = [.ref a] ∧ RepAtR H a r ∧ r.rows.length ≤ 60 ∧ ∀ H', Ex H H' → Q (.str (mk (verdL r.clean))) H'
theorem sc_verdict : FnScope ["report"] ["report"] (defScope s_verdict) := ⟨rfl, rfl, rfl, by decide +kernel, rfl, by decide +kernel, by decide +kernel⟩
theorem ok_verdictG (D : Dfd K mg "_verdict" s_verdict ["report"]) (C1 : Has P w K mg base 1 "is_clean_report" ["report"] spCleanG) : Has P w K mg base 2 "_verdict" ["report"] spVerdG := by
  obtain ⟨f_is_clean_report, d_is_clean_report, G_is_clean_report, g_is_clean_report, k_is_clean_report, b_is_clean_report⟩ := C1
  refine D.has fun f fd F => F.ok sc_verdict (fun vs H Q E h => ?_) (fun cdv A outer s H vs Q E hr h => ?_)
  · obtain ⟨a, r, rfl, _⟩ := h
    rfl
  · obtain ⟨a, r, rfl, hrep, hl, q⟩ := h
    refine ⟨_, (pss_one (ps_ret (pe_ifExp (pt_val (pe_call G_is_clean_report (hr.mono (by omega)) (by rfl) g_is_clean_report k_is_clean_report b_is_clean_report .nil pass0 (pa_cons (pv 0) pa_nil))) pe_str pe_str))), ?_⟩
    refine ⟨_, rfl, a, r, rfl, hrep, hl, fun H1 E1 => ?_⟩
    have := q H1 E1
    cases hc : r.clean <;> rw [hc] at this
    · exact ⟨_, rfl, iteF this⟩
    · exact ⟨_, rfl, iteT this⟩
def spUN : Sp := fun vs H Q _ => ∃ Y : List Nat, vs = [.str (mk Y)] ∧ Y.length ≤ 50000 ∧ ∀ H', Ex H H' → Q (.bl (isName Y)) H'
theorem ok_uis_nameG (D : Dfd K mg "_is_name" s_uis_name ["word"]) (C : Has P w K mg base 2 "is_name" ["token"] spIsName) : Has P w K mg base 3 "_is_name" ["word"] spUN := by
  obtain ⟨f_is_name, d_is_name, G_is_name, g_is_name, k_is_name, b_is_name⟩ := C
  refine D.has fun f fd F => F.ok sc_uis_name (fun vs H Q E h => ?_) (fun cdv A outer s H vs Q E hr h => ?_)
  · obtain ⟨T, rfl, _⟩ := h
    rfl
  · obtain ⟨Y, rfl, hlen, q⟩ := h
    refine ⟨_, (pss_one (ps_ret (pe_and (pe_cmpR op_ne (pv 0) pe_str (nomark _)) (pe_one (pe_call G_is_name (hr.mono (by omega)) (by rfl) g_is_name k_is_name b_is_name .nil pass0 (pa_cons (pv 0) pa_nil)))))), ?_⟩
    have hd : (!decide (V.str (mk Y) = V.str (mk []))) = !decide (Y = []) := by rw [decV_mk]
    by_cases hne : Y = []
    · refine ⟨_, rfl, rfl, _, rfl, iteN (hd.trans (by rw [decide_eq_true hne]; rfl)) ?_⟩
      have := q H (Ex.refl _)
      rw [hne] at this
      exact this
    · exact ⟨_, rfl, rfl, _, rfl, iteY (hd.trans (by rw [decide_eq_false hne]; rfl)) ⟨_, rfl, Y, rfl, hne, hlen, q⟩⟩
def spHeadG (B : Addr) : Sp := fun vs H Q E => ∃ Y : List Nat, vs = [.str (mk Y)] ∧ Y.length ≤ 50000 ∧ (∀ (m : List Nat) (i : Int) (a : Addr) (H' : Hp), IsHead Y m i → Ex H H' → H' a = some (.tup [.str (mk m), .int i]) → Q (.ref a) H') ∧ ((∀ m i, ¬ IsHead Y m i) → ∀ H', Ex H H' → E (.ref B) none H')
theorem sc_read_head : FnScope ["line", "words", "period"] ["line"] (defScope s_read_head) := ⟨rfl, rfl, rfl, by decide +kernel, rfl, by decide +kernel, by decide +kernel⟩
theorem ok_read_headG {B : Addr} (D : Dfd K mg "_read_head" s_read_head ["line"]) (UB : ExcT K mg "BadReport" B) (T : TxtP K mg) (C1 : HasX P w K mg base 2 "_read_integer" ["word"] (spRIntG B)) (C2 : Has P w K mg base 3 "_is_name" ["word"] spUN) : HasX P w K mg base 4 "_read_head" ["line"] (spHeadG B) := by
  obtain ⟨f_read_integer, d_read_integer, G_read_integer, g_read_integer, k_read_integer, b_read_integer⟩ := C1
  obtain ⟨f_uis_name, d_uis_name, G_uis_name, g_uis_name, k_uis_name, b_uis_name⟩ := C2
  obtain ⟨f, fd, F, gf, bf⟩ := D
  refine ⟨f, fd, F.okX sc_read_head (fun vs H Q E h => ?_) (fun cdv A outer s H vs Q E hr h => ?_), gf, F.kp, bf⟩
  · obtain ⟨r, rfl, _⟩ := h
    rfl
  · obtain ⟨Y, rfl, hl, q1, q2⟩ := h
    refine ⟨_, (pss_cons (ps_set (i := 1) sc_read_head.nd rfl (.inl rfl) (pe_bm PySem.F.plainAttrs_str PySem.F.slot_str_split PySem.F.type_str_split mt_split (pv 0) (pa_cons pe_str pa_nil)))
    (pss_cons (ps_if (PW.pt (pw_or (pt_cmpR op_ne (pe_callB call_len_seq (by rfl) T.len (by decide +kernel) (pa_cons (pv 1) pa_nil)) pe_int (nomark _)) (pw_or (pt_cmpR op_ne (pe_ix ix_list (pv 1) pe_int (fun _ _ => rfl)) pe_str (nomark _)) (pw_or (pt_cmpR op_ne (pe_ix ix_list (pv 1) pe_int (fun _ _ => rfl)) pe_str (nomark _)) (pw_or1 (pt_not (pt_val (pe_call G_uis_name (hr.mono (by omega)) (by rfl) g_uis_name k_uis_name b_uis_name .nil pass0 (pa_cons (pe_ix ix_list (pv 1) pe_int (fun _ _ => rfl)) pa_nil)))))))))
      (pss_one (ps_raise rfl (takes_of rfl rfl rfl rfl) (pmk_ownA PySem.F.excBase_ValueError UB.xP UB.gC UB.kC (raises_own UB.bC UB.tC) rfl (pa_cons pe_str pa_nil))))
      pss_nil)
    (pss_cons (ps_set (i := 2) sc_read_head.nd rfl (.inl rfl) (pe_call G_read_integer (hr.mono (by omega)) (by rfl) g_read_integer k_read_integer b_read_integer .nil (passes_call (takes_of rfl rfl rfl rfl) fun _ _ _ _ h => h) (pa_cons (pe_ix ix_list (pv 1) pe_int (fun _ _ => rfl)) pa_nil)))
    (pss_cons (ps_if (pt_cmpR op_lt (pv 2) pe_int (nomark _))
      (pss_one (ps_raise rfl (takes_of rfl rfl rfl rfl) (pmk_ownA PySem.F.excBase_ValueError UB.xP UB.gC UB.kC (raises_own UB.bC UB.tC) rfl (pa_cons pe_str pa_nil))))
      pss_nil)
    (pss_one (ps_ret (pe_tup (pa_cons (pe_ix ix_list (pv 1) pe_int (fun _ _ => rfl)) (pa_cons (pv 2) pa_nil))))))))), ?_⟩
    obtain ⟨x, xs, rfl, hf⟩ := split_ex 32 Y
    refine ⟨_, rfl, rfl, _, _, rfl, rfl, by decide, sz_of (by rw [mk_len]; omega), ?_⟩
    rw [show Txt.split (mk (joinL [32] (x :: xs))) (" " : Str) = (x :: xs).map mk from split_mk k32 hf]
    intro wd nw
    have E1 : Ex H (upd H wd (.lst (((x :: xs).map mk).map V.str))) := Ex.new nw
    have hw : upd H wd (.lst (((x :: xs).map mk).map V.str)) wd = some (.lst (strV (x :: xs))) := by rw [upd_same, List.map_map]; rfl
    generalize upd H wd (.lst (((x :: xs).map mk).map V.str)) = H1 at *
    have wds : ∀ m i, IsHead (joinL [32] (x :: xs)) m i → x :: xs = [tl ("module" : Str), m, tl ("period" : Str), intL i] := fun m i h => head_words hf h
    have hpl := piece_len hl
    generalize hws : x :: xs = ws at *
    have sl : (strV ws).length = ws.length := by unfold strV; rw [List.length_map]
    have e4 : (!decide (V.int ((strV ws).length : Int) = V.int 4)) = !decide (ws.length = 4) := by
      rw [sl]
      congr 1
      rw [Bool.eq_iff_iff, decide_eq_true_iff, decide_eq_true_iff]
      exact ⟨fun z => by have := V.int.inj z; omega, fun z => by rw [z]; rfl⟩
    have sz1 : 1 ≤ sizeLine := by decide
    by_cases h4 : ws.length = 4
    case neg =>
      exact ⟨_, rfl, wd, _, rfl, .inl (SqL.of hw), rfl, _, rfl, iteY (by rw [e4, decide_eq_false h4]; rfl) ⟨sz1, q2 (fun m i h => h4 (by rw [wds m i h]; rfl)) _ E1⟩⟩
    obtain ⟨a1, a2, a3, a4, rfl⟩ : ∃ a1 a2 a3 a4, ws = [a1, a2, a3, a4] := by
      match ws, h4 with
      | [a1, a2, a3, a4], _ => exact ⟨a1, a2, a3, a4, rfl⟩
    have hw : H1 wd = some (.lst [.str (mk a1), .str (mk a2), .str (mk a3), .str (mk a4)]) := hw
    have ne1 : ∀ v : V, (!decide (v = v)) = false := fun v => by rw [decide_eq_true rfl]; rfl
    have ds : ∀ (a : List Nat) (b : Str), (!decide (V.str (mk a) = V.str b)) = !decide (a = tl b) := fun a b => by rw [← mk_tlS b, decV_mk, tl_mkS]
    by_cases c1 : a1 = tl ("module" : Str)
    case neg =>
      exact ⟨_, rfl, wd, _, rfl, .inl (SqL.of hw), rfl, _, rfl, iteN (ne1 (.int 4)) ⟨_, rfl, _, _, _, _, rfl, rfl, SqL.of hw, atI_nat (j := 0) rfl, rfl, _, rfl, iteY ((ds a1 "module").trans (by rw [decide_eq_false c1]; rfl)) ⟨sz1, q2 (fun m i h => c1 (by have := wds m i h; injection this)) _ E1⟩⟩⟩
    by_cases c3 : a3 = tl ("period" : Str)
    case neg =>
      exact ⟨_, rfl, wd, _, rfl, .inl (SqL.of hw), rfl, _, rfl, iteN (ne1 (.int 4)) ⟨_, rfl, _, _, _, _, rfl, rfl, SqL.of hw, atI_nat (j := 0) rfl, rfl, _, rfl, iteN ((ds a1 "module").trans (by rw [decide_eq_true c1]; rfl)) ⟨_, rfl, _, _, _, _, rfl, rfl, SqL.of hw, atI_nat (j := 2) rfl, rfl, _, rfl, iteY ((ds a3 "period").trans (by rw [decide_eq_false c3]; rfl)) ⟨sz1, q2 (fun m i h => c3 (by have := wds m i h; injection this with _ this; injection this with _ this; injection this)) _ E1⟩⟩⟩⟩
    refine ⟨_, rfl, wd, _, rfl, .inl (SqL.of hw), rfl, _, rfl, iteN (ne1 (.int 4)) ⟨_, rfl, _, _, _, _, rfl, rfl, SqL.of hw, atI_nat (j := 0) rfl, rfl, _, rfl, iteN ((ds a1 "module").trans (by rw [decide_eq_true c1]; rfl)) ⟨_, rfl, _, _, _, _, rfl, rfl, SqL.of hw, atI_nat (j := 2) rfl, rfl, _, rfl, iteN ((ds a3 "period").trans (by rw [decide_eq_true c3]; rfl)) ⟨_, rfl, _, _, _, _, rfl, rfl, SqL.of hw, atI_nat (j := 1) rfl, a2, rfl, hpl a2 (by simp), fun H2 E2 => ?_⟩⟩⟩⟩
    have hw3 := E2 _ _ hw
    have inv : ∀ m i, IsHead (joinL [32] [a1, a2, a3, a4]) m i → isName a2 = true ∧ IsInt a4 i ∧ 1 ≤ i := fun m i h => by
      have e := wds m i h
      injection e with _ e
      injection e with e2 e
      injection e with _ e
      injection e with e4 e
      exact ⟨by rw [e2]; exact h.1, ⟨h.2.2.1, e4⟩, h.2.1⟩
    cases hn : isName a2 with
    | false => exact ⟨_, rfl, iteY rfl ⟨sz1, q2 (fun m i h => by have := (inv m i h).1; rw [hn] at this; cases this) _ (E1.trans E2)⟩⟩
    | true =>
      refine ⟨_, rfl, iteN rfl ⟨_, rfl, _, _, _, _, rfl, rfl, SqL.of hw3, atI_nat (j := 3) rfl, a4, rfl, by have := hpl a4 (by simp); omega, fun i H3 hi E3 => ?_, fun hno H3 E3 => q2 (fun m i h => hno i (inv m i h).2.1) _ (E1.trans (E2.trans E3))⟩⟩
      by_cases h1 : i < 1
      · exact ⟨_, rfl, _, _, rfl, rfl, _, rfl, iteY (decide_eq_true h1) ⟨sz1, q2 (fun m j h => by
          obtain ⟨_, hj, h1j⟩ := inv m j h
          have a := int_back hj.1
          have b := int_back hi.1
          rw [← hj.2] at a
          rw [← hi.2, a] at b
          injection b with b
          omega) _ (E1.trans (E2.trans E3))⟩⟩
      · refine ⟨_, rfl, _, _, rfl, rfl, _, rfl, iteN (decide_eq_false h1) ⟨_, rfl, _, _, _, _, rfl, rfl, SqL.of (E3 _ _ hw3), atI_nat (j := 1) rfl, _, rfl, (by show 2 ≤ sizeLine; decide), fun c nc => ?_⟩⟩
        exact q1 a2 i c _ ⟨hn, by omega, hi.1, by rw [c1, c3, ← hi.2]⟩ ((E1.trans (E2.trans E3)).trans (Ex.new nc)) upd_same
end
end G
namespace G
open PySem PySem.Spec PyProof.Rows L2 Evl TL
section
variable {P : Program} {w : World} {K : PySem.W.Frag} {mg : Str → Option Value} {base : Heap}
def spRowG (B : Addr) : Sp := fun vs H Q E => ∃ Y : List Nat, vs = [.str (mk Y)] ∧ Y.length ≤ 50000 ∧ (∀ c ∈ Y, c < 200) ∧ (∀ (x : RowR) (a : Addr) (H' : Hp), IsRow Y x → Ex H H' → RowAtR H' a x → Q (.ref a) H') ∧ ((∀ x, ¬ IsRow Y x) → ∀ H', Ex H H' → E (.ref B) none H')
theorem sc_read_row : FnScope ["line", "words", "piece"] ["line"] (defScope s_read_row) := ⟨rfl, rfl, rfl, by decide +kernel, rfl, by decide +kernel, by decide +kernel⟩
theorem ok_read_rowG {B : Addr} (D : Dfd K mg "_read_row" s_read_row ["line"]) (UB : ExcT K mg "BadReport" B) (T : TxtP K mg) (C1 : Has P w K mg base 3 "_is_name" ["word"] spUN) (C2 : HasX P w K mg base 3 "_read_margin" ["word"] (spMarG B)) (C3 : HasX P w K mg base 3 "_read_violation" ["words"] (spVioG B)) : HasX P w K mg base 4 "_read_row" ["line"] (spRowG B) := by
  obtain ⟨f_uis_name, d_uis_name, G_uis_name, g_uis_name, k_uis_name, b_uis_name⟩ := C1
  obtain ⟨f_read_margin, d_read_margin, G_read_margin, g_read_margin, k_read_margin, b_read_margin⟩ := C2
  obtain ⟨f_read_violation, d_read_violation, G_read_violation, g_read_violation, k_read_violation, b_read_violation⟩ := C3
  obtain ⟨f, fd, F, gf, bf⟩ := D
  refine ⟨f, fd, F.okX sc_read_row (fun vs H Q E h => ?_) (fun cdv A outer s H vs Q E hr h => ?_), gf, F.kp, bf⟩
  · obtain ⟨r, rfl, _⟩ := h
    rfl
  · obtain ⟨Y, rfl, hl, hc, q1, q2⟩ := h
    refine ⟨_, (pss_cons (ps_set (i := 1) sc_read_row.nd rfl (.inl rfl) (pe_bm PySem.F.plainAttrs_str PySem.F.slot_str_split PySem.F.type_str_split mt_split (pv 0) (pa_cons pe_str pa_nil)))
    (pss_cons (ps_if (PW.pt (pw_or (pt_cmpR op_lt (pe_callB call_len_seq (by rfl) T.len (by decide +kernel) (pa_cons (pv 1) pa_nil)) pe_int (nomark _)) (pw_or1 (pt_cmpR (op_neD hr.units) (pe_tup (pa_cons (pe_ix ix_list (pv 1) pe_int (fun _ _ => rfl)) (pa_cons (pe_ix ix_list (pv 1) pe_int (fun _ _ => rfl)) (pa_cons (pe_ix ix_list (pv 1) pe_int (fun _ _ => rfl)) pa_nil)))) (pe_tup (pa_cons pe_str (pa_cons pe_str (pa_cons pe_str pa_nil)))) (nomark _)))))
      (pss_one (ps_raise rfl (takes_of rfl rfl rfl rfl) (pmk_ownA PySem.F.excBase_ValueError UB.xP UB.gC UB.kC (raises_own UB.bC UB.tC) rfl (pa_cons pe_str pa_nil))))
      pss_nil)
    (pss_cons (ps_if (pt_not (pt_val (pe_callB (cr_all rfl) (by rfl) T.all (by decide +kernel) (pa_cons (pe_lc (own := [("piece", 2)]) (g := gName 2) (tt := tYes) rfl sc_read_row.nd (pi_list (pe_bm PySem.F.plainAttrs_str PySem.F.slot_str_split PySem.F.type_str_split mt_split (pe_ix ix_list (pv 1) pe_int (fun _ _ => rfl)) (pa_cons pe_str pa_nil))) (blkOk_by (N := ["line", "words", "piece"]) (sc := defScope s_read_row) (own := [("piece", 2)]) (by decide +kernel)) (fun _ _ _ _ _ => (pg_name (i := 2) sc_read_row.nd rfl (.inl rfl))) (fun _ _ _ _ _ => pts_nil) (fun _ _ _ _ _ => (pe_call G_uis_name (hr.mono (by omega)) (by rfl) g_uis_name k_uis_name b_uis_name .nil pass0 (pa_cons (pv 2) pa_nil)))) pa_nil))))
      (pss_one (ps_raise rfl (takes_of rfl rfl rfl rfl) (pmk_ownA PySem.F.excBase_ValueError UB.xP UB.gC UB.kC (raises_own UB.bC UB.tC) rfl (pa_cons pe_str pa_nil))))
      pss_nil)
    (pss_one (ps_ret (pe_tup (pa_cons (pe_ix ix_list (pv 1) pe_int (fun _ _ => rfl)) (pa_cons (pe_call G_read_margin (hr.mono (by omega)) (by rfl) g_read_margin k_read_margin b_read_margin .nil (passes_call (takes_of rfl rfl rfl rfl) fun _ _ _ _ h => h) (pa_cons (pe_ix ix_list (pv 1) pe_int (fun _ _ => rfl)) pa_nil)) (pa_cons (pe_call G_read_margin (hr.mono (by omega)) (by rfl) g_read_margin k_read_margin b_read_margin .nil (passes_call (takes_of rfl rfl rfl rfl) fun _ _ _ _ h => h) (pa_cons (pe_ix ix_list (pv 1) pe_int (fun _ _ => rfl)) pa_nil)) (pa_cons (pe_call G_read_violation (hr.mono (by omega)) (by rfl) g_read_violation k_read_violation b_read_violation .nil (passes_call (takes_of rfl rfl rfl rfl) fun _ _ _ _ h => h) (pa_cons (pe_slice sl_list (pv 1) (po_some pe_int) po_none) pa_nil)) pa_nil)))))))))), ?_⟩
    obtain ⟨x, xs, rfl, hf⟩ := split_ex 32 Y
    refine ⟨_, rfl, rfl, _, _, rfl, rfl, by decide, sz_of (by rw [mk_len]; omega), ?_⟩
    rw [show Txt.split (mk (joinL [32] (x :: xs))) (" " : Str) = (x :: xs).map mk from split_mk k32 hf]
    intro wd nw
    have E1 : Ex H (upd H wd (.lst (((x :: xs).map mk).map V.str))) := Ex.new nw
    have hw : upd H wd (.lst (((x :: xs).map mk).map V.str)) wd = some (.lst (strV (x :: xs))) := by rw [upd_same, List.map_map]; rfl
    generalize upd H wd (.lst (((x :: xs).map mk).map V.str)) = H1 at *
    have wds : ∀ r, IsRow (joinL [32] (x :: xs)) r → x :: xs = rowW r := fun r h => row_words hf h
    have hpl := piece_len hl
    have hps : ∀ p ∈ x :: xs, ∀ c ∈ p, c < 200 := fun p hp c hcp => hc c (piece_mem [32] x xs p hp c hcp)
    generalize hws : x :: xs = ws at *
    have sl : (strV ws).length = ws.length := by unfold strV; rw [List.length_map]
    have sz1 : 1 ≤ sizeLine := by decide
    by_cases h7 : ws.length < 7
    · exact ⟨_, rfl, wd, _, rfl, .inl (SqL.of hw), _, _, rfl, rfl, _, rfl, iteY (by rw [sl]; exact decide_eq_true (by omega)) ⟨sz1, q2 (fun r h => by
        have e := wds r h
        obtain ⟨y, ys, hy⟩ := vioW_cons r.vio
        rw [e] at h7
        unfold rowW at h7
        rw [hy, List.length_append, List.length_cons (as := ys)] at h7
        have e6 : ([tl ("reg" : Str), r.name, tl ("setup" : Str), mL r.setup, tl ("hold" : Str), mL r.hold]).length = 6 := rfl
        omega) _ E1⟩⟩
    obtain ⟨a1, a2, a3, a4, a5, a6, vs, rfl, hvne⟩ : ∃ a1 a2 a3 a4 a5 a6 vs, ws = [a1, a2, a3, a4, a5, a6] ++ vs ∧ vs ≠ [] := by
      match ws, h7 with
      | a1 :: a2 :: a3 :: a4 :: a5 :: a6 :: v :: vs, _ => exact ⟨a1, a2, a3, a4, a5, a6, v :: vs, rfl, by simp⟩
      | [], h => exact absurd (by decide : ([] : List (List Nat)).length < 7) h
      | [_], h => exact absurd (by show 1 < 7; decide) h
      | [_, _], h => exact absurd (by show 2 < 7; decide) h
      | [_, _, _], h => exact absurd (by show 3 < 7; decide) h
      | [_, _, _, _], h => exact absurd (by show 4 < 7; decide) h
      | [_, _, _, _, _], h => exact absurd (by show 5 < 7; decide) h
      | [_, _, _, _, _, _], h => exact absurd (by show 6 < 7; decide) h
    have hw : H1 wd = some (.lst ([.str (mk a1), .str (mk a2), .str (mk a3), .str (mk a4), .str (mk a5), .str (mk a6)] ++ strV vs)) := hw
    have inv : ∀ r, IsRow (joinL [32] ([a1, a2, a3, a4, a5, a6] ++ vs)) r → (a1 = tl ("reg" : Str) ∧ a3 = tl ("setup" : Str) ∧ a5 = tl ("hold" : Str)) ∧ a2 = r.name ∧ NameG a2 ∧ IsMar a4 r.setup ∧ IsMar a6 r.hold ∧ IsVio vs r.vio := fun r h => by
      have e := wds r h
      unfold rowW at e
      injection e with e1 e
      injection e with e2 e
      injection e with e3 e
      injection e with e4 e
      injection e with e5 e
      injection e with e6 e
      exact ⟨⟨e1, e3, e5⟩, e2, by rw [e2]; exact h.1.1, ⟨h.1.2.1, e4⟩, ⟨h.1.2.2.1, e6⟩, ⟨h.1.2.2.2, e⟩⟩
    refine ⟨_, rfl, wd, _, rfl, .inl (SqL.of hw), _, _, rfl, rfl, _, rfl, iteN ?_ ?_⟩
    · unfold strV
      rw [List.length_append, List.length_map]
      have : 1 ≤ vs.length := List.length_pos_iff.mpr hvne
      exact decide_eq_false (by show ¬ (((6 + vs.length : Nat) : Int) < 7); omega)
    refine ⟨_, rfl, _, _, _, _, rfl, rfl, SqL.of hw, atI_nat (j := 0) rfl, _, rfl, _, _, _, _, rfl, rfl, SqL.of hw, atI_nat (j := 2) rfl, _, rfl, _, _, _, _, rfl, rfl, SqL.of hw, atI_nat (j := 4) rfl, (by show 3 ≤ sizeLine; decide), fun t1 n1 => ⟨(by show 3 ≤ sizeLine; decide), fun t2 n2 => ?_⟩⟩
    have E2 : Ex H1 (upd H1 t1 (.tup [.str (mk a1), .str (mk a3), .str (mk a5)])) := Ex.new n1
    have g1 : upd H1 t1 (.tup [.str (mk a1), .str (mk a3), .str (mk a5)]) t1 = some (.tup [.str (mk a1), .str (mk a3), .str (mk a5)]) := upd_same
    generalize upd H1 t1 (.tup [.str (mk a1), .str (mk a3), .str (mk a5)]) = H2 at *
    have E3 : Ex H2 (upd H2 t2 (.tup [.str "reg", .str "setup", .str "hold"])) := Ex.new n2
    have st : SeqAt.shaped (.tuple [.str (mk a1), .str (mk a3), .str (mk a5)]) = true := by
      have o1 := strOk_mk (hps a1 (by simp))
      have o2 := strOk_mk (hps a3 (by simp))
      have o4 := strOk_mk (hps a5 (by simp))
      simp [SeqAt.shaped, PyData.canLay0, PyData.canLayAll0, PyData.depth, PyData.depthAll, o1, o2, o4]
    have e3 : PyData.eqv (.tuple [.str (mk a1), .str (mk a3), .str (mk a5)]) (.tuple [.str "reg", .str "setup", .str "hold"]) = decide (a1 = tl ("reg" : Str) ∧ a3 = tl ("setup" : Str) ∧ a5 = tl ("hold" : Str)) := by
      rw [eqv_tup3, Bool.eq_iff_iff, decide_eq_true_iff, decide_eq_true_iff]
      exact ⟨fun ⟨x, y, z⟩ => ⟨by rw [← x, tl_mkS], by rw [← y, tl_mkS], by rw [← z, tl_mkS]⟩, fun ⟨x, y, z⟩ => ⟨by rw [x, mk_tlS], by rw [y, mk_tlS], by rw [z, mk_tlS]⟩⟩
    have E13 := E1.trans (E2.trans E3)
    have hw3 := (E2.trans E3) _ _ hw
    by_cases hk : a1 = tl ("reg" : Str) ∧ a3 = tl ("setup" : Str) ∧ a5 = tl ("hold" : Str)
    case neg =>
      exact ⟨_, _, dp_str3 (E3 _ _ g1), dp_str3 upd_same, st, by decide +kernel, _, rfl, iteY (by rw [e3, decide_eq_false hk]; rfl) ⟨sz1, q2 (fun r h => hk (inv r h).1) _ E13⟩⟩
    refine ⟨_, _, dp_str3 (E3 _ _ g1), dp_str3 upd_same, st, by decide +kernel, _, rfl, iteN (by rw [e3, decide_eq_true hk]; rfl) ?_⟩
    generalize upd H2 t2 (.tup [.str "reg", .str "setup", .str "hold"]) = H3 at *
    have l2 : a2.length ≤ 50000 := hpl a2 (by simp)
    have l4 : a4.length ≤ 50000 := hpl a4 (by simp)
    have l6 : a6.length ≤ 50000 := hpl a6 (by simp)
    obtain ⟨y, ys, hy, hyf⟩ := split_ex 47 a2
    have es2 : Txt.split (mk a2) ("/" : Str) = (y :: ys).map mk := by rw [hy]; exact split_mk k47 hyf
    have l2' := l2
    rw [hy] at l2'
    have hcnt := join_count [47] y ys
    have e47 : ([47] : List Nat).length = 1 := rfl
    rw [e47, Nat.mul_one] at hcnt
    refine ⟨_, rfl, _, _, _, _, rfl, rfl, SqL.of hw3, atI_nat (j := 1) rfl, rfl, _, _, rfl, rfl, by decide, sz_of (by rw [mk_len]; omega), ?_⟩
    rw [es2]
    intro w2 nw2
    have E4 : Ex H3 (upd H3 w2 (.lst (((y :: ys).map mk).map V.str))) := Ex.new nw2
    have hw2 : upd H3 w2 (.lst (((y :: ys).map mk).map V.str)) w2 = some (.lst (strV (y :: ys))) := by rw [upd_same, List.map_map]; rfl
    generalize upd H3 w2 (.lst (((y :: ys).map mk).map V.str)) = H4 at *
    refine ⟨w2, rfl, ⟨_, SqL.of hw2⟩, fun L nL => wk_list (K := K) (a := w2) (xs := strV (y :: ys)) (fun k H' => Ex H4 H' ∧ H' L = some (.lst ((((y :: ys).take k).map isName).map V.bl))) ⟨Ex.new nL, upd_same⟩ (fun k H' _ g => SqL.of (g.1 _ _ hw2)) ?_ ?_⟩
    · rintro k z H5 hz ⟨E5, hL⟩
      unfold strV at hz
      rw [List.getElem?_map] at hz
      obtain ⟨T1, hT, rfl⟩ := Option.map_eq_some_iff.mp hz
      have hTl := joinL_part [47] y ys T1 (List.mem_of_getElem? hT)
      refine ⟨rfl, tYes_in ?_⟩
      simp only [wipe, _root_.L2.start, List.map_cons, List.map_nil, List.length_cons, List.length_nil, Nat.reduceAdd, Nat.reduceSub, List.replicate_succ, List.replicate_zero, List.cons_append, List.nil_append, List.set_cons_zero, List.set_cons_succ]
      refine ⟨_, rfl, T1, rfl, by omega, fun H6 E6 => ⟨_, E6 _ _ hL, ?_, (E5.trans E6).mut nL, ?_⟩⟩
      · rw [List.length_map, List.length_map, List.length_take, List.length_cons]; exact sz_lt (by omega)
      · rw [upd_same, take_snoc1 hT, List.map_append, List.map_append]; rfl
    rintro H5 ⟨E5, hL⟩
    have e0 : (strV (y :: ys)).length = (y :: ys).length := by unfold strV; rw [List.length_map]
    rw [e0, List.take_length] at hL
    have E35 := E4.trans E5
    have E05 := E13.trans E35
    by_cases hall : ∀ p ∈ y :: ys, isName p = true
    case neg =>
      refine ⟨L, _, rfl, SqL.of hL, _, rfl, iteY ?_ ⟨sz1, q2 (fun r h => hall ?_) _ E05⟩⟩
      · have : ((y :: ys).map isName).all id = false := by
          rw [Bool.eq_false_iff]
          intro z
          rw [List.all_map, List.all_eq_true] at z
          exact hall fun p hp => z p hp
        rw [this]; rfl
      · have hg := (inv r h).2.2.1
        rw [hy] at hg
        exact name_words hyf hg
    refine ⟨L, _, rfl, SqL.of hL, _, rfl, iteN ?_ ?_⟩
    · have : ((y :: ys).map isName).all id = true := by
        rw [List.all_map, List.all_eq_true]
        exact fun p hp => hall p hp
      rw [this]; rfl
    have hw5 := E35 _ _ hw3
    refine ⟨_, rfl, _, _, _, _, rfl, rfl, SqL.of hw5, atI_nat (j := 1) rfl, _, rfl, _, _, _, _, rfl, rfl, SqL.of hw5, atI_nat (j := 3) rfl, a4, rfl, by omega, fun m1 H6 hm1 E6 => ?_, fun hn H6 E6 => q2 (fun r h => hn _ (inv r h).2.2.2.1) _ (E05.trans E6)⟩
    have hw6 := E6 _ _ hw5
    refine ⟨_, rfl, _, _, _, _, rfl, rfl, SqL.of hw6, atI_nat (j := 5) rfl, a6, rfl, by omega, fun m2 H7 hm2 E7 => ?_, fun hn H7 E7 => q2 (fun r h => hn _ (inv r h).2.2.2.2.1) _ (E05.trans (E6.trans E7))⟩
    have hw7 := E7 _ _ hw6
    refine ⟨_, rfl, _, rfl, wd, _, rfl, SqL.of hw7, fun c nc => ?_⟩
    have ec : cutV ([V.str (mk a1), .str (mk a2), .str (mk a3), .str (mk a4), .str (mk a5), .str (mk a6)] ++ strV vs) (some 6) none = strV vs := by
      have : cutV ([V.str (mk a1), .str (mk a2), .str (mk a3), .str (mk a4), .str (mk a5), .str (mk a6)] ++ strV vs) (some ((6 : Nat) : Int)) none = _ := cutV_tail (by rw [List.length_append]; exact Nat.le_add_right _ _)
      rw [show (6 : Int) = ((6 : Nat) : Int) from rfl, this]; rfl
    rw [ec]
    have E07 := E05.trans (E6.trans E7)
    refine ⟨c, vs, rfl, upd_same, fun l hl => ⟨by have := hpl l (by simp [hl]); omega, hps l (by simp [hl])⟩, fun o v H8 ho E8 hv => ⟨(by show 4 ≤ sizeLine; decide), fun a na => ?_⟩, fun hn H8 E8 => q2 (fun r h => hn _ (inv r h).2.2.2.2.2) _ (E07.trans ((Ex.new nc).trans E8))⟩
    refine q1 ⟨a2, m1, m2, o⟩ a _ ⟨⟨⟨y, ys, hy, hall⟩, hm1.1, hm2.1, ho.1⟩, ?_⟩ (E07.trans (((Ex.new nc).trans E8).trans (Ex.new na))) ⟨v, upd_same, hv.te (exTe (Ex.new na))⟩
    unfold rowLR
    show joinL [32] ([a1, a2, a3, a4, a5, a6] ++ vs) = joinL [32] ([tl ("reg" : Str), a2, tl ("setup" : Str), mL m1, tl ("hold" : Str), mL m2] ++ vioW o)
    rw [hk.1, hk.2.1, hk.2.2, hm1.2, hm2.2, ho.2]
end
end G
namespace G
open PySem PySem.Spec PyProof.Rows L2 Evl TL
theorem nodup_of : ∀ {xs l : List Str}, l.Nodup → (∀ x ∈ l, x ∈ xs) → (∀ x ∈ xs, x ∈ l) → xs.length ≤ l.length → xs.Nodup
  | [], _, _, _, _, _ => List.nodup_nil
  | x :: t, l, d, h1, h2, hl => by
    have hx := h2 x List.mem_cons_self
    by_cases hxt : x ∈ t
    · have := nodup_le d fun y hy => by
        rcases List.mem_cons.mp (h1 y hy) with z | z
        · rw [z]; exact hxt
        · exact z
      rw [List.length_cons] at hl
      omega
    · refine List.nodup_cons.mpr ⟨hxt, nodup_of (l := l.erase x) (d.erase x) (fun y hy => ?_) (fun y hy => ?_) ?_⟩
      · obtain ⟨a, b⟩ := d.mem_erase_iff.mp hy
        rcases List.mem_cons.mp (h1 y b) with z | z
        · exact absurd z a
        · exact z
      · exact d.mem_erase_iff.mpr ⟨fun z => hxt (z ▸ hy), h2 y (List.mem_cons_of_mem _ hy)⟩
      · rw [List.length_erase_of_mem hx]; rw [List.length_cons] at hl; omega
theorem mL_inj {m n : Option Int} (hm : FewO m) (hn : FewO n) (e : mL m = mL n) : m = n := by
  cases m with
  | none =>
    cases n with
    | none => rfl
    | some j => exact absurd e.symm mL_none
  | some i =>
    cases n with
    | none => exact absurd e mL_none
    | some j =>
      have a := int_back (i := i) hm
      have b := int_back (i := j) hn
      have e : intL i = intL j := e
      rw [e, b] at a
      injection a with a
      rw [a]
theorem map_bit_inj : ∀ {v u : List Bool}, v.map bitL = u.map bitL → v = u
  | [], [], _ => rfl
  | [], _ :: _, h => by cases h
  | _ :: _, [], h => by cases h
  | a :: v, b :: u, h => by
    rw [List.map_cons, List.map_cons] at h
    injection h with h1 h2
    have : a = b := by cases a <;> cases b <;> first | rfl | exact absurd h1 (by decide)
    rw [this, map_bit_inj h2]
theorem bitsL_inj {v u : List Bool} (e : bitsL v = bitsL u) : v = u := by
  have no : ∀ x : List Bool, x.map bitL ≠ [45] := fun x h => by
    have : (45 : Nat) ∈ x.map bitL := by rw [h]; exact List.mem_cons_self
    obtain ⟨b, _, h⟩ := List.mem_map.mp this
    cases b <;> exact absurd h (by decide)
  unfold bitsL at e
  split at e <;> split at e
  · rename_i a b; rw [a, b]
  · exact absurd e.symm (no u)
  · exact absurd e (no v)
  · exact map_bit_inj e
theorem vio_inj {o p : Option (Int × List Bool)} (ho : VioG o) (hp : VioG p) (e : vioW o = vioW p) : o = p := by
  cases o with
  | none =>
    cases p with
    | none => rfl
    | some q => exact absurd (congrArg List.length e) (by show ¬ (1 = 5); decide)
  | some i =>
    cases p with
    | none => exact absurd (congrArg List.length e) (by show ¬ (5 = 1); decide)
    | some q =>
      obtain ⟨i, v⟩ := i
      obtain ⟨j, u⟩ := q
      unfold vioW at e
      injection e with _ e
      injection e with _ e
      injection e with e3 e
      injection e with _ e
      injection e with e5 e
      have a := mL_inj (m := some i) (n := some j) ho hp e3
      injection a with a
      rw [a, bitsL_inj e5]
theorem row_inj {x y : RowR} (hx : RowOkG x) (hy : RowOkG y) (e : rowLR x = rowLR y) : x = y := by
  have e : rowW x = rowW y := join_inj k32 (rowW_freeG hx.1 (.inl rfl)) (rowW_freeG hy.1 (.inl rfl)) e
  unfold rowW at e
  injection e with _ e
  injection e with e2 e
  injection e with _ e
  injection e with e4 e
  injection e with _ e
  injection e with e6 e
  obtain ⟨n, s, h, v⟩ := x
  obtain ⟨n', s', h', v'⟩ := y
  have e2 : n = n' := e2
  have a := mL_inj hx.2.1 hy.2.1 e4
  have b := mL_inj hx.2.2.1 hy.2.2.1 e6
  have c := vio_inj hx.2.2.2 hy.2.2.2 e
  have a : s = s' := a
  have b : h = h' := b
  have c : v = v' := c
  subst e2 a b c
  rfl
theorem rows_inj : ∀ {l k : List RowR}, (∀ x ∈ l, RowOkG x) → (∀ x ∈ k, RowOkG x) → l.map rowLR = k.map rowLR → l = k
  | [], [], _, _, _ => rfl
  | [], _ :: _, _, _, h => by cases h
  | _ :: _, [], _, _, h => by cases h
  | x :: l, y :: k, h1, h2, h => by
    rw [List.map_cons, List.map_cons] at h
    injection h with e1 e2
    rw [row_inj (h1 x List.mem_cons_self) (h2 y List.mem_cons_self) e1, rows_inj (fun z hz => h1 z (List.mem_cons_of_mem _ hz)) (fun z hz => h2 z (List.mem_cons_of_mem _ hz)) e2]
theorem text_lines {Y : List Nat} {r : RepR} {ls : List (List Nat)} (hl : IsLines Y ls) (h : IsRep Y r) : ls = r.lines := by
  have et : r.text = joinL [10] (headR r :: (r.rows.map rowLR ++ [verdL r.clean])) ++ [10] := joinL_end [10] _ _
  have hf : ∀ l ∈ headR r :: (r.rows.map rowLR ++ [verdL r.clean]), 10 ∉ l := fun l hl => by
    rcases List.mem_cons.mp hl with z | z
    · rw [z]; exact free_join (head_freeG h.1 (.inr rfl)) (by decide)
    · rcases List.mem_append.mp z with z | z
      · obtain ⟨x, hx, rfl⟩ := List.mem_map.mp z
        exact free_join (rowW_freeG (h.2.2.2.1 x hx).1 (.inr rfl)) (by decide)
      · rw [List.mem_singleton.mp z]
        cases r.clean <;> exact (by decide +kernel)
  have hY := h.2.2.2.2.2
  rw [et] at hY
  rcases hl with ⟨x, xs, rfl, e, hx⟩ | ⟨_, hn⟩
  · rw [e] at hY
    exact join_inj k10 hx hf (List.append_inj' hY rfl).1
  · exact absurd hY (hn _)
section
variable {P : Program} {w : World} {K : PySem.W.Frag} {mg : Str → Option Value} {base : Heap}
def spCheckG (B : Addr) : Sp := fun vs H Q E => ∃ (rt : Addr) (ra : List Addr) (rows : List RowR), vs = [.ref rt] ∧ H rt = some (.tup (ra.map V.ref)) ∧ All2 (RowAtR H) ra rows ∧ rows.length ≤ 60 ∧ (CheckOk rows → ∀ H', Ex H H' → Q .non H') ∧ (¬ CheckOk rows → ∀ H', Ex H H' → E (.ref B) none H')
theorem sc_check_rows : FnScope ["rows", "names", "lengths", "row"] ["rows"] (defScope s_check_rows) := ⟨rfl, rfl, rfl, by decide +kernel, rfl, by decide +kernel, by decide +kernel⟩
theorem ok_check_rowsG {B : Addr} (D : Dfd K mg "_check_rows" s_check_rows ["rows"]) (UB : ExcT K mg "BadReport" B) (T : TxtP K mg) : HasX P w K mg base 1 "_check_rows" ["rows"] (spCheckG B) := by
  obtain ⟨f, fd, F, gf, bf⟩ := D
  refine ⟨f, fd, F.okX sc_check_rows (fun vs H Q E h => ?_) (fun cdv A outer s H vs Q E hr h => ?_), gf, F.kp, bf⟩
  · obtain ⟨r, _, _, rfl, _⟩ := h
    rfl
  · obtain ⟨rt, ra, rows, rfl, hrt, hA, h5, q1, q2⟩ := h
    refine ⟨_, (pss_cons (ps_setLc (i := 1) (own := [("row", 3)]) (g := gName 3) (tt := tYes) rfl sc_check_rows.nd rfl rfl (sw_true rfl rfl rfl (by decide +kernel)) (pi_tup (pv 0)) (blkOk_by (N := ["rows", "names", "lengths", "row"]) (sc := defScope s_check_rows) (own := [("row", 3)]) (by decide +kernel)) (fun _ _ _ _ _ => (pg_name (i := 3) sc_check_rows.nd rfl (.inl rfl))) (fun _ _ _ _ _ => pts_nil) (fun _ _ _ _ _ => (pe_ix (kIxT (K := K) rfl) (pv 3) pe_int (fun _ _ => rfl))))
    (pss_cons (ps_if (pt_cmpR op_lt (pe_callB XS.cr_lenX (by rfl) T.len (by decide +kernel) (pa_cons (pe_callTy (XS.cr_setX rfl) (by rfl) T.set (by decide +kernel) (pa_cons (pv 1) pa_nil)) pa_nil)) (pe_callB call_len_seq (by rfl) T.len (by decide +kernel) (pa_cons (pv 1) pa_nil)) (nomark _))
      (pss_one (ps_raise rfl (takes_of rfl rfl rfl rfl) (pmk_ownA PySem.F.excBase_ValueError UB.xP UB.gC UB.kC (raises_own UB.bC UB.tC) rfl (pa_cons pe_str pa_nil))))
      pss_nil)
    (pss_cons (ps_setLc (i := 2) (own := [("row", 3)]) (g := gName 3) (tt := _) rfl sc_check_rows.nd rfl rfl (sw_true rfl rfl rfl (by decide +kernel)) (pi_tup (pv 0)) (blkOk_by (N := ["rows", "names", "lengths", "row"]) (sc := defScope s_check_rows) (own := [("row", 3)]) (by decide +kernel)) (fun _ _ _ _ _ => (pg_name (i := 3) sc_check_rows.nd rfl (.inl rfl))) (fun _ _ _ _ _ => pts_one (pt_cmpR op_notN (pe_ix (kIxT (K := K) rfl) (pv 3) pe_int (fun _ _ => rfl)) pe_non (nomark _))) (fun _ _ _ _ _ => (pe_callB (kLen (K := K) rfl) (by rfl) T.len (by decide +kernel) (pa_cons (pe_ix (kIxT (K := K) rfl) (pe_ix (kIxT (K := K) rfl) (pv 3) pe_int (fun _ _ => rfl)) pe_int (fun _ _ => rfl)) pa_nil))))
    (pss_one (ps_if (pt_cmpR op_gt (pe_callB XI.cr_lenLI (by rfl) T.len (by decide +kernel) (pa_cons (pe_callTy (XI.cr_setLI rfl) (by rfl) T.set (by decide +kernel) (pa_cons (pv 2) pa_nil)) pa_nil)) pe_int (nomark _))
      (pss_one (ps_raise rfl (takes_of rfl rfl rfl rfl) (pmk_ownA PySem.F.excBase_ValueError UB.xP UB.gC UB.kC (raises_own UB.bC UB.tC) rfl (pa_cons pe_str pa_nil))))
      pss_nil))))), ?_⟩
    have sz1 : 1 ≤ sizeLine := by decide
    refine ⟨_, rfl, rt, rfl, ⟨_, SqT.of hrt⟩, fun L nL => wk_tup (K := K) (a := rt) (xs := ra.map V.ref)
      (fun k H' => Ex H H' ∧ H' L = some (.lst (((rows.take k).map fun x => mk x.name).map V.str))) ⟨Ex.new nL, upd_same⟩ (fun k H' _ g => SqT.of (g.1 _ _ hrt)) ?_ ?_⟩
    · rintro k y H4 hy ⟨E4, hL⟩
      obtain ⟨c, hc, rfl⟩ := refs_get hy
      obtain ⟨x, hx, v, h1, h2⟩ := hA.at_ hc
      refine ⟨rfl, tYes_in ?_⟩
      simp only [wipe, _root_.L2.start, List.map_cons, List.map_nil, List.length_cons, List.length_nil, Nat.reduceAdd, Nat.reduceSub, List.replicate_succ, List.replicate_zero, List.cons_append, List.nil_append, List.set_cons_zero, List.set_cons_succ]
      refine ⟨_, rfl, _, _, _, _, rfl, rfl, SqT.of (E4 _ _ h1), atI_nat (j := 0) rfl, _, hL, sz_lt (by rw [List.length_map, List.length_map, List.length_take]; omega), E4.mut nL, ?_⟩
      rw [upd_same, take_snoc1 hx, List.map_append, List.map_append]; rfl
    rintro H1 ⟨E1, hL⟩
    rw [List.length_map, hA.1, List.take_length] at hL
    refine ⟨_, rfl, L, _, rfl, .inl (SqL.of hL), by rw [List.length_map]; omega, fun p l nd mem le np => ⟨p, l, rfl, upd_same, ?_⟩⟩
    have E2 := E1.trans (Ex.new (o := XS.TxO P w p l) np)
    have hL2 := (Ex.new (o := XS.TxO P w p l) np) _ _ hL
    show tCB _ _ _ (upd H1 p (XS.TxO P w p l)) _
    generalize upd H1 p (XS.TxO P w p l) = H2 at *
    by_cases hnd : (rows.map fun x => mk x.name).Nodup
    case neg =>
      refine ⟨_, rfl, L, _, rfl, .inl (SqL.of hL2), _, _, rfl, rfl, _, rfl, iteY ?_ ⟨sz1, q2 (fun h => hnd ?_) _ E2⟩⟩
      · rw [List.length_map (as := List.map _ _)]
        refine decide_eq_true (Int.ofNat_lt.mpr (Nat.lt_of_not_le fun z => hnd (nodup_of nd (fun x hx => (mem x).mp hx) (fun x hx => (mem x).mpr hx) z)))
      · have := nodup_mk h.1
        rw [List.map_map] at this
        exact this
    refine ⟨_, rfl, L, _, rfl, .inl (SqL.of hL2), _, _, rfl, rfl, _, rfl, iteN ?_ ?_⟩
    · have := nodup_le hnd fun x hx => (mem x).mpr hx
      rw [List.length_map (as := List.map _ _)]
      exact decide_eq_false (by omega)
    refine ⟨_, rfl, rt, rfl, ⟨_, SqT.of (E2 _ _ hrt)⟩, fun L2 nL2 => wk_tup (K := K) (a := rt) (xs := ra.map V.ref)
      (fun k H' => Ex H H' ∧ H' L2 = some (.lst (((rows.take k).filterMap vlen).map V.int))) ⟨E2.trans (Ex.new nL2), upd_same⟩ (fun k H' _ g => SqT.of (g.1 _ _ hrt)) ?_ ?_⟩
    · rintro k y H4 hy ⟨E4, hL⟩
      obtain ⟨c, hc, rfl⟩ := refs_get hy
      obtain ⟨x, hx, v, h1, h2⟩ := hA.at_ hc
      refine ⟨rfl, ?_⟩
      simp only [wipe, _root_.L2.start, List.map_cons, List.map_nil, List.length_cons, List.length_nil, Nat.reduceAdd, Nat.reduceSub, List.replicate_succ, List.replicate_zero, List.cons_append, List.nil_append, List.set_cons_zero, List.set_cons_succ]
      have hf : (rows.take (k + 1)).filterMap vlen = (rows.take k).filterMap vlen ++ (vlen x).toList := by
        rw [take_snoc1 hx, List.filterMap_append, List.filterMap_cons]
        cases vlen x <;> rfl
      have hfl := List.length_filterMap_le vlen (rows.take k)
      rw [List.length_take] at hfl
      cases hx3 : x.vio with
      | none =>
        rw [hx3] at h2
        have h2 : v = .non := h2
        subst h2
        refine ⟨_, rfl, _, _, _, _, rfl, rfl, SqT.of (E4 _ _ h1), atI_nat (j := 3) rfl, rfl, _, rfl, iteF ⟨E4, ?_⟩⟩
        rw [hf, hL]
        unfold vlen
        rw [hx3]
        show _ = some (HO.lst ((_ ++ []).map V.int))
        rw [List.append_nil]
      | some ib =>
        obtain ⟨i, bs⟩ := ib
        rw [hx3] at h2
        obtain ⟨b, t, rfl, hb, ht⟩ := h2
        refine ⟨_, rfl, _, _, _, _, rfl, rfl, SqT.of (E4 _ _ h1), atI_nat (j := 3) rfl, rfl, _, rfl, iteT ⟨_, rfl, _, _, _, _, rfl, rfl, SqT.of (E4 _ _ h1), atI_nat (j := 3) rfl, _, _, _, _, rfl, rfl, SqT.of (E4 _ _ hb), atI_nat (j := 1) rfl, t, _, rfl, .inr (SqT.of (E4 _ _ ht)), _, hL, sz_lt (by rw [List.length_map]; omega), E4.mut (fresh_back E2 nL2), ?_⟩⟩
        rw [upd_same, hf]
        unfold vlen
        rw [hx3, List.map_append, List.length_map]
        rfl
    rintro H4 ⟨E4, hL2⟩
    rw [List.length_map, hA.1, List.take_length] at hL2
    have hfl := List.length_filterMap_le vlen rows
    have vmem : ∀ x ∈ rows, ∀ i bs, x.vio = some (i, bs) → (bs.length : Int) ∈ rows.filterMap vlen := fun x hx i bs h => by
      refine List.mem_filterMap.mpr ⟨x, hx, ?_⟩
      unfold vlen
      rw [h]; rfl
    refine ⟨_, rfl, L2, _, rfl, SqL.of hL2, by unfold scanBound; omega, fun p c hc np => ⟨p, _, c, rfl, upd_same, _, _, rfl, rfl, _, rfl, ?_⟩⟩
    have E5 := E4.trans (Ex.new (o := SetO w p (fun j => decide (j ∈ rows.filterMap vlen)) c) np)
    by_cases hz : ∃ z, ∀ x ∈ rows.filterMap vlen, x = z
    · obtain ⟨z, hz⟩ := hz
      refine iteN (decide_eq_false (by have := hc.1 z hz; omega)) (q1 ⟨?_, z.toNat, fun x hx i bs h => ?_⟩ _ E5)
      · have hnd : List.Pairwise (· ≠ ·) (rows.map fun x => mk x.name) := hnd
        rw [List.pairwise_map] at hnd
        exact List.pairwise_map.mpr (hnd.imp fun h e => h (by rw [e]))
      · have := hz _ (vmem x hx i bs h)
        omega
    · obtain ⟨x, hx, y, hy, hxy⟩ : ∃ x ∈ rows.filterMap vlen, ∃ y ∈ rows.filterMap vlen, x ≠ y := by
        cases hxs : rows.filterMap vlen with
        | nil => exact absurd ⟨0, fun x hx => by rw [hxs] at hx; cases hx⟩ hz
        | cons a t =>
          refine ⟨a, List.mem_cons_self, ?_⟩
          refine Classical.byContradiction fun hno => hz ⟨a, fun x hx => ?_⟩
          rw [hxs] at hx
          refine Classical.byContradiction fun hxa => hno ⟨x, hx, fun e => hxa e.symm⟩
      refine iteY (decide_eq_true (by have := hc.2 x hx y hy hxy; omega)) ⟨sz1, q2 (fun h => ?_) _ E5⟩
      obtain ⟨_, sz, hsz⟩ := h
      have one : ∀ z ∈ rows.filterMap vlen, z = (sz : Int) := fun z hz => by
        obtain ⟨r, hr, h⟩ := List.mem_filterMap.mp hz
        obtain ⟨⟨t, bs⟩, hq, rfl⟩ := Option.map_eq_some_iff.mp h
        have := hsz r hr t bs hq
        show (bs.length : Int) = _
        rw [this]
      exact hxy ((one x hx).trans (one y hy).symm)
end
end G
namespace G
open PySem PySem.Spec PyProof.Rows L2 Evl TL
section
variable {P : Program} {w : World} {K : PySem.W.Frag} {mg : Str → Option Value} {base : Heap}
def spRepG (B : Addr) : Sp := fun vs H Q E => ∃ Y : List Nat, vs = [.str (mk Y)] ∧ Y.length ≤ 50000 ∧ (∀ c ∈ Y, c < 200) ∧ (∀ ls, IsLines Y ls → ls.length ≤ 60) ∧ (∀ (r : RepR) (a : Addr) (H' : Hp), IsRep Y r → Ex H H' → RepAtR H' a r → Q (.ref a) H') ∧ ((∀ r, ¬ IsRep Y r) → ∀ H', Ex H H' → E (.ref B) none H')
theorem sc_read_report : FnScope ["text", "lines", "module", "period", "rows", "report", "line"] ["text"] (defScope s_read_report) := ⟨rfl, rfl, rfl, by decide +kernel, rfl, by decide +kernel, by decide +kernel⟩
theorem ok_read_reportG {B : Addr} (D : Dfd K mg "read_report" s_read_report ["text"]) (UB : ExcT K mg "BadReport" B) (T : TxtP K mg) (C1 : Has P w K mg base 1 "lines_of" ["text"] spLinesG) (C2 : HasX P w K mg base 4 "_read_head" ["line"] (spHeadG B)) (C3 : HasX P w K mg base 4 "_read_row" ["line"] (spRowG B)) (C4 : HasX P w K mg base 1 "_check_rows" ["rows"] (spCheckG B)) (C5 : Has P w K mg base 2 "_verdict" ["report"] spVerdG) : HasX P w K mg base 5 "read_report" ["text"] (spRepG B) := by
  obtain ⟨f_lines_of, d_lines_of, G_lines_of, g_lines_of, k_lines_of, b_lines_of⟩ := C1
  obtain ⟨f_read_head, d_read_head, G_read_head, g_read_head, k_read_head, b_read_head⟩ := C2
  obtain ⟨f_read_row, d_read_row, G_read_row, g_read_row, k_read_row, b_read_row⟩ := C3
  obtain ⟨f_check_rows, d_check_rows, G_check_rows, g_check_rows, k_check_rows, b_check_rows⟩ := C4
  obtain ⟨f_verdict, d_verdict, G_verdict, g_verdict, k_verdict, b_verdict⟩ := C5
  obtain ⟨f, fd, F, gf, bf⟩ := D
  refine ⟨f, fd, F.okX sc_read_report (fun vs H Q E h => ?_) (fun cdv A outer s H vs Q E hr h => ?_), gf, F.kp, bf⟩
  · obtain ⟨r, rfl, _⟩ := h
    rfl
  · obtain ⟨Y, rfl, hl, hc, hcnt, q1, q2⟩ := h
    refine ⟨_, (pss_cons (ps_set (i := 1) sc_read_report.nd rfl (.inl rfl) (pe_call G_lines_of (hr.mono (by omega)) (by rfl) g_lines_of k_lines_of b_lines_of .nil pass0 (pa_cons (pv 0) pa_nil)))
    (pss_cons (ps_if (pt_cmpR op_lt (pe_callB call_len_seq (by rfl) T.len (by decide +kernel) (pa_cons (pv 1) pa_nil)) pe_int (nomark _))
      (pss_one (ps_raise rfl (takes_of rfl rfl rfl rfl) (pmk_ownA PySem.F.excBase_ValueError UB.xP UB.gC UB.kC (raises_own UB.bC UB.tC) rfl (pa_cons pe_str pa_nil))))
      pss_nil)
    (pss_cons (ps_asg (pe_call G_read_head (hr.mono (by omega)) (by rfl) g_read_head k_read_head b_read_head .nil (passes_call (takes_of rfl rfl rfl rfl) fun _ _ _ _ h => h) (pa_cons (pe_ix ix_list (pv 1) pe_int (fun _ _ => rfl)) pa_nil)) (pg_tup rfl (pgs_cons (pg_name (i := 2) sc_read_report.nd rfl (.inl rfl)) (pgs_cons (pg_name (i := 3) sc_read_report.nd rfl (.inl rfl)) pgs_nil))))
    (pss_cons (ps_set (i := 4) sc_read_report.nd rfl (.inl rfl) (pe_callTy call_tuple_of (by rfl) T.tuple (by decide +kernel) (pa_cons (LX.pe_lcX (own := [("line", 6)]) (g := gName 6) (tt := tYes) rfl sc_read_report.nd (pi_list (pe_slice sl_list (pv 1) (po_some pe_int) (po_some (pe_un un_neg pe_int)))) (blkOk_by (N := ["text", "lines", "module", "period", "rows", "report", "line"]) (sc := defScope s_read_report) (own := [("line", 6)]) (by decide +kernel)) (takes_of rfl rfl rfl rfl) rfl rfl (fun _ _ _ _ _ => (pg_name (i := 6) sc_read_report.nd rfl (.inl rfl))) (fun _ _ _ _ _ => pts_nil) (fun _ _ _ _ _ => (pe_call G_read_row (hr.mono (by omega)) (by rfl) g_read_row k_read_row b_read_row .nil LX.passB (pa_cons (pv 6) pa_nil)))) pa_nil)))
    (pss_cons (ps_expr (pe_call G_check_rows (hr.mono (by omega)) (by rfl) g_check_rows k_check_rows b_check_rows .nil (passes_call (takes_of rfl rfl rfl rfl) fun _ _ _ _ h => h) (pa_cons (pv 4) pa_nil)))
    (pss_cons (ps_set (i := 5) sc_read_report.nd rfl (.inl rfl) (pe_tup (pa_cons (pv 2) (pa_cons (pv 3) (pa_cons (pv 4) pa_nil)))))
    (pss_cons (ps_if (pt_cmpR op_ne (pe_ix ix_list (pv 1) (pe_un un_neg pe_int) (fun _ _ => rfl)) (pe_call G_verdict (hr.mono (by omega)) (by rfl) g_verdict k_verdict b_verdict .nil pass0 (pa_cons (pv 5) pa_nil)) (nomark _))
      (pss_one (ps_raise rfl (takes_of rfl rfl rfl rfl) (pmk_ownA PySem.F.excBase_ValueError UB.xP UB.gC UB.kC (raises_own UB.bC UB.tC) rfl (pa_cons pe_str pa_nil))))
      pss_nil)
    (pss_one (ps_ret (pv 5)))))))))), ?_⟩
    have sz1 : 1 ≤ sizeLine := by decide
    refine ⟨_, rfl, Y, rfl, by omega, fun L H1 ls E1 hL hls => ?_⟩
    have hlen := hcnt ls hls
    have key : ∀ r, IsRep Y r → ls = headR r :: (r.rows.map rowLR ++ [verdL r.clean]) := fun r h => text_lines hls h
    have sl : (strV ls).length = ls.length := by unfold strV; rw [List.length_map]
    by_cases h2 : ls.length < 2
    · refine ⟨_, rfl, L, _, rfl, .inl (SqL.of hL), _, _, rfl, rfl, _, rfl, iteY (by rw [sl]; exact decide_eq_true (by omega)) ⟨sz1, q2 (fun r h => ?_) _ E1⟩⟩
      rw [key r h, List.length_cons, List.length_append] at h2
      have : ([verdL r.clean] : List (List Nat)).length = 1 := rfl
      omega
    obtain ⟨l0, mid, lz, rfl⟩ : ∃ l0 mid lz, ls = l0 :: (mid ++ [lz]) := by
      cases ls with
      | nil => exact absurd (by decide : ([] : List (List Nat)).length < 2) h2
      | cons a t =>
        rcases snoc_cases t with rfl | ⟨m, z, rfl⟩
        · exact absurd (by show 1 < 2; decide) h2
        · exact ⟨a, m, z, rfl⟩
    obtain ⟨eY, hpl, hpm⟩ : Y = joinL [10] (l0 :: (mid ++ [lz])) ++ [10] ∧ (∀ p ∈ l0 :: (mid ++ [lz]), p.length ≤ 50000) ∧ (∀ p ∈ l0 :: (mid ++ [lz]), ∀ c ∈ p, c < 200) := by
      rcases hls with ⟨x, xs, e, eY, _⟩ | ⟨e, _⟩
      · injection e with e1 e2
        subst e1 e2
        rw [eY, List.length_append] at hl
        refine ⟨eY, piece_len (s := 10) (by omega), fun p hp c hcp => hc c ?_⟩
        rw [eY]
        exact List.mem_append_left _ (piece_mem [10] _ _ p hp c hcp)
      · cases e
    have inv : ∀ r, IsRep Y r → l0 = headR r ∧ mid = r.rows.map rowLR ∧ lz = verdL r.clean := fun r h => by
      have e := key r h
      injection e with e1 e2
      obtain ⟨e3, e4⟩ := List.append_inj' e2 rfl
      exact ⟨e1, e3, by injection e4⟩
    have hL : H1 L = some (.lst (.str (mk l0) :: (strV mid ++ [.str (mk lz)]))) := by
      rw [hL]
      unfold strV
      rw [List.map_cons, List.map_append]; rfl
    have sm : (strV mid).length = mid.length := by unfold strV; rw [List.length_map]
    have hml : mid.length ≤ 58 := by
      rw [List.length_cons, List.length_append] at hlen
      have : ([lz] : List (List Nat)).length = 1 := rfl
      omega
    refine ⟨_, rfl, L, _, rfl, .inl (SqL.of hL), _, _, rfl, rfl, _, rfl, iteN ?_ ?_⟩
    · rw [List.length_cons, List.length_append, sm]
      exact decide_eq_false (by show ¬ (((mid.length + 1 + 1 : Nat) : Int) < 2); omega)
    refine ⟨_, rfl, _, _, _, _, rfl, rfl, SqL.of hL, atI_nat (j := 0) rfl, l0, rfl, hpl l0 (by simp), fun m i t H2 hm E2 ht => ⟨t, _, rfl, SqT.of ht, rfl, _, _, rfl, _, _, rfl, rfl, ?_⟩, fun hn H2 E2 => q2 (fun r h => hn r.modu r.per ⟨h.1, h.2.1, h.2.2.1, (inv r h).1⟩) _ (E1.trans E2)⟩
    have hL2 := E2 _ _ hL
    refine ⟨_, rfl, _, rfl, _, rfl, _, rfl, L, _, rfl, SqL.of hL2, fun c nc => ?_⟩
    rw [cutV_mid (V.str (mk l0)) (strV mid) (.str (mk lz))]
    have E3 : Ex H (upd H2 c (.lst (strV mid))) := (E1.trans E2).trans (Ex.new nc)
    have hc3 : upd H2 c (.lst (strV mid)) c = some (.lst (strV mid)) := upd_same
    have hL3 : upd H2 c (.lst (strV mid)) L = _ := (Ex.new nc) _ _ hL2
    generalize upd H2 c (.lst (strV mid)) = H3 at *
    refine ⟨c, rfl, ⟨_, SqL.of hc3⟩, fun R nR => wk_list (K := K) (a := c) (xs := strV mid) (fun k H' => Ex H3 H' ∧ ∃ (ra : List Addr) (rows : List RowR), H' R = some (.lst (ra.map V.ref)) ∧ All2 (RowAtR H') ra rows ∧ rows.map rowLR = mid.take k ∧ ∀ x ∈ rows, RowOkG x) ⟨Ex.new nR, [], [], upd_same, .nil, rfl, fun _ h => nomatch h⟩ (fun k H' _ g => SqL.of (g.1 _ _ hc3)) ?_ ?_⟩
    · rintro k y H4 hy ⟨E4, ra, rows, hR, hA, hrl, hrok⟩
      unfold strV at hy
      rw [List.getElem?_map] at hy
      obtain ⟨l, hlk, rfl⟩ := Option.map_eq_some_iff.mp hy
      have hlm := List.mem_of_getElem? hlk
      have hk := (List.getElem?_eq_some_iff.mp hlk).1
      have hrlen : rows.length = k := by have := congrArg List.length hrl; rw [List.length_map, List.length_take] at this; omega
      refine ⟨rfl, tYes_in ?_⟩
      simp only [wipe, _root_.L2.start, List.map_cons, List.map_nil, List.length_cons, List.length_nil, Nat.reduceAdd, Nat.reduceSub, List.replicate_succ, List.replicate_zero, List.cons_append, List.nil_append, List.set_cons_zero, List.set_cons_succ]
      refine ⟨_, rfl, l, rfl, hpl l (by simp [hlm]), hpm l (by simp [hlm]), fun x a H5 hx E5 ha => ?_, fun hn H5 E5 => q2 (fun r h => ?_) _ (E3.trans (E4.trans E5))⟩
      · have hR5 := E5 _ _ hR
        refine ⟨_, hR5, sz_lt (by rw [List.length_map, hA.1]; omega), (E4.trans E5).mut nR, ra ++ [a], rows ++ [x], by rw [upd_same, List.map_append]; rfl, (hA.imp fun _ _ z => (z.te (exTe E5)).put hR5).snoc (ha.put hR5), ?_, fun z hz => ?_⟩
        · rw [List.map_append, hrl, take_snoc1 hlk, hx.2]; rfl
        · rcases List.mem_append.mp hz with q | q
          · exact hrok z q
          · rw [List.mem_singleton.mp q]; exact hx.1
      · rw [(inv r h).2.1] at hlm
        obtain ⟨x, hx, e⟩ := List.mem_map.mp hlm
        exact hn x ⟨h.2.2.2.1 x hx, e.symm⟩
    rintro H4 ⟨E4, ra, rows, hR, hA, hrl, hrok⟩
    rw [sm, List.take_length] at hrl
    have hrlen : rows.length = mid.length := by rw [← hrl, List.length_map]
    have same : ∀ r, IsRep Y r → r.rows = rows := fun r h => rows_inj h.2.2.2.1 hrok (by rw [← (inv r h).2.1, hrl])
    refine ⟨R, _, rfl, .inl ⟨SqL.of hR, fun rt nrt => ?_⟩⟩
    have E5 : Ex H4 (upd H4 rt (.tup (ra.map V.ref))) := Ex.new nrt
    have hrt : upd H4 rt (.tup (ra.map V.ref)) rt = some (.tup (ra.map V.ref)) := upd_same
    generalize upd H4 rt (.tup (ra.map V.ref)) = H5 at *
    have hA5 := hA.imp fun _ _ z => z.te (exTe E5)
    have E05 := E3.trans (E4.trans E5)
    refine ⟨_, rfl, rt, ra, rows, rfl, hrt, hA5, by omega, fun hck H6 E6 => ?_, fun hck H6 E6 => q2 (fun r h => hck (by rw [← same r h]; exact h.2.2.2.2.1)) _ (E05.trans E6)⟩
    refine ⟨_, rfl, _, rfl, _, rfl, (by show 3 ≤ sizeLine; decide), fun a na => ?_⟩
    have E7 : Ex H5 (upd H6 a (.tup [.str (mk m), .int i, .ref rt])) := E6.trans (Ex.new na)
    have hrep : RepAtR (upd H6 a (.tup [.str (mk m), .int i, .ref rt])) a ⟨m, i, rows⟩ := ⟨rt, ra, upd_same, E7 _ _ hrt, hA5.imp fun _ _ z => z.te (exTe E7)⟩
    have hL7 : upd H6 a (.tup [.str (mk m), .int i, .ref rt]) L = some (.lst ((.str (mk l0) :: strV mid) ++ [.str (mk lz)])) := (E4.trans (E5.trans E7)) _ _ hL3
    show gName _ _ _ (upd H6 a (.tup [.str (mk m), .int i, .ref rt])) _
    generalize upd H6 a (.tup [.str (mk m), .int i, .ref rt]) = H7 at *
    refine ⟨_, rfl, _, rfl, _, _, _, _, rfl, rfl, SqL.of hL7, atI_last _ _, _, rfl, a, ⟨m, i, rows⟩, rfl, hrep, by show rows.length ≤ 60; omega, fun H8 E8 => ⟨rfl, _, rfl, ?_⟩⟩
    have ed : (!decide (V.str (mk lz) = V.str (mk (verdL (RepR.clean ⟨m, i, rows⟩))))) = !decide (lz = verdL (RepR.clean ⟨m, i, rows⟩)) := by rw [decV_mk]
    by_cases hv : lz = verdL (RepR.clean ⟨m, i, rows⟩)
    · refine iteN (ed.trans (by rw [decide_eq_true hv]; rfl)) ⟨_, rfl, q1 ⟨m, i, rows⟩ a _ ⟨hm.1, hm.2.1, hm.2.2.1, hrok, hck, ?_⟩ (E05.trans (E7.trans E8)) (hrep.te (exTe E8))⟩
      have et : RepR.text ⟨m, i, rows⟩ = joinL [10] (headR ⟨m, i, rows⟩ :: (rows.map rowLR ++ [verdL (RepR.clean ⟨m, i, rows⟩)])) ++ [10] := joinL_end [10] _ _
      rw [et, hrl, ← hv, eY, hm.2.2.2]
      rfl
    · refine iteY (ed.trans (by rw [decide_eq_false hv]; rfl)) ⟨sz1, q2 (fun r h => hv ?_) _ (E05.trans (E7.trans E8))⟩
      rw [(inv r h).2.2]
      unfold RepR.clean
      rw [same r h]
end
end G
namespace G
open PySem PySem.Spec PyProof.Rows L2 Evl TL
def badN : List (List Nat) := [tl ("007" : Str), tl ("+7" : Str), [], tl ("-0" : Str), tl ("7.0" : Str), List.replicate 61 49, tl ("x" : Str), tl ("None" : Str), tl ("7 " : Str)]
theorem itemL {α : Type} {L : List α} {v : Nat} (h : v < L.length) : ∃ c, L[v]? = some c ∧ c ∈ L := ⟨L[v], List.getElem?_eq_getElem h, List.getElem_mem h⟩
section
variable {P : Program} {w : World} {K : PySem.W.Frag} {mg : Str → Option Value} {base : Heap}
def spNumB : Sp := fun vs H Q _ => ∃ (p a : Addr), vs = [.ref p] ∧ PoolOk p a H ∧ ∀ (n : List Nat) (H' : Hp), n ∈ badN → Px p a H H' → Q (.str (mk n)) H'
theorem sc_law_number : FnScope ["pool"] ["pool"] (defScope s_law_number) := ⟨rfl, rfl, rfl, by decide +kernel, rfl, by decide +kernel, by decide +kernel⟩
theorem ok_law_numberB (D : Dfd K mg "_law_number" s_law_number ["pool"]) (C1 : Has P w K mg base 2 "_law_draw" ["pool", "many"] spDrawX) : Has P w K mg base 3 "_law_number" ["pool"] spNumB := by
  obtain ⟨f_law_draw, d_law_draw, G_law_draw, g_law_draw, k_law_draw, b_law_draw⟩ := C1
  refine D.has fun f fd F => F.ok sc_law_number (fun vs H Q E h => ?_) (fun cdv A outer s H vs Q E hr h => ?_)
  · obtain ⟨_, _, rfl, _⟩ := h
    rfl
  · obtain ⟨p, a, rfl, hp, q⟩ := h
    refine ⟨_, (pss_one (ps_ret (pe_ix ix_list (pe_lst (pa_cons pe_str (pa_cons pe_str (pa_cons pe_str (pa_cons pe_str (pa_cons pe_str (pa_cons (pe_op op_mulS pe_str pe_int) (pa_cons pe_str (pa_cons pe_str (pa_cons pe_str pa_nil)))))))))) (pe_call G_law_draw (hr.mono (by omega)) (by rfl) g_law_draw k_law_draw b_law_draw .nil pass0 (pa_cons (pv 0) (pa_cons pe_int pa_nil))) (fun _ _ => rfl)))), ?_⟩
    refine ⟨_, _, rfl, rfl, (by decide +kernel : ("1" : Str).length ≤ 16), (by decide : 61 ≤ 1000000), (by show 9 ≤ sizeLine; decide), fun l nl => ?_⟩
    have em : Txt.mul ("1" : Str) ((61 : Nat) : Int) = mk (List.replicate 61 49) := by decide +kernel
    rw [em]
    have X1 : Px p a H _ := (Px.refl hp).new (o := .lst (badN.map fun n => V.str (mk n))) nl
    have hb : ([.str "007", .str "+7", .str "", .str "-0", .str "7.0", .str (mk (List.replicate 61 49)), .str "x", .str "None", .str "7 "] : List V) = badN.map fun n => V.str (mk n) := by
      unfold badN
      simp only [List.map_cons, List.map_nil, mk_tlS]
      rfl
    show tCall _ _ _ _ _ (upd H l (.lst ([.str "007", .str "+7", .str "", .str "-0", .str "7.0", .str (mk (List.replicate 61 49)), .str "x", .str "None", .str "7 "] : List V))) _
    rw [hb]
    have hl : upd H l (.lst (badN.map fun n => V.str (mk n))) l = some (.lst (badN.map fun n => V.str (mk n))) := upd_same
    refine ⟨_, rfl, p, a, 9, rfl, by decide, by decide, X1.pool, fun v H2 hv X2 k2 => ?_⟩
    have hl2 : H2 l = some (.lst (badN.map fun n => V.str (mk n))) := by rw [k2 _ (hp.ne nl)]; exact hl
    obtain ⟨n, hn, hm⟩ := itemL (L := badN) (v := v) (by show v < 9; omega)
    exact ⟨_, _, _, _, rfl, rfl, SqL.of hl2, at_of (j := v) rfl (by rw [List.getElem?_map, hn]; rfl), q n H2 hm (X1.trans X2)⟩
def spRepl : Sp := fun vs H Q _ => ∃ (p : Addr) (ls : List (List Nat)) (at_ wd : Nat) (o x : List Nat) (xs : List (List Nat)), vs = [.ref p, .int at_, .int wd, .str (mk o)] ∧ H p = some (.lst (strV ls)) ∧ ls.length ≤ 60 ∧ ls[at_]? = some (joinL [32] (x :: xs)) ∧ (∀ l ∈ x :: xs, 32 ∉ l) ∧ (joinL [32] (x :: xs)).length ≤ 5000 ∧ o.length ≤ 100 ∧ wd < (x :: xs).length ∧ (x :: xs).length ≤ 20 ∧
  ∀ (c : Addr) (H' : Hp), Ex H H' → H' c = some (.lst (strV (ls.take at_ ++ [joinL [32] ((x :: xs).set wd o)] ++ ls.drop (at_ + 1)))) → Q (.ref c) H'
theorem sc_law_replaced : FnScope ["lines", "at", "word", "other", "words"] ["lines", "at", "word", "other"] (defScope s_law_replaced) := ⟨rfl, rfl, rfl, by decide +kernel, rfl, by decide +kernel, by decide +kernel⟩
theorem ok_law_replaced (D : Dfd K mg "_law_replaced" s_law_replaced ["lines", "at", "word", "other"]) : Has P w K mg base 1 "_law_replaced" ["lines", "at", "word", "other"] spRepl := by
  refine D.has fun f fd F => F.ok sc_law_replaced (fun vs H Q E h => ?_) (fun cdv A outer s H vs Q E hr h => ?_)
  · obtain ⟨_, _, _, _, _, _, _, rfl, _⟩ := h
    rfl
  · obtain ⟨p, ls, at_, wd, o, x, xs, rfl, hp, hll, hat, hf, hl, ho, hwd, h20, q⟩ := h
    refine ⟨_, (pss_cons (ps_set (i := 4) sc_law_replaced.nd rfl (.inl rfl) (pe_bm PySem.F.plainAttrs_str PySem.F.slot_str_split PySem.F.type_str_split mt_split (pe_ix ix_list (pv 0) (pv 1) (fun _ _ => rfl)) (pa_cons pe_str pa_nil)))
    (pss_cons (ps_asg (pv 3) (pg_sub (pv 4) (pv 2) set_list))
    (pss_one (ps_ret (pe_op op_cat (pe_op op_cat (pe_slice sl_list (pv 0) po_none (po_some (pv 1))) (pe_lst (pa_cons (pe_join pe_str (pv 4)) pa_nil))) (pe_slice sl_list (pv 0) (po_some (pe_op op_add (pv 1) pe_int)) po_none)))))), ?_⟩
    have hatl := (List.getElem?_eq_some_iff.mp hat).1
    have sl : (strV ls).length = ls.length := by unfold strV; rw [List.length_map]
    have hv : (strV ls)[at_]? = some (.str (mk (joinL [32] (x :: xs)))) := by unfold strV; rw [List.getElem?_map, hat]; rfl
    have hcnt := join_count [32] x xs
    have e32 : ([32] : List Nat).length = 1 := rfl
    rw [e32, Nat.mul_one] at hcnt
    refine ⟨_, rfl, _, rfl, _, _, _, _, rfl, rfl, SqL.of hp, at_of (j := at_) rfl hv, rfl, _, _, rfl, rfl, by decide, sz_of (by rw [mk_len]; omega), ?_⟩
    rw [show Txt.split (mk (joinL [32] (x :: xs))) (" " : Str) = (x :: xs).map mk from split_mk k32 hf]
    intro wl nw
    have E1 : Ex H (upd H wl (.lst (((x :: xs).map mk).map V.str))) := Ex.new nw
    have hw : upd H wl (.lst (((x :: xs).map mk).map V.str)) wl = some (.lst (strV (x :: xs))) := by rw [upd_same, List.map_map]; rfl
    have hp1 := E1 _ _ hp
    show gName _ _ _ (upd H wl (.lst (((x :: xs).map mk).map V.str))) _
    generalize upd H wl (.lst (((x :: xs).map mk).map V.str)) = H1 at *
    have wne : wl ≠ p := fun z => by rw [z, hp] at nw; cases nw
    have swl : (strV (x :: xs)).length = (x :: xs).length := by unfold strV; rw [List.length_map]
    refine ⟨_, rfl, _, rfl, _, rfl, wl, strV (x :: xs), (wd : Int), wd, rfl, rfl, hw, ?_, ?_⟩
    · rw [swl]; exact ixN_nat hwd
    have hset : (strV (x :: xs)).set wd (.str (mk o)) = strV ((x :: xs).set wd o) := by unfold strV; rw [List.map_set]
    rw [hset]
    have E2 : Ex H (upd H1 wl (.lst (strV ((x :: xs).set wd o)))) := E1.mut nw
    have hp2 : upd H1 wl (.lst (strV ((x :: xs).set wd o))) p = some (.lst (strV ls)) := by rw [upd_ne wne.symm]; exact hp1
    have hw2 : upd H1 wl (.lst (strV ((x :: xs).set wd o))) wl = some (.lst (strV ((x :: xs).set wd o))) := upd_same
    generalize upd H1 wl (.lst (strV ((x :: xs).set wd o))) = H2 at *
    have scut : ∀ (k : Nat), (strV ls).take k = strV (ls.take k) := fun k => by unfold strV; rw [List.map_take]
    have sdrop : ∀ (k : Nat), (strV ls).drop k = strV (ls.drop k) := fun k => by unfold strV; rw [List.map_drop]
    have slen : ∀ l : List (List Nat), (strV l).length = l.length := fun l => by unfold strV; rw [List.length_map]
    refine ⟨_, rfl, _, rfl, _, rfl, p, _, rfl, SqL.of hp2, fun c1 n1 => ?_⟩
    rw [show cutV (strV ls) none (some (at_ : Int)) = strV (ls.take at_) from (cutV_head (by rw [sl]; omega)).trans (scut _)]
    have E3 : Ex H2 (upd H2 c1 (.lst (strV (ls.take at_)))) := Ex.new n1
    have h3 : upd H2 c1 (.lst (strV (ls.take at_))) c1 = some (.lst (strV (ls.take at_))) := upd_same
    generalize upd H2 c1 (.lst (strV (ls.take at_))) = H3 at *
    have hw3 : H3 wl = some (.lst ((((x :: xs).set wd o).map mk).map V.str)) := by rw [E3 _ _ hw2, List.map_map]; rfl
    have hpl := piece_len hl
    have hsl : ∀ l ∈ (x :: xs).set wd o, l.length ≤ 5000 := fun l hm => by
      rcases List.mem_or_eq_of_mem_set hm with z | z
      · exact hpl l z
      · rw [z]; omega
    refine ⟨⟨_, rfl⟩, _, rfl, _, wl, ((x :: xs).set wd o).map mk, rfl, rfl, .inl (SqL.of hw3), ?_, (by show 1 ≤ sizeLine; decide), fun c2 n2 => ?_⟩
    · have hs := sum_len (m := 5000) ((x :: xs).set wd o) hsl
      have e1 : (" " : Str).length = 1 := by decide +kernel
      rw [List.length_map, e1, Nat.mul_one]
      rw [List.length_set] at *
      have : (x :: xs).length * 5000 ≤ 20 * 5000 := Nat.mul_le_mul_right _ h20
      omega
    have ej : Txt.join (" " : Str) (((x :: xs).set wd o).map mk) = mk (joinL [32] ((x :: xs).set wd o)) := by
      cases hx : (x :: xs).set wd o with
      | nil => have := congrArg List.length hx; rw [List.length_set] at this; cases this
      | cons y ys => exact join_mk [32] y ys
    rw [ej]
    have E4 : Ex H3 (upd H3 c2 (.lst (strV [joinL [32] ((x :: xs).set wd o)]))) := Ex.new n2
    have h4 : upd H3 c2 (.lst (strV [joinL [32] ((x :: xs).set wd o)])) c2 = some (.lst (strV [joinL [32] ((x :: xs).set wd o)])) := upd_same
    refine ⟨c1, c2, _, _, rfl, rfl, E4 _ _ h3, h4, sz_of (by rw [slen, slen, List.length_take]; show min _ _ + 1 ≤ _; omega), fun c3 n3 => ?_⟩
    have E5 : Ex H3 (upd (upd H3 c2 (.lst (strV [joinL [32] ((x :: xs).set wd o)]))) c3 (.lst (strV (ls.take at_) ++ strV [joinL [32] ((x :: xs).set wd o)]))) := E4.trans (Ex.new n3)
    have h5 : upd (upd H3 c2 (.lst (strV [joinL [32] ((x :: xs).set wd o)]))) c3 (.lst (strV (ls.take at_) ++ strV [joinL [32] ((x :: xs).set wd o)])) c3 = some (.lst (strV (ls.take at_) ++ strV [joinL [32] ((x :: xs).set wd o)])) := upd_same
    have hp5 : upd (upd H3 c2 (.lst (strV [joinL [32] ((x :: xs).set wd o)]))) c3 (.lst (strV (ls.take at_) ++ strV [joinL [32] ((x :: xs).set wd o)])) p = some (.lst (strV ls)) := E5 _ _ (E3 _ _ hp2)
    show tSl _ _ _ _ _ (upd (upd H3 c2 (.lst (strV [joinL [32] ((x :: xs).set wd o)]))) c3 (.lst (strV (ls.take at_) ++ strV [joinL [32] ((x :: xs).set wd o)]))) _
    generalize upd (upd H3 c2 (.lst (strV [joinL [32] ((x :: xs).set wd o)]))) c3 (.lst (strV (ls.take at_) ++ strV [joinL [32] ((x :: xs).set wd o)])) = H5 at *
    refine ⟨_, rfl, _, rfl, _, _, rfl, rfl, _, rfl, p, _, rfl, SqL.of hp5, fun c4 n4 => ?_⟩
    rw [show cutV (strV ls) (some ((at_ : Int) + 1)) none = strV (ls.drop (at_ + 1)) from by
      have : cutV (strV ls) (some ((at_ + 1 : Nat) : Int)) none = _ := cutV_tail (by rw [sl]; omega)
      rw [show (at_ : Int) + 1 = ((at_ + 1 : Nat) : Int) from rfl, this, sdrop]]
    refine ⟨c3, c4, _, _, rfl, rfl, (Ex.new n4) _ _ h5, upd_same, sz_of (by rw [List.length_append, slen, slen, slen, List.length_take, List.length_drop]; show min _ _ + 1 + _ ≤ _; omega), fun c5 n5 => ?_⟩
    refine q c5 _ ((E2.trans (E3.trans E5)).trans ((Ex.new n4).trans (Ex.new n5))) ?_
    rw [upd_same]
    unfold strV
    rw [List.map_append, List.map_append]
end
end G
namespace G
open PySem PySem.Spec PyProof.Rows L2 Evl TL
section
variable {P : Program} {w : World} {K : PySem.W.Frag} {mg : Str → Option Value} {base : Heap}
/-- a text that may be read, and is no report's -/
structure NoRep (Y : List Nat) : Prop where
  len : Y.length ≤ 50000
  small : ∀ c ∈ Y, c < 200
  lines : ∀ ls, IsLines Y ls → ls.length ≤ 60
  no : ∀ r, ¬ IsRep Y r
def spRefused : Sp := fun vs H Q _ => ∃ Y : List Nat, vs = [.str (mk Y)] ∧ NoRep Y ∧ ∀ H', Ex H H' → Q (.bl true) H'
theorem sc_law_refused : FnScope ["text", "e"] ["text"] (defScope s_law_refused) := ⟨rfl, rfl, rfl, by decide +kernel, rfl, by decide +kernel, by decide +kernel⟩
theorem ok_law_refused {B D_BadRecord D_BadSyntax S : Addr} (D : Dfd K mg "_law_refused" s_law_refused ["text"]) (T : TxtS mg) (g_BadReport : mg "BadReport" = some (.ref B)) (g_BadRecord : mg "BadRecord" = some (.ref D_BadRecord)) (g_BadSyntax : mg "BadSyntax" = some (.ref D_BadSyntax)) (g_SignoffError : mg "SignoffError" = some (.ref S))
    (iB : ExcC K B) (bb : PySem.W.kitOne K (.ref B) (.ref B) = some true) (br : PySem.W.kitOne K (.ref B) (.ref D_BadRecord) = some false) (bs : PySem.W.kitOne K (.ref B) (.ref D_BadSyntax) = some false) (hitB : PySem.W.exmOne K (.ref B) (.ref S) = some true)
    (C1 : HasX P w K mg base 5 "read_report" ["text"] (spRepG B)) : Has P w K mg base 6 "_law_refused" ["text"] spRefused := by
  obtain ⟨f_read_report, d_read_report, G_read_report, g_read_report, k_read_report, b_read_report⟩ := C1
  refine D.has fun f fd F => F.ok sc_law_refused (fun vs H Q E h => ?_) (fun cdv A outer s H vs Q E hr h => ?_)
  · obtain ⟨Y, rfl, _⟩ := h
    rfl
  · obtain ⟨Y, rfl, hn, q⟩ := h
    refine ⟨_, (pss_cons (ps_try_as (c := .ref S) (i := 1) rfl rfl sc_law_refused.nd rfl rfl ⟨rfl, by decide, .inl g_SignoffError⟩ takes0
      (fun W pn xe tk hp => (pss_one (ps_expr (pe_callS G_read_report (hr.mono (by omega)) rfl g_read_report k_read_report b_read_report (fun σ => passAt tk σ) (pa_cons (pv 0) pa_nil)))))
      (fun a oe cls dd pn hz hf => (pss_one (ps_ret (pe_and (pe_isE hz hf (fun D hz1 ic => pe_callB (call_isE ic hz1 hf) (by rfl) T.isinstance (by decide +kernel) (pa_cons (pv 1) (pa_cons (gRef rfl g_BadReport) pa_nil)))) (pe_one (pe_not (pe_isE hz hf (fun D hz1 ic => pe_callB (call_isET ic hz1 hf) (by rfl) T.isinstance (by decide +kernel) (pa_cons (pv 1) (pa_cons (pe_tup (pa_cons (gRef rfl g_BadRecord) (pa_cons (gRef rfl g_BadSyntax) pa_nil))) pa_nil)))))))))))
    (pss_one (ps_ret pe_bl))), ?_⟩
    have kt : PySem.W.kitAny K (.ref B) ([D_BadRecord, D_BadSyntax].map Value.ref) = some false := by
      show PySem.W.kitAny K (.ref B) [.ref D_BadRecord, .ref D_BadSyntax] = some false
      unfold PySem.W.kitAny
      rw [br]
      unfold PySem.W.kitAny
      rw [bs]
      rfl
    refine ⟨_, rfl, Y, rfl, hn.len, hn.small, hn.lines, fun r a H1 h => (hn.no r h).elim, fun _ H1 E1 => ⟨true, hitB, fun _ a na => ?_, fun q => nomatch q⟩⟩
    refine ⟨B, ⟨rfl, rfl, iB⟩, _, rfl, .ref B, .ref B, true, rfl, (fun u hu => hu), bb, _, rfl, iteT ⟨B, ⟨rfl, rfl, iB⟩, _, rfl, (by show 2 ≤ sizeLine; decide), fun tp np => ⟨tp, [D_BadRecord, D_BadSyntax], false, rfl, SqT.of upd_same, kt, _, rfl, ?_⟩⟩⟩
    exact q _ (E1.trans (Ex.new np))
end
end G
namespace G
open PySem PySem.Spec PyProof.Rows L2 Evl TL
def NameS (n : List Nat) : Prop := ∃ (x : List Nat) (xs : List (List Nat)), n = joinL [47] (x :: xs) ∧ xs.length ≤ 2 ∧ ∀ p ∈ x :: xs, isName p = true
theorem kw_end : ∀ k ∈ kwds, (tl k).getLast? ≠ some 95 := by decide +kernel
theorem isName_snoc {x : List Nat} (h : isName x = true) : isName (x ++ [95]) = true := by
  have hw := isName_word h
  unfold isName
  rw [Bool.and_eq_true]
  constructor
  · cases x with
    | nil => cases hw
    | cons c r =>
      have h' : (decide (c ∈ tl sLET) && (c :: r).all isRun) = true := hw
      rw [Bool.and_eq_true] at h'
      show (decide (c ∈ tl sLET) && (c :: r ++ [95]).all isRun) = true
      rw [h'.1, List.all_append, h'.2]
      decide +kernel
  · rw [decide_eq_false fun z => kw_end _ z (by rw [tl_mkS, List.getLast?_concat])]; rfl
theorem joinL_snoc : ∀ (x : List Nat) (xs : List (List Nat)), (∀ p ∈ x :: xs, isName p = true) → ∃ y ys, joinL [47] (x :: xs) ++ [95] = joinL [47] (y :: ys) ∧ ys.length = xs.length ∧ ∀ p ∈ y :: ys, isName p = true
  | x, [], h => ⟨x ++ [95], [], rfl, rfl, fun p hp => by rw [List.mem_singleton.mp hp]; exact isName_snoc (h x List.mem_cons_self)⟩
  | x, z :: zs, h => by
    obtain ⟨y, ys, e, hl, hn⟩ := joinL_snoc z zs fun p hp => h p (List.mem_cons_of_mem _ hp)
    refine ⟨x, y :: ys, ?_, by rw [List.length_cons, List.length_cons, hl], fun p hp => ?_⟩
    · show x ++ ([47] ++ joinL [47] (z :: zs)) ++ [95] = x ++ ([47] ++ joinL [47] (y :: ys))
      rw [← e, List.append_assoc, List.append_assoc]
    · rcases List.mem_cons.mp hp with w | w
      · rw [w]; exact h x List.mem_cons_self
      · exact hn p w
theorem nameS_snoc {n : List Nat} (h : NameS n) : NameS (n ++ [95]) := by
  obtain ⟨x, xs, rfl, hl, hn⟩ := h
  obtain ⟨y, ys, e, hl2, hn2⟩ := joinL_snoc x xs hn
  exact ⟨y, ys, e, by omega, hn2⟩
/-- rows whose names are not shorter -/
def cntR : List RowR → Nat → Nat
  | [], _ => 0
  | x :: l, n => cntR l n + if n ≤ x.name.length then 1 else 0
theorem cnt_len : ∀ (l : List RowR) (n : Nat), cntR l n ≤ l.length
  | [], _ => Nat.le_refl _
  | x :: l, n => by
    have := cnt_len l n
    show cntR l n + (if n ≤ x.name.length then 1 else 0) ≤ l.length + 1
    split <;> omega
theorem cnt_le : ∀ (l : List RowR) (n : Nat), cntR l (n + 1) ≤ cntR l n
  | [], _ => Nat.le_refl _
  | x :: l, n => by
    have := cnt_le l n
    show cntR l (n + 1) + (if n + 1 ≤ x.name.length then 1 else 0) ≤ cntR l n + (if n ≤ x.name.length then 1 else 0)
    split <;> split <;> omega
theorem cnt_lt : ∀ {l : List RowR} {x : RowR}, x ∈ l → cntR l (x.name.length + 1) < cntR l x.name.length
  | y :: l, x, h => by
    have h1 := cnt_le l x.name.length
    show cntR l (x.name.length + 1) + (if x.name.length + 1 ≤ y.name.length then 1 else 0) < cntR l x.name.length + (if x.name.length ≤ y.name.length then 1 else 0)
    rcases List.mem_cons.mp h with z | z
    · subst z
      rw [if_neg (by omega), if_pos (Nat.le_refl _)]; omega
    · have h2 := cnt_lt z
      split <;> split <;> omega
section
variable {P : Program} {w : World} {K : PySem.W.Frag} {mg : Str → Option Value} {base : Heap}
def preB (x : RowR) : List Nat := joinL [32] [tl ("reg" : Str), x.name, tl ("setup" : Str), mL x.setup, tl ("hold" : Str), mL x.hold]
/-- what the law's reports are -/
structure BaseR (r : RepR) : Prop where
  modn : isName r.modu = true
  modl : r.modu.length ≤ 20
  per : 1 ≤ r.per ∧ r.per ≤ 999
  rows : ∃ x xs, r.rows = x :: xs ∧ xs.length ≤ 3 ∧ (∃ bs, x.vio = some (12, bs) ∧ (bs = [] ∨ ∃ b, bs = [b, false])) ∧ ∀ y ∈ xs, y.vio = none
  row : ∀ x ∈ r.rows, NameS x.name ∧ x.name.length ≤ 60 ∧ x.hold = some 0 ∧ (x.setup = none ∨ x.setup = some (-5) ∨ x.setup = some 70)
  nodup : (r.rows.map (·.name)).Nodup
def spLinesB : Sp := fun vs H Q _ => ∃ (p a : Addr), vs = [.ref p] ∧ PoolOk p a H ∧ ∀ (r : RepR) (c : Addr) (H' : Hp), BaseR r → Px p a H H' → H' c = some (.lst (strV r.lines)) → Q (.ref c) H'
theorem sc_law_lines : FnScope ["pool", "lines", "names", "k", "name", "bits", "j", "line"] ["pool"] (defScope s_law_lines) := ⟨rfl, rfl, rfl, by decide +kernel, rfl, by decide +kernel, by decide +kernel⟩
theorem ok_law_linesB (D : Dfd K mg "_law_lines" s_law_lines ["pool"]) (T : TxtS mg) (C1 : Has P w K mg base 2 "_law_draw" ["pool", "many"] spDrawX) (C2 : Has P w K mg base 3 "_law_word" ["pool"] spWord) : Has P w K mg base 4 "_law_lines" ["pool"] spLinesB := by
  obtain ⟨f_law_draw, d_law_draw, G_law_draw, g_law_draw, k_law_draw, b_law_draw⟩ := C1
  obtain ⟨f_law_word, d_law_word, G_law_word, g_law_word, k_law_word, b_law_word⟩ := C2
  refine D.has fun f fd F => F.ok sc_law_lines (fun vs H Q E h => ?_) (fun cdv A outer s H vs Q E hr h => ?_)
  · obtain ⟨_, _, rfl, _⟩ := h
    rfl
  · obtain ⟨p, a, rfl, hp, q⟩ := h
    refine ⟨_, (pss_cons (ps_set (i := 1) sc_law_lines.nd rfl (.inl rfl) (pe_lst (pa_cons (pe_op op_add_str (pe_op op_add_str (pe_op op_add_str pe_str (pe_call G_law_word (hr.mono (by omega)) (by rfl) g_law_word k_law_word b_law_word .nil pass0 (pa_cons (pv 0) pa_nil))) pe_str) (pe_callTy call_str_int (by rfl) T.str (by decide +kernel) (pa_cons (pe_op op_add pe_int (pe_call G_law_draw (hr.mono (by omega)) (by rfl) g_law_draw k_law_draw b_law_draw .nil pass0 (pa_cons (pv 0) (pa_cons pe_int pa_nil)))) pa_nil))) pa_nil)))
    (pss_cons (ps_set (i := 2) sc_law_lines.nd rfl (.inl rfl) (pe_lst pa_nil))
    (pss_cons (ps_for PassesOwn.never rfl (pi_range1 rfl T.range (pa_cons (pe_op op_add pe_int (pe_call G_law_draw (hr.mono (by omega)) (by rfl) g_law_draw k_law_draw b_law_draw .nil pass0 (pa_cons (pv 0) (pa_cons pe_int pa_nil)))) pa_nil)) (pg_name (i := 3) sc_law_lines.nd rfl (.inl rfl))
      (pss_cons (ps_set (i := 4) sc_law_lines.nd rfl (.inl rfl) (pe_join pe_str (pe_lc (own := [("j", 6)]) (g := gName 6) (tt := tYes) rfl sc_law_lines.nd (pi_range1 rfl T.range (pa_cons (pe_op op_add pe_int (pe_call G_law_draw (hr.mono (by omega)) (by rfl) g_law_draw k_law_draw b_law_draw .nil pass0 (pa_cons (pv 0) (pa_cons pe_int pa_nil)))) pa_nil)) (blkOk_by (N := ["pool", "lines", "names", "k", "name", "bits", "j", "line"]) (sc := defScope s_law_lines) (own := [("j", 6)]) (by decide +kernel)) (fun _ _ _ _ _ => (pg_name (i := 6) sc_law_lines.nd rfl (.inl rfl))) (fun _ _ _ _ _ => pts_nil) (fun _ _ _ _ _ => (pe_call G_law_word (hr.mono (by omega)) (by rfl) g_law_word k_law_word b_law_word .nil pass0 (pa_cons (pv 0) pa_nil))))))
      (pss_cons (ps_while PassesOwn.never (pt_cmpR op_in_seq (pv 4) (pv 2) (by rfl))
        (pss_one (ps_set (i := 4) sc_law_lines.nd rfl (.inl rfl) (pe_op op_add_str (pv 4) pe_str))))
      (pss_cons (ps_expr (pe_bm PySem.F.plainAttrs_list PySem.F.slot_list_append PySem.F.type_list_append mt_append (pv 2) (pa_cons (pv 4) pa_nil)))
      (pss_one (ps_expr (pe_bm PySem.F.plainAttrs_list PySem.F.slot_list_append PySem.F.type_list_append mt_append (pv 1) (pa_cons (pe_op op_add_str (pe_op op_add_str (pe_op op_add_str (pe_op op_add_str pe_str (pv 4)) pe_str) (pe_ix ix_list (pe_lst (pa_cons pe_str (pa_cons pe_str (pa_cons pe_str pa_nil)))) (pe_call G_law_draw (hr.mono (by omega)) (by rfl) g_law_draw k_law_draw b_law_draw .nil pass0 (pa_cons (pv 0) (pa_cons pe_int pa_nil))) (fun _ _ => rfl))) pe_str) pa_nil))))))))
    (pss_cons (ps_set (i := 5) sc_law_lines.nd rfl (.inl rfl) (pe_ix ix_list (pe_lst (pa_cons (pe_op op_add_str (pe_ix ix_list (pe_lst (pa_cons pe_str (pa_cons pe_str pa_nil))) (pe_call G_law_draw (hr.mono (by omega)) (by rfl) g_law_draw k_law_draw b_law_draw .nil pass0 (pa_cons (pv 0) (pa_cons pe_int pa_nil))) (fun _ _ => rfl)) pe_str) (pa_cons pe_str pa_nil))) (pe_call G_law_draw (hr.mono (by omega)) (by rfl) g_law_draw k_law_draw b_law_draw .nil pass0 (pa_cons (pv 0) (pa_cons pe_int pa_nil))) (fun _ _ => rfl)))
    (pss_cons (ps_asg (pe_op op_add_str (pe_op op_add_str (pe_ix ix_list (pv 1) pe_int (fun _ _ => rfl)) pe_str) (pv 5)) (pg_sub (pv 1) pe_int set_list))
    (pss_one (ps_ret (pe_op op_cat (pe_op op_cat (pe_lst (pa_cons (pe_ix ix_list (pv 1) pe_int (fun _ _ => rfl)) (pa_cons (pe_ix ix_list (pv 1) pe_int (fun _ _ => rfl)) pa_nil))) (pe_lc (own := [("line", 7)]) (g := gName 7) (tt := tYes) rfl sc_law_lines.nd (pi_list (pe_slice sl_list (pv 1) (po_some pe_int) po_none)) (blkOk_by (N := ["pool", "lines", "names", "k", "name", "bits", "j", "line"]) (sc := defScope s_law_lines) (own := [("line", 7)]) (by decide +kernel)) (fun _ _ _ _ _ => (pg_name (i := 7) sc_law_lines.nd rfl (.inl rfl))) (fun _ _ _ _ _ => pts_nil) (fun _ _ _ _ _ => (pe_op op_add_str (pv 7) pe_str)))) (pe_lst (pa_cons pe_str pa_nil)))))))))), ?_⟩
    have k1 : ("module " : Str).length = 7 := by decide +kernel
    have k2 : (" period " : Str).length = 8 := by decide +kernel
    refine ⟨_, rfl, p, a, rfl, hp, fun T1 H1 hT1 hTk hT2 X1 => ?_⟩
    refine ⟨_, _, rfl, rfl, ?_, _, _, rfl, rfl, ?_, _, rfl, p, a, 999, rfl, by decide, by decide, X1.pool, fun v H2 hv X2 _ => ?_⟩
    any_goals exact sz_of (by simp only [str_len_app, mk_len, k1, k2]; omega)
    have hfew : Few (1 + ((v : Nat) : Int)) := by
      show (1 + ((v : Nat) : Int)).natAbs < 10 ^ 60
      have p60 : 2000 < (10 : Nat) ^ 60 := by decide +kernel
      exact Nat.lt_trans (by omega) p60
    have lp := few_len hfew
    have i1 : (Str.ofString (toString (1 + ((v : Nat) : Int)))).length ≤ 61 := by rw [len_tl, tl_int]; exact lp
    refine ⟨_, _, rfl, rfl, _, rfl, few_log hfew, _, _, rfl, rfl, ?_, (by show 1 ≤ sizeLine; decide), fun L nL => ?_⟩
    · exact sz_of (by simp only [str_len_app, mk_len, k1, k2]; omega)
    have hh : ((("module " : Str) ++ mk T1) ++ (" period " : Str)) ++ Str.ofString (toString (1 + ((v : Nat) : Int))) = mk (headR ⟨T1, 1 + (v : Nat), []⟩) := ext_tl (by
      rw [tl_append, tl_append, tl_append, tl_int, tl_mkS, tl_mkS]
      unfold headR
      rw [joinL_flat]
      have e1 : tl ("module " : Str) = tl ("module" : Str) ++ [32] := by decide +kernel
      have e2 : tl (" period " : Str) = [32] ++ tl ("period" : Str) ++ [32] := by decide +kernel
      rw [e1, e2]
      simp)
    rw [hh]
    have X12 := X1.trans X2
    have hnm : isName T1 = true := by unfold isName; rw [hT1, decide_eq_false hTk]; rfl
    generalize hhd : headR ⟨T1, 1 + (v : Nat), []⟩ = hd
    have XL : Px p a H2 (upd H2 L (.lst [.str (mk hd)])) := (Px.refl X2.pool).new nL
    have Lp : L ≠ p := X2.pool.ne nL
    refine ⟨Nat.zero_le _, fun N nN => ?_⟩
    have NL : N ≠ L := fun z => by rw [z, upd_same] at nN; cases nN
    have nN2 : H2 N = none := by rw [upd_ne NL] at nN; exact nN
    have XN : Px p a H2 (upd (upd H2 L (.lst [.str (mk hd)])) N (.lst [])) := XL.trans ((Px.refl XL.pool).new nN)
    have Np : N ≠ p := XL.pool.ne nN
    refine ⟨_, rfl, p, a, 4, rfl, by decide, by decide, XN.pool, fun m H5 hm X5 k5 => ⟨_, _, rfl, rfl, _, rfl, by omega, by omega, for_range (n := ((1 : Int) + ((m : Nat) : Int)).toNat)
      (fun k σ H' => Px p a H2 H' ∧ ∃ (rows : List RowR) (y3 y4 y5 y6 y7 : Option V), H' L = some (.lst (strV (hd :: rows.map preB))) ∧ H' N = some (.lst (strV (rows.map (·.name)))) ∧ rows.length = k ∧ (∀ x ∈ rows, NameS x.name ∧ x.name.length ≤ 60 ∧ x.hold = some 0 ∧ (x.setup = none ∨ x.setup = some (-5) ∨ x.setup = some 70) ∧ x.vio = none) ∧ (rows.map (·.name)).Nodup ∧
        σ = [some (.ref p), some (.ref L), some (.ref N), y3, y4, y5, y6, y7])
      ⟨XN.trans X5, [], _, _, _, _, _, (by rw [k5 _ Lp, upd_ne NL.symm]; exact upd_same), (by rw [k5 _ Np]; exact upd_same), rfl, (fun _ h => nomatch h), List.nodup_nil, rfl⟩ ?_ ?_⟩⟩
    · rintro k σ H10 hk ⟨X10, rows, y3, y4, y5, y6, y7, hL, hN, hrl, hrows, hnd, rfl⟩
      refine ⟨⟨_, rfl⟩, _, rfl, p, a, 2, rfl, by decide, by decide, X10.pool, fun n3 H11 hn3 X11 _ => ⟨_, _, rfl, rfl, _, rfl, by omega, by omega, fun R nR => ?_⟩⟩
      have XR : Px p a H11 (upd H11 R (.lst [])) := (Px.refl X11.pool).new nR
      have Rp : R ≠ p := X11.pool.ne nR
      refine lc_range (lo := 0) (n := ((1 : Int) + (n3 : Int)).toNat) (fun j H' => Px p a H11 H' ∧ ∃ parts : List (List Nat), H' R = some (.lst (strV parts)) ∧ parts.length = j ∧ ∀ T ∈ parts, isName T = true ∧ T.length ≤ 20) ⟨XR, [], upd_same, rfl, (fun _ h => nomatch h)⟩ ?_ ?_
      · rintro j H12 hj ⟨X12, parts, hR, hpl, hpw⟩
        refine ⟨rfl, tYes_in ?_⟩
        simp only [wipe, _root_.L2.start, List.map_cons, List.map_nil, List.length_cons, List.length_nil, Nat.reduceAdd, Nat.reduceSub, List.replicate_succ, List.replicate_zero, List.cons_append, List.nil_append, List.set_cons_zero, List.set_cons_succ]
        refine ⟨_, rfl, p, a, rfl, X12.pool, fun T2 H13 hU1 hUk hU2 X13 => ?_⟩
        have hR13 : H13 R = some (.lst (strV parts)) := X13.at_ (by rw [hid_ne Rp]; exact hR)
        refine ⟨_, hR13, sz_lt (by unfold strV; rw [List.length_map]; omega), (X12.trans X13).mut nR, parts ++ [T2], by rw [upd_same]; unfold strV; rw [List.map_append]; rfl, by rw [List.length_append, hpl]; rfl, fun T hT => ?_⟩
        rcases List.mem_append.mp hT with z | z
        · exact hpw T z
        · rw [List.mem_singleton.mp z]; exact ⟨by unfold isName; rw [hU1, decide_eq_false hUk]; rfl, hU2⟩
      rintro H12 ⟨X12, parts, hR, hpl, hpw⟩
      have hpl3 : parts.length = 1 + n3 := by omega
      have hR' : H12 R = some (.lst ((parts.map mk).map V.str)) := by rw [hR, List.map_map]; rfl
      refine ⟨_, R, parts.map mk, rfl, rfl, .inl (SqL.of hR'), ?_, ?_⟩
      · have hs := sum_len (m := 20) parts fun p hp => (hpw p hp).2
        have e1 : ("/" : Str).length = 1 := by decide +kernel
        rw [List.length_map, e1, Nat.mul_one]
        omega
      obtain ⟨x, xs, hxs⟩ : ∃ x xs, parts = x :: xs := List.exists_cons_of_ne_nil fun z => by rw [z] at hpl3; simp at hpl3; omega
      have hname : Txt.join ("/" : Str) (parts.map mk) = mk (joinL [47] (x :: xs)) := by rw [hxs]; exact join_mk [47] _ _
      have hxl : xs.length ≤ 1 := by rw [hxs] at hpl3; rw [List.length_cons] at hpl3; omega
      have hN0 : NameS (joinL [47] (x :: xs)) := ⟨x, xs, rfl, by omega, fun p hp => (hpw p (by rw [hxs]; exact hp)).1⟩
      have hl0 := joinL_len [47] 20 x xs fun p hp => (hpw p (by rw [hxs]; exact hp)).2
      have e47 : ([47] : List Nat).length = 1 := rfl
      rw [e47] at hl0
      have : xs.length * (20 + 1) ≤ 1 * 21 := Nat.mul_le_mul_right _ hxl
      have hl0 : (joinL [47] (x :: xs)).length ≤ 41 := by omega
      rw [hname]
      generalize joinL [47] (x :: xs) = nm0 at *
      have X102 := X11.trans X12
      have hL12 : H12 L = some (.lst (strV (hd :: rows.map preB))) := X102.at_ (by rw [hid_ne Lp]; exact hL)
      have hN12 : H12 N = some (.lst (strV (rows.map (·.name)))) := X102.at_ (by rw [hid_ne Np]; exact hN)
      refine ⟨fun m σ H' => H' = H12 ∧ ∃ (nm : List Nat) (y5 y6 y7 : Option V), NameS nm ∧ nm.length + cntR rows nm.length ≤ 46 ∧ m = cntR rows nm.length ∧ σ = [some (.ref p), some (.ref L), some (.ref N), some (.int (0 + ((k : Nat) : Int))), some (.str (mk nm)), y5, y6, y7],
        ⟨_, rfl, nm0, _, _, _, hN0, by have := cnt_len rows nm0.length; omega, rfl, rfl⟩, ?_⟩
      rintro m1 σ H13 ⟨rfl, nm, y5, y6, y7, hNm, hl, rfl, rfl⟩
      have eN : strV (rows.map (·.name)) = (rows.map fun x => mk x.name).map V.str := by unfold strV; rw [List.map_map, List.map_map]; rfl
      have hN13 : H13 N = some (.lst ((rows.map fun x => mk x.name).map V.str)) := by rw [hN12, eN]
      refine ⟨_, rfl, _, rfl, N, _, rfl, .inl (SqL.of hN13), rfl, flat_map (fun _ => rfl) _, _, rfl, ?_⟩
      have ein : (if (false : Bool) = true then !inV (.str (mk nm)) ((rows.map fun x => mk x.name).map V.str) else inV (.str (mk nm)) ((rows.map fun x => mk x.name).map V.str)) = decide (mk nm ∈ rows.map fun x => mk x.name) := by
        rw [if_neg (by decide), inV_strs]
      by_cases hin : mk nm ∈ rows.map fun x => mk x.name
      · refine iteY (by rw [ein]; exact decide_eq_true hin) ?_
        obtain ⟨x, hx, e⟩ := List.mem_map.mp hin
        have e2 : x.name = nm := mk_injL e
        have hlt := cnt_lt hx
        rw [e2] at hlt
        have e95 : mk nm ++ ("_" : Str) = mk (nm ++ [95]) := mk_app nm [95]
        have u1 : ("_" : Str).length = 1 := by decide +kernel
        have ln : (nm ++ [95]).length = nm.length + 1 := by rw [List.length_append]; rfl
        refine ⟨_, fun _ _ h => h, _, rfl, _, _, rfl, rfl, sz_of (by rw [mk_len, u1]; omega), cntR rows (nm.length + 1), hlt, rfl, nm ++ [95], _, _, _, nameS_snoc hNm, by rw [ln]; omega, by rw [ln], by rw [e95]; rfl⟩
      refine iteN (by rw [ein]; exact decide_eq_false hin) ?_
      have XN13 : Px p a H2 (upd H13 N (.lst (strV (rows.map (·.name)) ++ [.str (mk nm)]))) := (X10.trans X102).mut nN2
      have hN14 : upd H13 N (.lst (strV (rows.map (·.name)) ++ [.str (mk nm)])) N = some (.lst (strV (rows.map (·.name)) ++ [.str (mk nm)])) := upd_same
      have hL14 : upd H13 N (.lst (strV (rows.map (·.name)) ++ [.str (mk nm)])) L = some (.lst (strV (hd :: rows.map preB))) := by rw [upd_ne NL.symm]; exact hL12
      refine ⟨_, rfl, .inl ⟨rfl, _, SqL.of hN12⟩, _, rfl, N, _, _, rfl, rfl, hN12, sz_lt (by unfold strV; rw [List.length_map, List.length_map]; omega), ?_⟩
      dsimp only
      generalize upd H13 N (.lst (strV (rows.map (·.name)) ++ [.str (mk nm)])) = H14 at *
      have j1 : ("reg " : Str).length = 4 := by decide +kernel
      have j2 : (" setup " : Str).length = 7 := by decide +kernel
      have j3 : (" hold 0" : Str).length = 7 := by decide +kernel
      have lnm : nm.length ≤ 46 := by omega
      refine ⟨_, rfl, .inl ⟨rfl, _, SqL.of hL14⟩, _, rfl, _, _, rfl, rfl, ?_, _, _, rfl, rfl, ?_, (by show 3 ≤ sizeLine; decide), fun l nl => ?_⟩
      any_goals exact sz_of (by simp only [str_len_app, mk_len, j1, j2, j3]; omega)
      have X15 := XN13.new (o := .lst [.str "none", .str "-5", .str "70"]) nl
      refine ⟨_, rfl, p, a, 3, rfl, by decide, by decide, X15.pool, fun w3 H16 hw X16 k16 => ?_⟩
      have hl16 : H16 l = some (.lst [.str "none", .str "-5", .str "70"]) := by rw [k16 _ (XN13.pool.ne nl)]; exact upd_same
      have lL : l ≠ L := fun z => by rw [z, hL14] at nl; cases nl
      have lN : l ≠ N := fun z => by rw [z, hN14] at nl; cases nl
      have hL16 : H16 L = some (.lst (strV (hd :: rows.map preB))) := by rw [k16 _ Lp, upd_ne lL.symm]; exact hL14
      have hN16 : H16 N = some (.lst (strV (rows.map (·.name)) ++ [.str (mk nm)])) := by rw [k16 _ Np, upd_ne lN.symm]; exact hN14
      obtain ⟨s, hsv, hs3⟩ : ∃ s : Option Int, ([.str "none", .str "-5", .str "70"] : List V)[w3]? = some (.str (mk (mL s))) ∧ (s = none ∨ s = some (-5) ∨ s = some 70) := by
        have r1 : mk (mL (some (-5))) = ("-5" : Str) := by decide +kernel
        have r2 : mk (mL (some 70)) = ("70" : Str) := by decide +kernel
        have r0 : mk (mL none) = ("none" : Str) := by decide +kernel
        match w3, hw with
        | 0, _ => exact ⟨none, by rw [r0]; rfl, .inl rfl⟩
        | 1, _ => exact ⟨some (-5), by rw [r1]; rfl, .inr (.inl rfl)⟩
        | 2, _ => exact ⟨some 70, by rw [r2]; rfl, .inr (.inr rfl)⟩
        | n + 3, h => exact absurd h (by omega)
      have lms : (mL s).length ≤ 10 := by rcases hs3 with z | z | z <;> rw [z] <;> decide +kernel
      have hj : (((("reg " : Str) ++ mk nm) ++ (" setup " : Str)) ++ mk (mL s)) ++ (" hold 0" : Str) = mk (preB ⟨nm, s, some 0, none⟩) := ext_tl (by
        simp only [tl_append, tl_mkS]
        unfold preB
        rw [joinL_flat]
        have e1 : tl ("reg " : Str) = tl ("reg" : Str) ++ [32] := by decide +kernel
        have e2 : tl (" setup " : Str) = [32] ++ tl ("setup" : Str) ++ [32] := by decide +kernel
        have e3 : tl (" hold 0" : Str) = [32] ++ tl ("hold" : Str) ++ [32] ++ mL (some 0) := by decide +kernel
        rw [e1, e2, e3]
        simp)
      refine ⟨_, _, _, _, rfl, rfl, SqL.of hl16, at_of (j := w3) rfl hsv, _, _, rfl, rfl, ?_, _, _, rfl, rfl, ?_, ?_⟩
      any_goals exact sz_of (by simp only [str_len_app, mk_len, j1, j2, j3]; omega)
      rw [hj]
      have X216 : Px p a H2 H16 := X15.trans X16
      refine ⟨L, _, _, rfl, rfl, hL16, sz_lt (by unfold strV; rw [List.length_map, List.length_cons, List.length_map]; omega), X216.mut nL, rows ++ [⟨nm, s, some 0, none⟩], _, _, _, _, _, ?_, ?_, by rw [List.length_append, hrl]; rfl, fun x hx => ?_, ?_, rfl⟩
      · rw [upd_same, List.map_append]
        unfold strV
        simp
      · rw [upd_ne NL, hN16, List.map_append]
        unfold strV
        simp
      · rcases List.mem_append.mp hx with z | z
        · exact hrows x z
        · rw [List.mem_singleton.mp z]; exact ⟨hNm, by show nm.length ≤ 60; omega, rfl, hs3, rfl⟩
      · rw [List.map_append]
        refine List.nodup_append.mpr ⟨hnd, List.nodup_cons.mpr ⟨List.not_mem_nil, List.nodup_nil⟩, fun x hx y hy e => hin ?_⟩
        have hy : y = nm := List.mem_singleton.mp hy
        subst hy
        subst e
        obtain ⟨z, hz, rfl⟩ := List.mem_map.mp hx
        exact List.mem_map.mpr ⟨z, hz, rfl⟩
    · rintro σ H10 ⟨X10, rows, y3, y4, y5, y6, y7, hL, hN, hrl, hrows, hnd, rfl⟩
      obtain ⟨x0, xs, rfl⟩ : ∃ x0 xs, rows = x0 :: xs := List.exists_cons_of_ne_nil fun z => by rw [z] at hrl; simp at hrl; omega
      have hxl : xs.length ≤ 3 := by rw [List.length_cons] at hrl; omega
      have hL : H10 L = some (.lst (.str (mk hd) :: .str (mk (preB x0)) :: strV (xs.map preB))) := hL
      have j4 : (" loose at 12 for " : Str).length = 17 := by decide +kernel
      have j0 : ("0" : Str).length = 1 := by decide +kernel
      have pl : ∀ x ∈ x0 :: xs, (preB x).length ≤ 500 := fun x hx => by
        obtain ⟨_, h1, h2, h3, _⟩ := hrows x hx
        unfold preB
        have := joinL_len [32] 61 (tl ("reg" : Str)) [x.name, tl ("setup" : Str), mL x.setup, tl ("hold" : Str), mL x.hold] fun p hp => by
          simp only [List.mem_cons, List.not_mem_nil, or_false] at hp
          rcases hp with z | z | z | z | z | z <;> rw [z]
          · decide +kernel
          · omega
          · decide +kernel
          · rcases h3 with w | w | w <;> rw [w] <;> decide +kernel
          · decide +kernel
          · rw [h2]; decide +kernel
        exact Nat.le_trans this (by show 61 + 5 * (61 + 1) ≤ 500; decide)
      have pl0 := pl x0 List.mem_cons_self
      refine ⟨(by show 2 ≤ sizeLine; decide), fun l1 n1 => ?_⟩
      have X11 := (Px.refl X10.pool).new (o := .lst [.str "0", .str "1"]) n1
      refine ⟨_, rfl, p, a, 2, rfl, by decide, by decide, X11.pool, fun v1 H12 hv1 X12' k12 => ?_⟩
      have hl1 : H12 l1 = some (.lst [.str "0", .str "1"]) := by rw [k12 _ (X10.pool.ne n1)]; exact upd_same
      obtain ⟨b, hb⟩ : ∃ b : Bool, ([.str "0", .str "1"] : List V)[v1]? = some (.str (mk [bitL b])) := by
        match v1, hv1 with
        | 0, _ => exact ⟨false, rfl⟩
        | 1, _ => exact ⟨true, rfl⟩
        | n + 2, h => exact absurd h (by omega)
      refine ⟨_, _, _, _, rfl, rfl, SqL.of hl1, at_of (j := v1) rfl hb, _, _, rfl, rfl, ?_, (by show 2 ≤ sizeLine; decide), fun l2 n2 => ?_⟩
      · exact sz_of (by simp only [str_len_app, mk_len, j0]; show 1 + 1 ≤ _; decide)
      have e2b : mk [bitL b] ++ ("0" : Str) = mk (bitsL [b, false]) := mk_app [bitL b] [48]
      rw [e2b]
      have X13 := (X11.trans X12').new (o := .lst [.str (mk (bitsL [b, false])), .str "-"]) n2
      refine ⟨_, rfl, p, a, 2, rfl, by decide, by decide, X13.pool, fun v2 H14 hv2 X14 k14 => ?_⟩
      have hl2 : H14 l2 = some (.lst [.str (mk (bitsL [b, false])), .str "-"]) := by rw [k14 _ (X12'.pool.ne n2)]; exact upd_same
      obtain ⟨bs, hbs, hbs2⟩ : ∃ bs : List Bool, ([.str (mk (bitsL [b, false])), .str "-"] : List V)[v2]? = some (.str (mk (bitsL bs))) ∧ (bs = [] ∨ ∃ b, bs = [b, false]) := by
        match v2, hv2 with
        | 0, _ => exact ⟨_, rfl, .inr ⟨b, rfl⟩⟩
        | 1, _ => exact ⟨[], rfl, .inl rfl⟩
        | n + 2, h => exact absurd h (by omega)
      have lbs : (bitsL bs).length ≤ 2 := by rcases hbs2 with z | ⟨b, z⟩ <;> rw [z] <;> show _ ≤ 2 <;> first | decide | exact Nat.le_refl _
      have X1014 := X13.trans X14
      have hL14 : H14 L = some (.lst (.str (mk hd) :: .str (mk (preB x0)) :: strV (xs.map preB))) := X1014.at_ (by rw [hid_ne Lp]; exact hL)
      refine ⟨_, _, _, _, rfl, rfl, SqL.of hl2, at_of (j := v2) rfl hbs, ?_⟩
      refine ⟨_, rfl, _, _, _, _, rfl, rfl, SqL.of hL14, atI_nat (j := 1) rfl, _, _, rfl, rfl, ?_, _, rfl, _, _, rfl, rfl, ?_, ?_⟩
      any_goals exact sz_of (by simp only [str_len_app, mk_len, j4]; omega)
      have hj : (mk (preB x0) ++ (" loose at 12 for " : Str)) ++ mk (bitsL bs) = mk (rowLR { x0 with vio := some (12, bs) }) := ext_tl (by
        simp only [tl_append, tl_mkS]
        unfold preB rowLR
        show _ = joinL [32] (tl ("reg" : Str) :: [x0.name, tl ("setup" : Str), mL x0.setup, tl ("hold" : Str), mL x0.hold, tl ("loose" : Str), tl ("at" : Str), intL 12, tl ("for" : Str), bitsL bs])
        rw [joinL_flat, joinL_flat]
        have e1 : tl (" loose at 12 for " : Str) = [32] ++ tl ("loose" : Str) ++ [32] ++ tl ("at" : Str) ++ [32] ++ intL 12 ++ [32] ++ tl ("for" : Str) ++ [32] := by decide +kernel
        rw [e1]
        simp)
      rw [hj]
      refine ⟨_, rfl, L, _, 1, 1, rfl, rfl, hL14, (ixN_nat (by rw [List.length_cons, List.length_cons]; omega) : ixN (.str (mk hd) :: .str (mk (preB x0)) :: strV (xs.map preB) : List V).length ((1 : Nat) : Int) = some 1), ?_⟩
      have X15 : Px p a H2 (upd H14 L (.lst (.str (mk hd) :: .str (mk (rowLR { x0 with vio := some (12, bs) })) :: strV (xs.map preB)))) := (X10.trans X1014).mut nL
      have hL15 : upd H14 L (.lst (.str (mk hd) :: .str (mk (rowLR { x0 with vio := some (12, bs) })) :: strV (xs.map preB))) L = some (.lst (.str (mk hd) :: .str (mk (rowLR { x0 with vio := some (12, bs) })) :: strV (xs.map preB))) := upd_same
      dsimp only [List.set]
      generalize upd H14 L (.lst (.str (mk hd) :: .str (mk (rowLR { x0 with vio := some (12, bs) })) :: strV (xs.map preB))) = H15 at *
      refine ⟨_, rfl, _, _, _, _, rfl, rfl, SqL.of hL15, atI_nat (j := 0) rfl, _, rfl, _, _, _, _, rfl, rfl, SqL.of hL15, atI_nat (j := 1) rfl, (by show 2 ≤ sizeLine; decide), fun l3 n3 => ?_⟩
      have E1 : Ex H15 (upd H15 l3 (.lst [.str (mk hd), .str (mk (rowLR { x0 with vio := some (12, bs) }))])) := Ex.new n3
      have h3 : upd H15 l3 (.lst [.str (mk hd), .str (mk (rowLR { x0 with vio := some (12, bs) }))]) l3 = some (.lst [.str (mk hd), .str (mk (rowLR { x0 with vio := some (12, bs) }))]) := upd_same
      have hL16 := E1 _ _ hL15
      dsimp only
      generalize upd H15 l3 (.lst [.str (mk hd), .str (mk (rowLR { x0 with vio := some (12, bs) }))]) = H16 at *
      refine ⟨_, rfl, _, rfl, L, _, rfl, SqL.of hL16, fun c nc => ?_⟩
      have ec : cutV (.str (mk hd) :: .str (mk (rowLR { x0 with vio := some (12, bs) })) :: strV (xs.map preB)) (some 2) none = strV (xs.map preB) := by
        have : cutV (.str (mk hd) :: .str (mk (rowLR { x0 with vio := some (12, bs) })) :: strV (xs.map preB)) (some ((2 : Nat) : Int)) none = _ := cutV_tail (by rw [List.length_cons, List.length_cons]; omega)
        rw [show (2 : Int) = ((2 : Nat) : Int) from rfl, this]; rfl
      rw [ec]
      have E2 : Ex H16 (upd H16 c (.lst (strV (xs.map preB)))) := Ex.new nc
      have hc : upd H16 c (.lst (strV (xs.map preB))) c = some (.lst (strV (xs.map preB))) := upd_same
      generalize upd H16 c (.lst (strV (xs.map preB))) = H17 at *
      have jok : (" ok" : Str).length = 3 := by decide +kernel
      refine ⟨c, rfl, ⟨_, SqL.of hc⟩, fun R nR => wk_list (K := K) (a := c) (xs := strV (xs.map preB)) (fun k H' => Ex H17 H' ∧ H' R = some (.lst (strV ((xs.take k).map rowLR)))) ⟨Ex.new nR, upd_same⟩ (fun k H' _ g => SqL.of (g.1 _ _ hc)) ?_ ?_⟩
      · rintro k y H18 hy ⟨E3, hR⟩
        unfold strV at hy
        rw [List.getElem?_map, List.getElem?_map] at hy
        obtain ⟨l, hl, rfl⟩ := Option.map_eq_some_iff.mp hy
        obtain ⟨x, hx, rfl⟩ := Option.map_eq_some_iff.mp hl
        have hxm := List.mem_cons_of_mem x0 (List.mem_of_getElem? hx)
        have hxv := (hrows x hxm).2.2.2.2
        have lx := pl x hxm
        have ex : mk (preB x) ++ (" ok" : Str) = mk (rowLR x) := ext_tl (by
          simp only [tl_append, tl_mkS]
          unfold preB rowLR
          rw [hxv]
          show _ = joinL [32] (tl ("reg" : Str) :: [x.name, tl ("setup" : Str), mL x.setup, tl ("hold" : Str), mL x.hold, tl ("ok" : Str)])
          rw [joinL_flat, joinL_flat]
          have e1 : tl (" ok" : Str) = [32] ++ tl ("ok" : Str) := by decide +kernel
          rw [e1]
          simp)
        refine ⟨rfl, tYes_in ?_⟩
        simp only [wipe, _root_.L2.start, List.map_cons, List.map_nil, List.length_cons, List.length_nil, Nat.reduceAdd, Nat.reduceSub, List.replicate_succ, List.replicate_zero, List.cons_append, List.nil_append, List.set_cons_zero, List.set_cons_succ]
        refine ⟨_, rfl, _, _, rfl, rfl, sz_of (by rw [mk_len, jok]; omega), _, hR, ?_, E3.mut nR, ?_⟩
        · unfold strV; rw [List.length_map, List.length_map, List.length_take]; exact sz_lt (by omega)
        · rw [upd_same, take_snoc1 hx, ex]
          unfold strV
          rw [List.map_append, List.map_append]; rfl
      rintro H18 ⟨E3, hR⟩
      have e0 : (strV (xs.map preB)).length = xs.length := by unfold strV; rw [List.length_map, List.length_map]
      rw [e0, List.take_length] at hR
      have srl : (strV (xs.map rowLR)).length = xs.length := by unfold strV; rw [List.length_map, List.length_map]
      refine ⟨l3, R, _, _, rfl, rfl, E3 _ _ (E2 _ _ h3), hR, sz_of (by rw [srl]; show 2 + _ ≤ _; omega), fun c2 m2 => ⟨(by show 1 ≤ sizeLine; decide), fun l5 m5 => ⟨c2, l5, _, _, rfl, rfl, (Ex.new m5) _ _ upd_same, upd_same, sz_of (by rw [List.length_append, srl]; show 2 + _ + 1 ≤ _; omega), fun c6 m6 => ?_⟩⟩⟩
      refine q ⟨T1, 1 + (v : Nat), { x0 with vio := some (12, bs) } :: xs⟩ c6 _ ⟨hnm, hT2, (by show (1 : Int) ≤ 1 + (v : Nat) ∧ (1 : Int) + (v : Nat) ≤ 999; omega), ⟨_, xs, rfl, hxl, ⟨bs, rfl, hbs2⟩, fun y hy => (hrows y (List.mem_cons_of_mem _ hy)).2.2.2.2⟩, fun x hx => ?_, hnd⟩ ((X12.trans X15).more ((E1.trans (E2.trans E3)).trans ((Ex.new m2).trans ((Ex.new m5).trans (Ex.new m6))))) ?_
      · rcases List.mem_cons.mp hx with z | z
        · obtain ⟨w1, w2, w3, w4, _⟩ := hrows x0 List.mem_cons_self
          rw [z]
          exact ⟨w1, w2, w3, w4⟩
        · obtain ⟨w1, w2, w3, w4, _⟩ := hrows x (List.mem_cons_of_mem _ z)
          exact ⟨w1, w2, w3, w4⟩
      · rw [upd_same]
        have hc0 : RepR.clean ⟨T1, 1 + (v : Nat), { x0 with vio := some (12, bs) } :: xs⟩ = false := rfl
        have hvd : mk (verdL false) = ("not clean" : Str) := mk_tlS _
        unfold RepR.lines
        rw [hc0]
        show some (HO.lst (([.str (mk hd), .str (mk (rowLR { x0 with vio := some (12, bs) }))] ++ strV (xs.map rowLR)) ++ [.str "not clean"])) = _
        rw [← hvd, ← hhd]
        unfold strV
        simp [headR]
end
end G
namespace G
open PySem PySem.Spec PyProof.Rows L2 Evl TL
/-! ## spoilt lines are no report's -/
def textOf (ls : List (List Nat)) : List Nat := (ls.map (· ++ [10])).flatten
theorem textOf_cons (x : List Nat) (xs : List (List Nat)) : textOf (x :: xs) = joinL [10] (x :: xs) ++ [10] := joinL_end [10] x xs
theorem lines_uniq {Y : List Nat} {ls ks : List (List Nat)} (h : IsLines Y ls) (g : IsLines Y ks) : ls = ks := by
  rcases h with ⟨x, xs, rfl, e, hx⟩ | ⟨rfl, hn⟩
  · rcases g with ⟨y, ys, rfl, e2, hy⟩ | ⟨_, hn⟩
    · rw [e] at e2
      exact join_inj k10 hx hy (List.append_inj' e2 rfl).1
    · exact absurd e (hn _)
  · rcases g with ⟨y, ys, _, e2, _⟩ | ⟨rfl, _⟩
    · exact absurd e2 (hn _)
    · rfl
theorem lines_textOf {ls : List (List Nat)} (hne : ls ≠ []) (hf : ∀ l ∈ ls, 10 ∉ l) : IsLines (textOf ls) ls := by
  obtain ⟨x, xs, rfl⟩ := List.exists_cons_of_ne_nil hne
  exact .inl ⟨x, xs, rfl, textOf_cons x xs, hf⟩
theorem textOf_len : ∀ (ls : List (List Nat)) (m : Nat), (∀ l ∈ ls, l.length ≤ m) → (textOf ls).length ≤ ls.length * (m + 1)
  | [], _, _ => Nat.zero_le _
  | x :: ls, m, h => by
    have h1 := h x List.mem_cons_self
    have h2 := textOf_len ls m fun l hl => h l (List.mem_cons_of_mem _ hl)
    have e : (x :: ls).length * (m + 1) = ls.length * (m + 1) + (m + 1) := by rw [List.length_cons, Nat.succ_mul]
    have e2 : ([10] : List Nat).length = 1 := rfl
    unfold textOf at *
    rw [List.map_cons, List.flatten_cons, List.length_append, List.length_append, e, e2]
    omega
theorem textOf_small {ls : List (List Nat)} (h : ∀ l ∈ ls, ∀ c ∈ l, c < 200) : ∀ c ∈ textOf ls, c < 200 := fun c hc => by
  unfold textOf at hc
  obtain ⟨p, hp, hcp⟩ := List.mem_flatten.mp hc
  obtain ⟨l, hl, rfl⟩ := List.mem_map.mp hp
  rcases List.mem_append.mp hcp with z | z
  · exact h l hl c z
  · rw [List.mem_singleton.mp z]; decide
/-- no report has these lines -/
theorem norep_of {ls : List (List Nat)} (hne : ls ≠ []) (hl : ls.length ≤ 20) (h1 : ∀ l ∈ ls, 10 ∉ l ∧ l.length ≤ 2000 ∧ ∀ c ∈ l, c < 200) (h : ∀ r, IsRep (textOf ls) r → ls = r.lines → False) : NoRep (textOf ls) where
  len := by
    have := textOf_len ls 2000 fun l hl => (h1 l hl).2.1
    have : ls.length * (2000 + 1) ≤ 20 * 2001 := Nat.mul_le_mul_right _ hl
    omega
  small := textOf_small fun l hl => (h1 l hl).2.2
  lines := fun ks hk => by
    rw [← lines_uniq (lines_textOf hne fun l hl => (h1 l hl).1) hk]
    omega
  no := fun r hr => h r hr (text_lines (lines_textOf hne fun l hl => (h1 l hl).1) hr)
theorem norep_nil : NoRep [] where
  len := by decide
  small := fun _ h => nomatch h
  lines := fun ls h => by
    rcases h with ⟨x, xs, rfl, e, _⟩ | ⟨rfl, _⟩
    · have := congrArg List.length e
      rw [List.length_append] at this
      have e2 : ([10] : List Nat).length = 1 := rfl
      simp at this
    · decide
  no := fun r h => by
    have := h.2.2.2.2.2
    unfold RepR.text RepR.lines at this
    rw [List.map_cons, List.flatten_cons] at this
    have := congrArg List.length this
    rw [List.length_append, List.length_append] at this
    have e2 : ([10] : List Nat).length = 1 := rfl
    simp at this
/-- a row's line is no first line, and no last one -/
theorem row_ne_head {x : RowR} {r : RepR} (hx : NameG x.name) (hr : isName r.modu = true) : rowLR x ≠ headR r := fun e => by
  have e : rowW x = _ := join_inj k32 (rowW_freeG hx (.inl rfl)) (head_freeG hr (.inl rfl)) e
  unfold rowW at e
  injection e with e _
  exact absurd e (by decide +kernel)
theorem verd_words (b : Bool) : ∃ y ys, verdL b = joinL [32] (y :: ys) ∧ (∀ p ∈ y :: ys, 32 ∉ p) ∧ (y :: ys).length ≤ 2 := by
  cases b
  · exact ⟨tl ("not" : Str), [tl ("clean" : Str)], by decide +kernel, by decide +kernel, by decide⟩
  · exact ⟨tl ("clean" : Str), [], by decide +kernel, by decide +kernel, by decide⟩
theorem row_ne_verd {x : RowR} (hx : NameG x.name) (b : Bool) : rowLR x ≠ verdL b := fun e => by
  obtain ⟨y, ys, h, hf, hl⟩ := verd_words b
  rw [h] at e
  have e : rowW x = _ := join_inj k32 (rowW_freeG hx (.inl rfl)) hf e
  rw [← e] at hl
  unfold rowW at hl
  rw [List.length_append] at hl
  have e6 : ([tl ("reg" : Str), x.name, tl ("setup" : Str), mL x.setup, tl ("hold" : Str), mL x.hold]).length = 6 := rfl
  omega
theorem run_smallB : ∀ c ∈ tl sRUN, c < 200 := by decide +kernel
theorem nameG_small {n : List Nat} (h : NameG n) : ∀ c ∈ n, c < 200 := fun c hc => by
  by_cases h47 : c = 47
  · omega
  · cases hr : isRun c with
    | true => exact run_smallB c (of_decide_eq_true hr)
    | false => exact absurd hc (nameG_free h hr h47)
theorem mL_small (m : Option Int) : ∀ c ∈ mL m, c < 200 := by
  cases m with
  | none => exact (by decide +kernel)
  | some i => exact intL_small
theorem join_small {x : List Nat} {xs : List (List Nat)} (h : ∀ p ∈ x :: xs, ∀ c ∈ p, c < 200) : ∀ c ∈ joinL [32] (x :: xs), c < 200 := fun c hc => by
  rcases joinL_mem _ _ _ _ hc with ⟨p, hp, hcp⟩ | z
  · exact h p hp c hcp
  · rw [List.mem_singleton.mp z]; decide
theorem nameS_G {n : List Nat} (h : NameS n) : NameG n := by
  obtain ⟨x, xs, e, _, hw⟩ := h
  exact ⟨x, xs, e, hw⟩
theorem rowW_small {x : RowR} (h : NameG x.name) : ∀ p ∈ rowW x, ∀ c ∈ p, c < 200 := fun p hp => by
  unfold rowW at hp
  rcases List.mem_append.mp hp with y | y
  · simp only [List.mem_cons, List.not_mem_nil, or_false] at y
    rcases y with z | z | z | z | z | z <;> rw [z]
    · exact (by decide +kernel)
    · exact nameG_small h
    · exact (by decide +kernel)
    · exact mL_small _
    · exact (by decide +kernel)
    · exact mL_small _
  · exact vioW_small _ p y
section
variable {r : RepR}
theorem base_row (B : BaseR r) : ∀ x ∈ r.rows, RowOkR 2 { x with vio := x.vio.map fun q => (q.1, [false, false]) } ∧ RowOkG x ∧ (rowLR x).length ≤ 2000 := fun x hx => by
  obtain ⟨w1, w2, w3, w4⟩ := B.row x hx
  have p60 : 1000 < (10 : Nat) ^ 60 := by decide +kernel
  have fs : FewO x.setup := by
    rcases w4 with z | z | z <;> rw [z]
    · trivial
    · exact Nat.lt_trans (by decide : (-5 : Int).natAbs < 1000) p60
    · exact Nat.lt_trans (by decide : (70 : Int).natAbs < 1000) p60
  have fh : FewO x.hold := by rw [w3]; exact Nat.lt_trans (by decide : (0 : Int).natAbs < 1000) p60
  have f12 : Few 12 := Nat.lt_trans (by decide : (12 : Int).natAbs < 1000) p60
  obtain ⟨x0, xs, e, _, ⟨bs, hv, hb⟩, hn⟩ := B.rows
  have nk : NameK x.name := ⟨w1, by omega⟩
  have hvx : x.vio = none ∨ ∃ bs, x.vio = some (12, bs) ∧ bs.length ≤ 2 := by
    rw [e] at hx
    rcases List.mem_cons.mp hx with z | z
    · rw [z]
      refine .inr ⟨bs, hv, ?_⟩
      rcases hb with q | ⟨b, q⟩ <;> rw [q]
      · decide
      · exact Nat.le_refl _
    · exact .inl (hn x z)
  refine ⟨⟨nk, fs, fh, ?_⟩, ⟨nameS_G w1, fs, fh, ?_⟩, ?_⟩
  · intro i cs h
    rcases hvx with z | ⟨bs, z, _⟩
    · rw [z] at h; cases h
    · rw [z] at h
      injection h with h
      injection h with h1 h2
      exact ⟨by rw [← h1]; exact f12, by rw [← h2]; rfl⟩
  · rcases hvx with z | ⟨bs, z, _⟩ <;> rw [z]
    · trivial
    · exact f12
  · rcases hvx with z | ⟨bs, z, hl⟩
    · exact row_lenR (sz := 2) (by decide) ⟨nk, fs, fh, fun i cs h => by rw [z] at h; cases h⟩
    · exact row_lenR (sz := bs.length) (by omega) ⟨nk, fs, fh, fun i cs h => by rw [z] at h; injection h with h; injection h with h1 h2; exact ⟨by rw [← h1]; exact f12, by rw [← h2]⟩⟩
theorem base_rep (B : BaseR r) : IsRep r.text r := by
  obtain ⟨h1, h2⟩ := B.per
  have p60 : 1000 < (10 : Nat) ^ 60 := by decide +kernel
  refine ⟨B.modn, h1, Nat.lt_trans (by omega) p60, fun x hx => (base_row B x hx).2.1, ⟨B.nodup, ?_⟩, rfl⟩
  obtain ⟨x0, xs, e, _, ⟨bs, hv, _⟩, hn⟩ := B.rows
  refine ⟨bs.length, fun x hx i cs h => ?_⟩
  rw [e] at hx
  rcases List.mem_cons.mp hx with z | z
  · rw [z, hv] at h
    injection h with h
    injection h with _ h
    rw [h]
  · rw [hn x z] at h; cases h
theorem base_line (B : BaseR r) : r.lines.length ≤ 6 ∧ ∀ l ∈ r.lines, 10 ∉ l ∧ l.length ≤ 2000 ∧ ∀ c ∈ l, c < 200 := by
  obtain ⟨h1, h2⟩ := B.per
  obtain ⟨x0, xs, e, hxl, _, _⟩ := B.rows
  have p60 : 1000 < (10 : Nat) ^ 60 := by decide +kernel
  have lp := few_len (i := r.per) (Nat.lt_trans (by omega) p60)
  have lm := B.modl
  refine ⟨by unfold RepR.lines; rw [List.length_cons, List.length_append, List.length_map, e, List.length_cons]; show xs.length + 1 + 1 + 1 ≤ 6; omega, fun l hl => ?_⟩
  unfold RepR.lines at hl
  rcases List.mem_cons.mp hl with z | z
  · rw [z]
    refine ⟨free_join (head_freeG B.modn (.inr rfl)) (by decide), ?_, join_small fun p hp => ?_⟩
    · have := joinL_len [32] 61 (tl ("module" : Str)) [r.modu, tl ("period" : Str), intL r.per] fun p hp => by
        simp only [List.mem_cons, List.not_mem_nil, or_false] at hp
        rcases hp with z | z | z | z <;> rw [z]
        · decide +kernel
        · omega
        · decide +kernel
        · omega
      exact Nat.le_trans this (by show 61 + 3 * (61 + 1) ≤ 2000; decide)
    · simp only [List.mem_cons, List.not_mem_nil, or_false] at hp
      rcases hp with z | z | z | z <;> rw [z]
      · exact (by decide +kernel)
      · exact nameG_small ⟨r.modu, [], rfl, fun p hp => by rw [List.mem_singleton.mp hp]; exact B.modn⟩
      · exact (by decide +kernel)
      · exact intL_small
  · rcases List.mem_append.mp z with z | z
    · obtain ⟨x, hx, rfl⟩ := List.mem_map.mp z
      obtain ⟨_, ok, hl⟩ := base_row B x hx
      exact ⟨free_join (rowW_freeG ok.1 (.inr rfl)) (by decide), hl, join_small (rowW_small ok.1)⟩
    · rw [List.mem_singleton.mp z]
      cases r.clean <;> exact ⟨(by decide +kernel), (by decide +kernel), (by decide +kernel)⟩
end
end G
namespace G
open PySem PySem.Spec PyProof.Rows L2 Evl TL
/-! ## the forms of spoilt lines -/
section
variable {r : RepR}
def rowsL (r : RepR) : List (List Nat) := r.rows.map rowLR
theorem base_ls (B : BaseR r) : ∃ R0 RS, rowsL r = R0 :: RS ∧ r.lines = headR r :: (rowsL r ++ [verdL false]) ∧ r.clean = false := by
  obtain ⟨x0, xs, e, _, ⟨bs, hv, _⟩, _⟩ := B.rows
  have hc : r.clean = false := by
    unfold RepR.clean
    rw [e, List.all_cons, hv]; rfl
  refine ⟨rowLR x0, xs.map rowLR, by unfold rowsL; rw [e]; rfl, ?_, hc⟩
  unfold RepR.lines rowsL
  rw [hc]
theorem mem_row (B : BaseR r) {l : List Nat} (h : l ∈ rowsL r) : ∃ x ∈ r.rows, l = rowLR x ∧ RowOkG x := by
  obtain ⟨x, hx, rfl⟩ := List.mem_map.mp h
  exact ⟨x, hx, rfl, (base_row B x hx).2.1⟩
theorem line_ok (B : BaseR r) : ∀ l, l = headR r ∨ l ∈ rowsL r ∨ l = verdL false → 10 ∉ l ∧ l.length ≤ 2000 ∧ ∀ c ∈ l, c < 200 := fun l h => by
  obtain ⟨_, _, _, e, _⟩ := base_ls B
  refine (base_line B).2 l ?_
  rw [e]
  rcases h with z | z | z
  · rw [z]; exact List.mem_cons_self
  · exact List.mem_cons_of_mem _ (List.mem_append_left _ z)
  · rw [z]; exact List.mem_cons_of_mem _ (List.mem_append_right _ List.mem_cons_self)
theorem rows_few (B : BaseR r) : (rowsL r).length ≤ 4 := by
  obtain ⟨x0, xs, e, hxl, _, _⟩ := B.rows
  unfold rowsL
  rw [List.length_map, e, List.length_cons]
  omega
/-- 0: the first line is missing -/
theorem form0 (B : BaseR r) : NoRep (textOf (rowsL r ++ [verdL false])) := by
  obtain ⟨R0, RS, e, _, _⟩ := base_ls B
  have hl := rows_few B
  refine norep_of (by rw [e]; simp) (by rw [List.length_append]; show _ + 1 ≤ 20; omega) (fun l h => line_ok B l ?_) fun r' h' e' => ?_
  · rcases List.mem_append.mp h with z | z
    · exact .inr (.inl z)
    · exact .inr (.inr (List.mem_singleton.mp z))
  · rw [e] at e'
    unfold RepR.lines at e'
    injection e' with e1 _
    obtain ⟨x, _, hx, ok⟩ := mem_row B (l := R0) (by rw [e]; exact List.mem_cons_self)
    exact row_ne_head ok.1 h'.1 (by rw [← hx]; exact e1)
/-- 1: the last line is missing -/
theorem form1 (B : BaseR r) : NoRep (textOf (headR r :: rowsL r)) := by
  have hl := rows_few B
  refine norep_of (by simp) (by rw [List.length_cons]; omega) (fun l h => line_ok B l ?_) fun r' h' e' => ?_
  · rcases List.mem_cons.mp h with z | z
    · exact .inl z
    · exact .inr (.inl z)
  · unfold RepR.lines at e'
    injection e' with _ e2
    obtain ⟨x, _, hx, ok⟩ := mem_row B (l := verdL r'.clean) (by rw [e2]; simp)
    exact row_ne_verd ok.1 _ hx.symm
/-- 2: a line of one word before the rows -/
theorem form2 (B : BaseR r) {w : List Nat} (hw : w ∈ [([] : List Nat), tl ("reg" : Str), tl ("clean" : Str)]) : NoRep (textOf (headR r :: w :: (rowsL r ++ [verdL false]))) := by
  have hl := rows_few B
  have w32 : 32 ∉ w := (by decide +kernel : ∀ w ∈ [([] : List Nat), tl ("reg" : Str), tl ("clean" : Str)], 32 ∉ w) w hw
  have w10 : 10 ∉ w ∧ w.length ≤ 2000 ∧ ∀ c ∈ w, c < 200 := (by decide +kernel : ∀ w ∈ [([] : List Nat), tl ("reg" : Str), tl ("clean" : Str)], 10 ∉ w ∧ w.length ≤ 2000 ∧ ∀ c ∈ w, c < 200) w hw
  refine norep_of (by simp) (by rw [List.length_cons, List.length_cons, List.length_append]; show _ + 1 + 1 + 1 ≤ 20; omega) (fun l h => ?_) fun r' h' e' => ?_
  · rcases List.mem_cons.mp h with z | z
    · exact line_ok B l (.inl z)
    · rcases List.mem_cons.mp z with z | z
      · rw [z]; exact w10
      · rcases List.mem_append.mp z with z | z
        · exact line_ok B l (.inr (.inl z))
        · exact line_ok B l (.inr (.inr (List.mem_singleton.mp z)))
  · unfold RepR.lines at e'
    injection e' with _ e2
    cases hr : r'.rows with
    | nil =>
      rw [hr] at e2
      have := congrArg List.length e2
      rw [List.length_cons, List.length_append] at this
      have e1 : ([verdL false] : List (List Nat)).length = 1 := rfl
      have e3 : ((([] : List RowR).map rowLR) ++ [verdL r'.clean]).length = 1 := rfl
      omega
    | cons y ys =>
      rw [hr] at e2
      have e3 : w = rowLR y := by injection e2
      have ok := h'.2.2.2.1 y (by rw [hr]; exact List.mem_cons_self)
      have e4 : [w] = rowW y := join_inj (s := 32) k32 (x := w) (xs := []) (fun p hp => by rw [List.mem_singleton.mp hp]; exact w32) (rowW_freeG ok.1 (.inl rfl)) e3
      have := congrArg List.length e4
      unfold rowW at this
      rw [List.length_append] at this
      have e6 : ([tl ("reg" : Str), y.name, tl ("setup" : Str), mL y.setup, tl ("hold" : Str), mL y.hold]).length = 6 := rfl
      rw [e6] at this
      have e1 : ([w] : List (List Nat)).length = 1 := rfl
      omega
/-- 3, 4: another last line -/
theorem form34 (B : BaseR r) {w : List Nat} (hw : w ∈ [tl ("clean" : Str), tl ("not  clean" : Str)]) : NoRep (textOf (headR r :: (rowsL r ++ [w]))) := by
  have hl := rows_few B
  have w10 : w ≠ verdL false ∧ 10 ∉ w ∧ w.length ≤ 2000 ∧ ∀ c ∈ w, c < 200 := (by decide +kernel : ∀ w ∈ [tl ("clean" : Str), tl ("not  clean" : Str)], w ≠ verdL false ∧ 10 ∉ w ∧ w.length ≤ 2000 ∧ ∀ c ∈ w, c < 200) w hw
  refine norep_of (by simp) (by rw [List.length_cons, List.length_append]; show _ + 1 + 1 ≤ 20; omega) (fun l h => ?_) fun r' h' e' => ?_
  · rcases List.mem_cons.mp h with z | z
    · exact line_ok B l (.inl z)
    · rcases List.mem_append.mp z with z | z
      · exact line_ok B l (.inr (.inl z))
      · rw [List.mem_singleton.mp z]; exact w10.2
  · unfold RepR.lines at e'
    injection e' with _ e2
    obtain ⟨e3, e4⟩ := List.append_inj' e2 rfl
    have er : r.rows = r'.rows := rows_inj (fun x hx => (base_row B x hx).2.1) h'.2.2.2.1 e3
    obtain ⟨_, _, _, _, hc⟩ := base_ls B
    have hc' : r'.clean = false := by unfold RepR.clean at *; rw [← er]; exact hc
    injection e4 with e4
    rw [hc'] at e4
    exact w10.1 e4
end
end G
namespace G
open PySem PySem.Spec PyProof.Rows L2 Evl TL
/-! ## a line replaced -/
section
variable {r : RepR}
def LineOk (l : List Nat) : Prop := 10 ∉ l ∧ l.length ≤ 2000 ∧ ∀ c ∈ l, c < 200
/-- 5, 6: another first line -/
theorem formH (B : BaseR r) {L : List Nat} (ok : LineOk L) (no : ∀ m i, ¬ IsHead L m i) : NoRep (textOf (L :: (rowsL r ++ [verdL false]))) := by
  have hl := rows_few B
  refine norep_of (by simp) (by rw [List.length_cons, List.length_append]; show _ + 1 + 1 ≤ 20; omega) (fun l h => ?_) fun r' h' e' => ?_
  · rcases List.mem_cons.mp h with z | z
    · rw [z]; exact ok
    · rcases List.mem_append.mp z with z | z
      · exact line_ok B l (.inr (.inl z))
      · exact line_ok B l (.inr (.inr (List.mem_singleton.mp z)))
  · unfold RepR.lines at e'
    injection e' with e1 _
    exact no r'.modu r'.per ⟨h'.1, h'.2.1, h'.2.2.1, e1⟩
/-- 7 to 10, 13: another row -/
theorem formR (B : BaseR r) {L : List Nat} {k : Nat} (hk : k < (rowsL r).length) (ok : LineOk L) (no : ∀ x, ¬ IsRow L x) : NoRep (textOf (headR r :: ((rowsL r).set k L ++ [verdL false]))) := by
  have hl := rows_few B
  refine norep_of (by simp) (by rw [List.length_cons, List.length_append, List.length_set]; show _ + 1 + 1 ≤ 20; omega) (fun l h => ?_) fun r' h' e' => ?_
  · rcases List.mem_cons.mp h with z | z
    · exact line_ok B l (.inl z)
    · rcases List.mem_append.mp z with z | z
      · rcases List.mem_or_eq_of_mem_set z with z | z
        · exact line_ok B l (.inr (.inl z))
        · rw [z]; exact ok
      · exact line_ok B l (.inr (.inr (List.mem_singleton.mp z)))
  · unfold RepR.lines at e'
    injection e' with _ e2
    obtain ⟨e3, _⟩ := List.append_inj' e2 rfl
    have hm : L ∈ r'.rows.map rowLR := by
      rw [← e3]
      exact List.mem_of_getElem? (by rw [List.getElem?_set_self hk])
    obtain ⟨x, hx, e⟩ := List.mem_map.mp hm
    exact no x ⟨h'.2.2.2.1 x hx, e.symm⟩
end
/-- texts that are no whole numbers' -/
theorem badN_no {o : List Nat} (ho : o ∈ badN) : ∀ i, ¬ IsInt o i := fun i h => by
  have hb := int_back h.1
  rw [← h.2] at hb
  have hd := h.2
  have one : ∀ j, PySem.intText? (mk o) = some j → o ≠ intL j → False := fun j hj hne => by
    rw [hb] at hj
    injection hj with hj
    exact hne (by rw [← hj]; exact hd)
  have nope : PySem.intText? (mk o) = none → False := fun hj => by rw [hb] at hj; cases hj
  simp only [badN, List.mem_cons, List.not_mem_nil, or_false] at ho
  rcases ho with z | z | z | z | z | z | z | z | z
  · exact one 7 (by rw [z]; decide +kernel) (by rw [z]; decide +kernel)
  · exact one 7 (by rw [z]; decide +kernel) (by rw [z]; decide +kernel)
  · exact nope (by rw [z]; decide +kernel)
  · exact one 0 (by rw [z]; decide +kernel) (by rw [z]; decide +kernel)
  · exact nope (by rw [z]; decide +kernel)
  · have hl := few_digits h.1
    have hu := undash_int i
    rw [← hd, z] at hu
    have := congrArg List.length hu
    have e : (undash (List.replicate 61 49)).length = 61 := by decide +kernel
    omega
  · exact nope (by rw [z]; decide +kernel)
  · exact nope (by rw [z]; decide +kernel)
  · exact one 7 (by rw [z]; decide +kernel) (by rw [z]; decide +kernel)
theorem badN_ok : ∀ o ∈ badN, 10 ∉ o ∧ o.length ≤ 61 ∧ ∀ c ∈ o, c < 200 := by decide +kernel
end G
namespace G
open PySem PySem.Spec PyProof.Rows L2 Evl TL
/-! ## the first line with a word replaced -/
def headW (r : RepR) : List (List Nat) := [tl ("module" : Str), r.modu, tl ("period" : Str), intL r.per]
def badM : List (List Nat) := [tl ("reg" : Str), tl ("7a" : Str), tl ("A" : Str), [], tl ("a/b" : Str), tl ("_a" : Str)]
theorem badM_no : ∀ o ∈ badM, isName o = false ∧ 32 ∉ o ∧ 10 ∉ o ∧ o.length ≤ 61 ∧ ∀ c ∈ o, c < 200 := by decide +kernel
theorem headW_ok {r : RepR} (B : BaseR r) : ∀ p ∈ headW r, 32 ∉ p ∧ 10 ∉ p ∧ p.length ≤ 61 ∧ ∀ c ∈ p, c < 200 := fun p hp => by
  obtain ⟨h1, h2⟩ := B.per
  have p60 : 1000 < (10 : Nat) ^ 60 := by decide +kernel
  have lp := few_len (i := r.per) (Nat.lt_trans (by omega) p60)
  have lm := B.modl
  refine ⟨head_freeG B.modn (.inl rfl) p hp, head_freeG B.modn (.inr rfl) p hp, ?_⟩
  unfold headW at hp
  simp only [List.mem_cons, List.not_mem_nil, or_false] at hp
  rcases hp with z | z | z | z <;> rw [z]
  · exact ⟨(by decide +kernel), (by decide +kernel)⟩
  · exact ⟨by omega, nameG_small ⟨r.modu, [], rfl, fun p hp => by rw [List.mem_singleton.mp hp]; exact B.modn⟩⟩
  · exact ⟨(by decide +kernel), (by decide +kernel)⟩
  · exact ⟨lp, intL_small⟩
/-- a line of words -/
theorem wordsLine {x : List Nat} {xs : List (List Nat)} (hl : (x :: xs).length ≤ 20) (h : ∀ p ∈ x :: xs, 10 ∉ p ∧ p.length ≤ 61 ∧ ∀ c ∈ p, c < 200) : LineOk (joinL [32] (x :: xs)) := by
  refine ⟨free_join (fun p hp => (h p hp).1) (by decide), ?_, join_small fun p hp => (h p hp).2.2⟩
  have := joinL_len [32] 61 x xs fun p hp => (h p hp).2.1
  have e : ([32] : List Nat).length = 1 := rfl
  rw [List.length_cons] at hl
  rw [e] at this
  have : xs.length * (61 + 1) ≤ 19 * 62 := Nat.mul_le_mul_right _ (by omega)
  omega
/-- a word of two words is two words -/
theorem join_two (s : List Nat) (u v : List Nat) (B : List (List Nat)) : ∀ A : List (List Nat), joinL s (A ++ (u ++ s ++ v) :: B) = joinL s (A ++ u :: v :: B)
  | [] => by
    cases B with
    | nil => show u ++ s ++ v = u ++ (s ++ v); rw [List.append_assoc]
    | cons b bs => show u ++ s ++ v ++ (s ++ joinL s (b :: bs)) = u ++ (s ++ (v ++ (s ++ joinL s (b :: bs)))); simp
  | [a] => by
    show a ++ (s ++ joinL s ([] ++ (u ++ s ++ v) :: B)) = a ++ (s ++ joinL s ([] ++ u :: v :: B))
    rw [join_two s u v B []]
  | a :: b :: A => by
    show a ++ (s ++ joinL s ((b :: A) ++ (u ++ s ++ v) :: B)) = a ++ (s ++ joinL s ((b :: A) ++ u :: v :: B))
    rw [join_two s u v B (b :: A)]
section
variable {r : RepR}
theorem form5 (B : BaseR r) {o : List Nat} (ho : o ∈ badM) : NoRep (textOf (joinL [32] ((headW r).set 1 o) :: (rowsL r ++ [verdL false]))) := by
  obtain ⟨h1, h2, h3, h4, h5⟩ := badM_no o ho
  have hw := headW_ok B
  have all : ∀ p ∈ (headW r).set 1 o, 32 ∉ p ∧ 10 ∉ p ∧ p.length ≤ 61 ∧ ∀ c ∈ p, c < 200 := fun p hp => by
    rcases List.mem_or_eq_of_mem_set hp with z | z
    · exact hw p z
    · rw [z]; exact ⟨h2, h3, h4, h5⟩
  refine formH B (wordsLine (by show 4 ≤ 20; decide) fun p hp => (all p hp).2) fun m i h => ?_
  have e := head_words (fun p hp => (all p hp).1) h
  injection e with _ e
  injection e with e _
  rw [e, h.1] at h1
  cases h1
theorem form6 (B : BaseR r) {o : List Nat} (ho : o ∈ badN ∨ o = tl ("0" : Str) ∨ o = tl ("-3" : Str)) : NoRep (textOf (joinL [32] ((headW r).set 3 o) :: (rowsL r ++ [verdL false]))) := by
  have hw := headW_ok B
  by_cases h7 : o = tl ("7 " : Str)
  · have e : joinL [32] ((headW r).set 3 o) = joinL [32] [tl ("module" : Str), r.modu, tl ("period" : Str), tl ("7" : Str), []] := by
      rw [h7]
      exact join_two [32] (tl ("7" : Str)) [] [] [tl ("module" : Str), r.modu, tl ("period" : Str)]
    have all : ∀ p ∈ [tl ("module" : Str), r.modu, tl ("period" : Str), tl ("7" : Str), []], 32 ∉ p ∧ 10 ∉ p ∧ p.length ≤ 61 ∧ ∀ c ∈ p, c < 200 := fun p hp => by
      simp only [List.mem_cons, List.not_mem_nil, or_false] at hp
      rcases hp with z | z | z | z | z
      · exact hw p (by rw [z]; simp [headW])
      · exact hw p (by rw [z]; simp [headW])
      · exact hw p (by rw [z]; simp [headW])
      · rw [z]; exact ⟨(by decide +kernel), (by decide +kernel), (by decide +kernel), (by decide +kernel)⟩
      · rw [z]; exact ⟨(by decide +kernel), (by decide +kernel), (by decide +kernel), (by decide +kernel)⟩
    rw [e]
    refine formH B (wordsLine (by show 5 ≤ 20; decide) fun p hp => (all p hp).2) fun m i h => ?_
    have e := head_words (fun p hp => (all p hp).1) h
    exact absurd (congrArg List.length e) (by show ¬ (5 = 4); decide)
  · have ok : 32 ∉ o ∧ 10 ∉ o ∧ o.length ≤ 61 ∧ ∀ c ∈ o, c < 200 := by
      rcases ho with z | z | z
      · have := badN_ok o z
        exact ⟨(by decide +kernel : ∀ o ∈ badN, o ≠ tl ("7 " : Str) → 32 ∉ o) o z h7, this⟩
      · rw [z]; exact ⟨(by decide +kernel), (by decide +kernel), (by decide +kernel), (by decide +kernel)⟩
      · rw [z]; exact ⟨(by decide +kernel), (by decide +kernel), (by decide +kernel), (by decide +kernel)⟩
    have all : ∀ p ∈ (headW r).set 3 o, 32 ∉ p ∧ 10 ∉ p ∧ p.length ≤ 61 ∧ ∀ c ∈ p, c < 200 := fun p hp => by
      rcases List.mem_or_eq_of_mem_set hp with z | z
      · exact hw p z
      · rw [z]; exact ok
    refine formH B (wordsLine (by show 4 ≤ 20; decide) fun p hp => (all p hp).2) fun m i h => ?_
    have e := head_words (fun p hp => (all p hp).1) h
    injection e with _ e
    injection e with _ e
    injection e with _ e
    injection e with e _
    have hb := int_back h.2.2.1
    rw [← e] at hb
    have h1 := h.2.1
    rcases ho with z | z | z
    · exact badN_no z i ⟨h.2.2.1, e⟩
    · rw [z, (by decide +kernel : PySem.intText? (mk (tl ("0" : Str))) = some 0)] at hb
      injection hb with hb
      omega
    · rw [z, (by decide +kernel : PySem.intText? (mk (tl ("-3" : Str))) = some (-3))] at hb
      injection hb with hb
      omega
end
end G
namespace G
open PySem PySem.Spec PyProof.Rows L2 Evl TL
/-! ## a row with a word replaced -/
def badRow : List (List Nat) := [tl ("reg" : Str), tl ("cell" : Str), tl ("7a" : Str), tl ("A" : Str), [], tl ("a/" : Str), tl ("/a" : Str), tl ("a//b" : Str), tl ("_a" : Str)]
theorem badRow_ok : ∀ o ∈ badRow, 32 ∉ o ∧ 10 ∉ o ∧ o.length ≤ 61 ∧ ∀ c ∈ o, c < 200 := by decide +kernel
theorem badRow_no {o : List Nat} (ho : o ∈ badRow) : ¬ NameG o := fun h => by
  have key : ∀ (y : List Nat) (ys : List (List Nat)), o = joinL [47] (y :: ys) → (∀ p ∈ y :: ys, 47 ∉ p) → (∃ p ∈ y :: ys, isName p = false) → False := fun y ys e hf ⟨p, hp, hn⟩ => by
    rw [e] at h
    have := name_words hf h p hp
    rw [hn] at this; cases this
  simp only [badRow, List.mem_cons, List.not_mem_nil, or_false] at ho
  rcases ho with z | z | z | z | z | z | z | z | z
  · exact key (tl ("reg" : Str)) [] (by rw [z]; rfl) (by decide +kernel) ⟨_, List.mem_cons_self, by decide +kernel⟩
  · exact key (tl ("cell" : Str)) [] (by rw [z]; rfl) (by decide +kernel) ⟨_, List.mem_cons_self, by decide +kernel⟩
  · exact key (tl ("7a" : Str)) [] (by rw [z]; rfl) (by decide +kernel) ⟨_, List.mem_cons_self, by decide +kernel⟩
  · exact key (tl ("A" : Str)) [] (by rw [z]; rfl) (by decide +kernel) ⟨_, List.mem_cons_self, by decide +kernel⟩
  · exact key [] [] (by rw [z]; rfl) (by decide +kernel) ⟨_, List.mem_cons_self, by decide +kernel⟩
  · exact key (tl ("a" : Str)) [[]] (by rw [z]; decide +kernel) (by decide +kernel) ⟨[], by simp, by decide +kernel⟩
  · exact key [] [tl ("a" : Str)] (by rw [z]; decide +kernel) (by decide +kernel) ⟨[], by simp, by decide +kernel⟩
  · exact key (tl ("a" : Str)) [[], tl ("b" : Str)] (by rw [z]; decide +kernel) (by decide +kernel) ⟨[], by simp, by decide +kernel⟩
  · exact key (tl ("_a" : Str)) [] (by rw [z]; rfl) (by decide +kernel) ⟨_, List.mem_cons_self, by decide +kernel⟩
section
variable {r : RepR}
theorem rowW_ok (B : BaseR r) {x : RowR} (hx : x ∈ r.rows) : (rowW x).length ≤ 11 ∧ ∀ p ∈ rowW x, 32 ∉ p ∧ 10 ∉ p ∧ p.length ≤ 61 ∧ ∀ c ∈ p, c < 200 := by
  obtain ⟨_, ok, _⟩ := base_row B x hx
  obtain ⟨w1, w2, w3, w4⟩ := B.row x hx
  obtain ⟨x0, xs, e, _, ⟨bs, hv, hb⟩, hn⟩ := B.rows
  have hvx : x.vio = none ∨ ∃ bs, x.vio = some (12, bs) ∧ (bs = [] ∨ ∃ b, bs = [b, false]) := by
    rw [e] at hx
    rcases List.mem_cons.mp hx with z | z
    · rw [z]; exact .inr ⟨bs, hv, hb⟩
    · exact .inl (hn x z)
  have hlv : (vioW x.vio).length ≤ 5 := by
    rcases hvx with z | ⟨bs, z, _⟩ <;> rw [z]
    · show 1 ≤ 5; decide
    · exact Nat.le_refl _
  refine ⟨by unfold rowW; rw [List.length_append]; show 6 + _ ≤ 11; omega, fun p hp => ⟨rowW_freeG ok.1 (.inl rfl) p hp, rowW_freeG ok.1 (.inr rfl) p hp, ?_, rowW_small ok.1 p hp⟩⟩
  unfold rowW at hp
  rcases List.mem_append.mp hp with y | y
  · simp only [List.mem_cons, List.not_mem_nil, or_false] at y
    rcases y with z | z | z | z | z | z <;> rw [z]
    · decide +kernel
    · omega
    · decide +kernel
    · exact mL_len ok.2.1
    · decide +kernel
    · exact mL_len ok.2.2.1
  · rcases hvx with q | ⟨bs, q, hbs⟩
    · rw [q] at y; rw [List.mem_singleton.mp y]; decide +kernel
    · rw [q] at y
      simp only [vioW, List.mem_cons, List.not_mem_nil, or_false] at y
      rcases y with z | z | z | z | z <;> rw [z]
      · decide +kernel
      · decide +kernel
      · decide +kernel
      · decide +kernel
      · rcases hbs with w | ⟨b, w⟩ <;> rw [w] <;> show _ ≤ 61 <;> first | decide | (show 2 ≤ 61; decide)
/-- 7: another name -/
theorem form7 (B : BaseR r) {k : Nat} {x : RowR} (hk : r.rows[k]? = some x) {o : List Nat} (ho : o ∈ badRow) : NoRep (textOf (headR r :: ((rowsL r).set k (joinL [32] ((rowW x).set 1 o)) ++ [verdL false]))) := by
  obtain ⟨h2, h3, h4, h5⟩ := badRow_ok o ho
  obtain ⟨hl, hw⟩ := rowW_ok B (List.mem_of_getElem? hk)
  have hkl : k < (rowsL r).length := by unfold rowsL; rw [List.length_map]; exact (List.getElem?_eq_some_iff.mp hk).1
  have all : ∀ p ∈ (rowW x).set 1 o, 32 ∉ p ∧ 10 ∉ p ∧ p.length ≤ 61 ∧ ∀ c ∈ p, c < 200 := fun p hp => by
    rcases List.mem_or_eq_of_mem_set hp with z | z
    · exact hw p z
    · rw [z]; exact ⟨h2, h3, h4, h5⟩
  have hl2 : ((rowW x).set 1 o).length ≤ 20 := by rw [List.length_set]; omega
  refine formR B hkl (wordsLine hl2 fun p hp => (all p hp).2) fun y h => ?_
  have e : _ = rowW y := row_words (fun p hp => (all p hp).1) h
  unfold rowW at e
  injection e with _ e
  injection e with e _
  exact badRow_no ho (by rw [e]; exact h.1.1)
end
end G
namespace G
open PySem PySem.Spec PyProof.Rows L2 Evl TL
theorem badN_mar {o : List Nat} (ho : o ∈ badN) (m : Option Int) (hm : FewO m) : o ≠ mL m := fun e => by
  cases m with
  | none => exact (by decide +kernel : ∀ o ∈ badN, o ≠ mL none) o ho e
  | some i => exact badN_no ho i ⟨hm, e⟩
theorem vio_head {w : List Nat} {ws : List (List Nat)} {o : Option (Int × List Bool)} (e : w :: ws = vioW o) : w = tl ("ok" : Str) ∨ w = tl ("loose" : Str) := by
  cases o with
  | none => injection e with e _; exact .inl e
  | some ib => injection e with e _; exact .inr e
section
variable {r : RepR}
/-- the row's words, one of them replaced -/
theorem formW (B : BaseR r) {k : Nat} {x : RowR} (hk : r.rows[k]? = some x) {L : List Nat} {y : List Nat} {ys : List (List Nat)} (eL : L = joinL [32] (y :: ys)) (hl : (y :: ys).length ≤ 20)
    (hw : ∀ p ∈ y :: ys, p ∈ rowW x ∨ (32 ∉ p ∧ 10 ∉ p ∧ p.length ≤ 61 ∧ ∀ c ∈ p, c < 200)) (no : ∀ z, RowOkG z → y :: ys ≠ rowW z) : NoRep (textOf (headR r :: ((rowsL r).set k L ++ [verdL false]))) := by
  obtain ⟨_, hr⟩ := rowW_ok B (List.mem_of_getElem? hk)
  have hkl : k < (rowsL r).length := by unfold rowsL; rw [List.length_map]; exact (List.getElem?_eq_some_iff.mp hk).1
  have all : ∀ p ∈ y :: ys, 32 ∉ p ∧ 10 ∉ p ∧ p.length ≤ 61 ∧ ∀ c ∈ p, c < 200 := fun p hp => (hw p hp).elim (hr p) id
  subst eL
  refine formR B hkl (wordsLine hl fun p hp => (all p hp).2) fun z h => ?_
  exact no z h.1 (row_words (fun p hp => (all p hp).1) h)
theorem okW : ∀ o ∈ [tl ("7" : Str), [], tl ("setup" : Str), tl ("Reg" : Str), tl ("okay" : Str)], 32 ∉ o ∧ 10 ∉ o ∧ o.length ≤ 61 ∧ ∀ c ∈ o, c < 200 := by decide +kernel
theorem form8 (B : BaseR r) {k : Nat} {x : RowR} (hk : r.rows[k]? = some x) {o : List Nat} (ho : o ∈ badN) {wd : Nat} (hwd : wd = 3 ∨ wd = 5) : NoRep (textOf (headR r :: ((rowsL r).set k (joinL [32] ((rowW x).set wd o)) ++ [verdL false]))) := by
  obtain ⟨hl, _⟩ := rowW_ok B (List.mem_of_getElem? hk)
  have hvl : (vioW x.vio).length ≤ 5 := by
    unfold rowW at hl
    rw [List.length_append] at hl
    have e6 : ([tl ("reg" : Str), x.name, tl ("setup" : Str), mL x.setup, tl ("hold" : Str), mL x.hold]).length = 6 := rfl
    omega
  have m1 : ∀ p, p ∈ rowW x → p ∈ rowW x ∨ (32 ∉ p ∧ 10 ∉ p ∧ p.length ≤ 61 ∧ ∀ c ∈ p, c < 200) := fun p h => .inl h
  by_cases h7 : o = tl ("7 " : Str)
  · rcases hwd with rfl | rfl
    · refine formW B hk (y := tl ("reg" : Str)) (ys := [x.name, tl ("setup" : Str), tl ("7" : Str), [], tl ("hold" : Str), mL x.hold] ++ vioW x.vio) ?_ ?_ (fun p hp => ?_) fun z hz e => ?_
      · rw [h7]
        exact join_two [32] (tl ("7" : Str)) [] ([tl ("hold" : Str), mL x.hold] ++ vioW x.vio) [tl ("reg" : Str), x.name, tl ("setup" : Str)]
      · rw [List.length_cons, List.length_append]; show 6 + _ + 1 ≤ 20; omega
      · simp only [List.mem_cons, List.mem_append, List.not_mem_nil, or_false] at hp
        rcases hp with z | (z | z | z | z | z | z) | z
        · exact .inl (by rw [z]; simp [rowW])
        · exact .inl (by rw [z]; simp [rowW])
        · exact .inl (by rw [z]; simp [rowW])
        · exact .inr (okW p (by rw [z]; simp))
        · exact .inr (okW p (by rw [z]; simp))
        · exact .inl (by rw [z]; simp [rowW])
        · exact .inl (by rw [z]; simp [rowW])
        · exact .inl (by unfold rowW; exact List.mem_append_right _ z)
      · unfold rowW at e
        injection e with _ e
        injection e with _ e
        injection e with _ e
        injection e with _ e
        injection e with e _
        exact absurd e (by decide +kernel)
    · refine formW B hk (y := tl ("reg" : Str)) (ys := [x.name, tl ("setup" : Str), mL x.setup, tl ("hold" : Str), tl ("7" : Str), []] ++ vioW x.vio) ?_ ?_ (fun p hp => ?_) fun z hz e => ?_
      · rw [h7]
        exact join_two [32] (tl ("7" : Str)) [] (vioW x.vio) [tl ("reg" : Str), x.name, tl ("setup" : Str), mL x.setup, tl ("hold" : Str)]
      · rw [List.length_cons, List.length_append]; show 6 + _ + 1 ≤ 20; omega
      · simp only [List.mem_cons, List.mem_append, List.not_mem_nil, or_false] at hp
        rcases hp with z | (z | z | z | z | z | z) | z
        · exact .inl (by rw [z]; simp [rowW])
        · exact .inl (by rw [z]; simp [rowW])
        · exact .inl (by rw [z]; simp [rowW])
        · exact .inl (by rw [z]; simp [rowW])
        · exact .inl (by rw [z]; simp [rowW])
        · exact .inr (okW p (by rw [z]; simp))
        · exact .inr (okW p (by rw [z]; simp))
        · exact .inl (by unfold rowW; exact List.mem_append_right _ z)
      · unfold rowW at e
        injection e with _ e
        injection e with _ e
        injection e with _ e
        injection e with _ e
        injection e with _ e
        injection e with _ e
        rcases vio_head e with q | q
        · exact absurd q (by decide +kernel)
        · exact absurd q (by decide +kernel)
  · have ok : 32 ∉ o ∧ 10 ∉ o ∧ o.length ≤ 61 ∧ ∀ c ∈ o, c < 200 := ⟨(by decide +kernel : ∀ o ∈ badN, o ≠ tl ("7 " : Str) → 32 ∉ o) o ho h7, badN_ok o ho⟩
    rcases hwd with rfl | rfl
    · refine formW B hk (y := tl ("reg" : Str)) (ys := [x.name, tl ("setup" : Str), o, tl ("hold" : Str), mL x.hold] ++ vioW x.vio) rfl ?_ (fun p hp => ?_) fun z hz e => ?_
      · rw [List.length_cons, List.length_append]; show 5 + _ + 1 ≤ 20; omega
      · rcases List.mem_or_eq_of_mem_set (l := rowW x) (i := 3) (a := p) (b := o) hp with z | z
        · exact .inl z
        · rw [z]; exact .inr ok
      · unfold rowW at e
        injection e with _ e
        injection e with _ e
        injection e with _ e
        injection e with e _
        exact badN_mar ho _ hz.2.1 e
    · refine formW B hk (y := tl ("reg" : Str)) (ys := [x.name, tl ("setup" : Str), mL x.setup, tl ("hold" : Str), o] ++ vioW x.vio) rfl ?_ (fun p hp => ?_) fun z hz e => ?_
      · rw [List.length_cons, List.length_append]; show 5 + _ + 1 ≤ 20; omega
      · rcases List.mem_or_eq_of_mem_set (l := rowW x) (i := 5) (a := p) (b := o) hp with z | z
        · exact .inl z
        · rw [z]; exact .inr ok
      · unfold rowW at e
        injection e with _ e
        injection e with _ e
        injection e with _ e
        injection e with _ e
        injection e with _ e
        injection e with e _
        exact badN_mar ho _ hz.2.2.1 e
end
end G
namespace G
open PySem PySem.Spec PyProof.Rows L2 Evl TL
section
variable {r : RepR}
def badW : List (List Nat) := [tl ("Reg" : Str), [], tl ("setup " : Str), tl ("okay" : Str)]
theorem form13 (B : BaseR r) {k : Nat} {x : RowR} (hk : r.rows[k]? = some x) {o : List Nat} (ho : o ∈ badW) {wd : Nat} (hwd : wd = 0 ∨ wd = 2 ∨ wd = 4 ∨ wd = 6) : NoRep (textOf (headR r :: ((rowsL r).set k (joinL [32] ((rowW x).set wd o)) ++ [verdL false]))) := by
  obtain ⟨hl, _⟩ := rowW_ok B (List.mem_of_getElem? hk)
  have hvl : (vioW x.vio).length ≤ 5 := by
    unfold rowW at hl
    rw [List.length_append] at hl
    have e6 : ([tl ("reg" : Str), x.name, tl ("setup" : Str), mL x.setup, tl ("hold" : Str), mL x.hold]).length = 6 := rfl
    omega
  obtain ⟨v0, vs, hv⟩ := vioW_cons x.vio
  by_cases hs : o = tl ("setup " : Str)
  · rcases hwd with rfl | rfl | rfl | rfl
    · refine formW B hk (y := tl ("setup" : Str)) (ys := [[], x.name, tl ("setup" : Str), mL x.setup, tl ("hold" : Str), mL x.hold] ++ vioW x.vio) ?_ ?_ (fun p hp => ?_) fun z hz e => ?_
      · rw [hs]
        exact join_two [32] (tl ("setup" : Str)) [] ([x.name, tl ("setup" : Str), mL x.setup, tl ("hold" : Str), mL x.hold] ++ vioW x.vio) []
      · rw [List.length_cons, List.length_append]; show 6 + _ + 1 ≤ 20; omega
      · simp only [List.mem_cons, List.mem_append, List.not_mem_nil, or_false] at hp
        rcases hp with z | (z | z | z | z | z | z) | z
        · exact .inr (okW p (by rw [z]; simp))
        · exact .inr (okW p (by rw [z]; simp))
        · exact .inl (by rw [z]; simp [rowW])
        · exact .inr (okW p (by rw [z]; simp))
        · exact .inl (by rw [z]; simp [rowW])
        · exact .inl (by rw [z]; simp [rowW])
        · exact .inl (by rw [z]; simp [rowW])
        · exact .inl (by unfold rowW; exact List.mem_append_right _ z)
      · unfold rowW at e
        injection e with e _
        exact absurd e (by decide +kernel)
    · refine formW B hk (y := tl ("reg" : Str)) (ys := [x.name, tl ("setup" : Str), [], mL x.setup, tl ("hold" : Str), mL x.hold] ++ vioW x.vio) ?_ ?_ (fun p hp => ?_) fun z hz e => ?_
      · rw [hs]
        exact join_two [32] (tl ("setup" : Str)) [] ([mL x.setup, tl ("hold" : Str), mL x.hold] ++ vioW x.vio) [tl ("reg" : Str), x.name]
      · rw [List.length_cons, List.length_append]; show 6 + _ + 1 ≤ 20; omega
      · simp only [List.mem_cons, List.mem_append, List.not_mem_nil, or_false] at hp
        rcases hp with z | (z | z | z | z | z | z) | z
        · exact .inl (by rw [z]; simp [rowW])
        · exact .inl (by rw [z]; simp [rowW])
        · exact .inr (okW p (by rw [z]; simp))
        · exact .inr (okW p (by rw [z]; simp))
        · exact .inl (by rw [z]; simp [rowW])
        · exact .inl (by rw [z]; simp [rowW])
        · exact .inl (by rw [z]; simp [rowW])
        · exact .inl (by unfold rowW; exact List.mem_append_right _ z)
      · unfold rowW at e
        injection e with _ e
        injection e with _ e
        injection e with _ e
        injection e with e _
        exact badN_mar (o := []) (by decide +kernel) _ hz.2.1 e
    · refine formW B hk (y := tl ("reg" : Str)) (ys := [x.name, tl ("setup" : Str), mL x.setup, tl ("setup" : Str), [], mL x.hold] ++ vioW x.vio) ?_ ?_ (fun p hp => ?_) fun z hz e => ?_
      · rw [hs]
        exact join_two [32] (tl ("setup" : Str)) [] ([mL x.hold] ++ vioW x.vio) [tl ("reg" : Str), x.name, tl ("setup" : Str), mL x.setup]
      · rw [List.length_cons, List.length_append]; show 6 + _ + 1 ≤ 20; omega
      · simp only [List.mem_cons, List.mem_append, List.not_mem_nil, or_false] at hp
        rcases hp with z | (z | z | z | z | z | z) | z
        · exact .inl (by rw [z]; simp [rowW])
        · exact .inl (by rw [z]; simp [rowW])
        · exact .inr (okW p (by rw [z]; simp))
        · exact .inl (by rw [z]; simp [rowW])
        · exact .inr (okW p (by rw [z]; simp))
        · exact .inr (okW p (by rw [z]; simp))
        · exact .inl (by rw [z]; simp [rowW])
        · exact .inl (by unfold rowW; exact List.mem_append_right _ z)
      · unfold rowW at e
        injection e with _ e
        injection e with _ e
        injection e with _ e
        injection e with _ e
        injection e with e _
        exact absurd e (by decide +kernel)
    · refine formW B hk (y := tl ("reg" : Str)) (ys := [x.name, tl ("setup" : Str), mL x.setup, tl ("hold" : Str), mL x.hold, tl ("setup" : Str), []] ++ vs) ?_ ?_ (fun p hp => ?_) fun z hz e => ?_
      · rw [hs]
        unfold rowW
        rw [hv]
        exact join_two [32] (tl ("setup" : Str)) [] vs [tl ("reg" : Str), x.name, tl ("setup" : Str), mL x.setup, tl ("hold" : Str), mL x.hold]
      · rw [hv, List.length_cons] at hvl
        rw [List.length_cons, List.length_append]; show 7 + _ + 1 ≤ 20; omega
      · simp only [List.mem_cons, List.mem_append, List.not_mem_nil, or_false] at hp
        rcases hp with z | (z | z | z | z | z | z | z) | z
        · exact .inl (by rw [z]; simp [rowW])
        · exact .inl (by rw [z]; simp [rowW])
        · exact .inl (by rw [z]; simp [rowW])
        · exact .inl (by rw [z]; simp [rowW])
        · exact .inl (by rw [z]; simp [rowW])
        · exact .inl (by rw [z]; simp [rowW])
        · exact .inr (okW p (by rw [z]; simp))
        · exact .inr (okW p (by rw [z]; simp))
        · exact .inl (by unfold rowW; rw [hv]; exact List.mem_append_right _ (List.mem_cons_of_mem _ z))
      · unfold rowW at e
        injection e with _ e
        injection e with _ e
        injection e with _ e
        injection e with _ e
        injection e with _ e
        injection e with _ e
        rcases vio_head e with q | q
        · exact absurd q (by decide +kernel)
        · exact absurd q (by decide +kernel)
  · have ok : 32 ∉ o ∧ 10 ∉ o ∧ o.length ≤ 61 ∧ ∀ c ∈ o, c < 200 := (by decide +kernel : ∀ o ∈ badW, o ≠ tl ("setup " : Str) → 32 ∉ o ∧ 10 ∉ o ∧ o.length ≤ 61 ∧ ∀ c ∈ o, c < 200) o ho hs
    have no1 : ∀ w ∈ [tl ("reg" : Str), tl ("setup" : Str), tl ("hold" : Str), tl ("ok" : Str), tl ("loose" : Str)], o = w → False := fun w hw e => (by decide +kernel : ∀ o ∈ badW, ∀ w ∈ [tl ("reg" : Str), tl ("setup" : Str), tl ("hold" : Str), tl ("ok" : Str), tl ("loose" : Str)], o ≠ w) o ho w hw e
    rcases hwd with rfl | rfl | rfl | rfl
    · refine formW B hk (y := o) (ys := [x.name, tl ("setup" : Str), mL x.setup, tl ("hold" : Str), mL x.hold] ++ vioW x.vio) rfl ?_ (fun p hp => ?_) fun z hz e => ?_
      · rw [List.length_cons, List.length_append]; show 5 + _ + 1 ≤ 20; omega
      · rcases List.mem_or_eq_of_mem_set (l := rowW x) (i := 0) (a := p) (b := o) hp with z | z
        · exact .inl z
        · rw [z]; exact .inr ok
      · unfold rowW at e
        injection e with e _
        exact no1 (tl ("reg" : Str)) (by simp) e
    · refine formW B hk (y := tl ("reg" : Str)) (ys := [x.name, o, mL x.setup, tl ("hold" : Str), mL x.hold] ++ vioW x.vio) rfl ?_ (fun p hp => ?_) fun z hz e => ?_
      · rw [List.length_cons, List.length_append]; show 5 + _ + 1 ≤ 20; omega
      · rcases List.mem_or_eq_of_mem_set (l := rowW x) (i := 2) (a := p) (b := o) hp with z | z
        · exact .inl z
        · rw [z]; exact .inr ok
      · unfold rowW at e
        injection e with _ e
        injection e with _ e
        injection e with e _
        exact no1 (tl ("setup" : Str)) (by simp) e
    · refine formW B hk (y := tl ("reg" : Str)) (ys := [x.name, tl ("setup" : Str), mL x.setup, o, mL x.hold] ++ vioW x.vio) rfl ?_ (fun p hp => ?_) fun z hz e => ?_
      · rw [List.length_cons, List.length_append]; show 5 + _ + 1 ≤ 20; omega
      · rcases List.mem_or_eq_of_mem_set (l := rowW x) (i := 4) (a := p) (b := o) hp with z | z
        · exact .inl z
        · rw [z]; exact .inr ok
      · unfold rowW at e
        injection e with _ e
        injection e with _ e
        injection e with _ e
        injection e with _ e
        injection e with e _
        exact no1 (tl ("hold" : Str)) (by simp) e
    · refine formW B hk (y := tl ("reg" : Str)) (ys := [x.name, tl ("setup" : Str), mL x.setup, tl ("hold" : Str), mL x.hold] ++ o :: vs) ?_ ?_ (fun p hp => ?_) fun z hz e => ?_
      · unfold rowW
        rw [hv]; rfl
      · rw [hv, List.length_cons] at hvl
        have e9 : (o :: vs).length = vs.length + 1 := rfl
        rw [List.length_cons, List.length_append]; show 5 + (o :: vs).length + 1 ≤ 20; omega
      · rcases List.mem_or_eq_of_mem_set (l := rowW x) (i := 6) (a := p) (b := o) (by unfold rowW; rw [hv]; exact hp) with z | z
        · exact .inl z
        · rw [z]; exact .inr ok
      · unfold rowW at e
        injection e with _ e
        injection e with _ e
        injection e with _ e
        injection e with _ e
        injection e with _ e
        injection e with _ e
        rcases vio_head e with q | q
        · exact no1 _ (by simp) q
        · exact no1 _ (by simp) q
end
end G
namespace G
open PySem PySem.Spec PyProof.Rows L2 Evl TL
section
variable {r : RepR}
theorem vioW_len (o : Option (Int × List Bool)) : (vioW o).length ≤ 5 := by
  cases o
  · show 1 ≤ 5; decide
  · exact Nat.le_refl _
/-- 9: another time -/
theorem form9 (B : BaseR r) {k : Nat} {x : RowR} (hk : r.rows[k]? = some x) {bs : List Bool} (hv : x.vio = some (12, bs)) {o : List Nat} (ho : o = tl ("none" : Str) ∨ o ∈ badN) : NoRep (textOf (headR r :: ((rowsL r).set k (joinL [32] ((rowW x).set 8 o)) ++ [verdL false]))) := by
  have eW : rowW x = [tl ("reg" : Str), x.name, tl ("setup" : Str), mL x.setup, tl ("hold" : Str), mL x.hold, tl ("loose" : Str), tl ("at" : Str), intL 12, tl ("for" : Str), bitsL bs] := by unfold rowW; rw [hv]; rfl
  by_cases h7 : o = tl ("7 " : Str)
  · refine formW B hk (y := tl ("reg" : Str)) (ys := [x.name, tl ("setup" : Str), mL x.setup, tl ("hold" : Str), mL x.hold, tl ("loose" : Str), tl ("at" : Str), tl ("7" : Str), [], tl ("for" : Str), bitsL bs]) ?_ (by show 12 ≤ 20; decide) (fun p hp => ?_) fun z hz e => ?_
    · rw [h7, eW]
      exact join_two [32] (tl ("7" : Str)) [] [tl ("for" : Str), bitsL bs] [tl ("reg" : Str), x.name, tl ("setup" : Str), mL x.setup, tl ("hold" : Str), mL x.hold, tl ("loose" : Str), tl ("at" : Str)]
    · simp only [List.mem_cons, List.not_mem_nil, or_false] at hp
      rw [eW]
      rcases hp with z | z | z | z | z | z | z | z | z | z | z | z
      · exact .inl (by rw [z]; simp)
      · exact .inl (by rw [z]; simp)
      · exact .inl (by rw [z]; simp)
      · exact .inl (by rw [z]; simp)
      · exact .inl (by rw [z]; simp)
      · exact .inl (by rw [z]; simp)
      · exact .inl (by rw [z]; simp)
      · exact .inl (by rw [z]; simp)
      · exact .inr (okW p (by rw [z]; simp))
      · exact .inr (okW p (by rw [z]; simp))
      · exact .inl (by rw [z]; simp)
      · exact .inl (by rw [z]; simp)
    · have := congrArg List.length e
      unfold rowW at this
      rw [List.length_append] at this
      have h1 := vioW_len z.vio
      have e6 : ([tl ("reg" : Str), z.name, tl ("setup" : Str), mL z.setup, tl ("hold" : Str), mL z.hold]).length = 6 := rfl
      have e12 : ([tl ("reg" : Str), x.name, tl ("setup" : Str), mL x.setup, tl ("hold" : Str), mL x.hold, tl ("loose" : Str), tl ("at" : Str), tl ("7" : Str), [], tl ("for" : Str), bitsL bs]).length = 12 := rfl
      omega
  · have ok : 32 ∉ o ∧ 10 ∉ o ∧ o.length ≤ 61 ∧ ∀ c ∈ o, c < 200 := by
      rcases ho with z | z
      · rw [z]; exact ⟨(by decide +kernel), (by decide +kernel), (by decide +kernel), (by decide +kernel)⟩
      · exact ⟨(by decide +kernel : ∀ o ∈ badN, o ≠ tl ("7 " : Str) → 32 ∉ o) o z h7, badN_ok o z⟩
    refine formW B hk (y := tl ("reg" : Str)) (ys := [x.name, tl ("setup" : Str), mL x.setup, tl ("hold" : Str), mL x.hold, tl ("loose" : Str), tl ("at" : Str), o, tl ("for" : Str), bitsL bs]) (by rw [eW]; rfl) (by show 11 ≤ 20; decide) (fun p hp => ?_) fun z hz e => ?_
    · rcases List.mem_or_eq_of_mem_set (l := rowW x) (i := 8) (a := p) (b := o) (by rw [eW]; exact hp) with z | z
      · exact .inl z
      · rw [z]; exact .inr ok
    · unfold rowW at e
      injection e with _ e
      injection e with _ e
      injection e with _ e
      injection e with _ e
      injection e with _ e
      injection e with _ e
      have hg := hz.2.2.2
      cases hz3 : z.vio with
      | none => rw [hz3] at e; exact absurd (congrArg List.length e) (by show ¬ (5 = 1); decide)
      | some ib =>
        obtain ⟨i, cs⟩ := ib
        rw [hz3] at e hg
        injection e with _ e
        injection e with _ e
        injection e with e _
        rcases ho with z | z
        · have hb := int_back (i := i) hg
          rw [← e, z, (by decide +kernel : PySem.intText? (mk (tl ("none" : Str))) = none)] at hb
          cases hb
        · exact badN_no z i ⟨hg, e⟩
def badV : List (List Nat) := [[], tl ("2" : Str), tl ("01-" : Str), tl ("--" : Str), tl ("1 0" : Str)]
theorem badV_no {o : List Nat} (ho : o ∈ badV) (v : List Bool) : o ≠ bitsL v := fun e => by
  have h45 : o ≠ [45] := (by decide +kernel : ∀ o ∈ badV, o ≠ [45]) o ho
  have hc : o = [] ∨ ∃ c ∈ o, c ≠ 48 ∧ c ≠ 49 := (by decide +kernel : ∀ o ∈ badV, o = [] ∨ ∃ c ∈ o, c ≠ 48 ∧ c ≠ 49) o ho
  unfold bitsL at e
  split at e
  · exact h45 e
  · rename_i hv
    rcases hc with z | ⟨c, hc, h1, h2⟩
    · rw [z] at e
      exact hv (List.map_eq_nil_iff.mp e.symm)
    · rw [e] at hc
      obtain ⟨b, _, q⟩ := List.mem_map.mp hc
      cases b
      · exact h1 q.symm
      · exact h2 q.symm
theorem okV : ∀ o ∈ [tl ("1" : Str), tl ("0" : Str)], 32 ∉ o ∧ 10 ∉ o ∧ o.length ≤ 61 ∧ ∀ c ∈ o, c < 200 := by decide +kernel
/-- 10: another vector -/
theorem form10 (B : BaseR r) {k : Nat} {x : RowR} (hk : r.rows[k]? = some x) {bs : List Bool} (hv : x.vio = some (12, bs)) {o : List Nat} (ho : o ∈ badV) : NoRep (textOf (headR r :: ((rowsL r).set k (joinL [32] ((rowW x).set 10 o)) ++ [verdL false]))) := by
  have eW : rowW x = [tl ("reg" : Str), x.name, tl ("setup" : Str), mL x.setup, tl ("hold" : Str), mL x.hold, tl ("loose" : Str), tl ("at" : Str), intL 12, tl ("for" : Str), bitsL bs] := by unfold rowW; rw [hv]; rfl
  by_cases h7 : o = tl ("1 0" : Str)
  · refine formW B hk (y := tl ("reg" : Str)) (ys := [x.name, tl ("setup" : Str), mL x.setup, tl ("hold" : Str), mL x.hold, tl ("loose" : Str), tl ("at" : Str), intL 12, tl ("for" : Str), tl ("1" : Str), tl ("0" : Str)]) ?_ (by show 12 ≤ 20; decide) (fun p hp => ?_) fun z hz e => ?_
    · rw [h7, eW]
      exact join_two [32] (tl ("1" : Str)) (tl ("0" : Str)) [] [tl ("reg" : Str), x.name, tl ("setup" : Str), mL x.setup, tl ("hold" : Str), mL x.hold, tl ("loose" : Str), tl ("at" : Str), intL 12, tl ("for" : Str)]
    · simp only [List.mem_cons, List.not_mem_nil, or_false] at hp
      rw [eW]
      rcases hp with z | z | z | z | z | z | z | z | z | z | z | z
      · exact .inl (by rw [z]; simp)
      · exact .inl (by rw [z]; simp)
      · exact .inl (by rw [z]; simp)
      · exact .inl (by rw [z]; simp)
      · exact .inl (by rw [z]; simp)
      · exact .inl (by rw [z]; simp)
      · exact .inl (by rw [z]; simp)
      · exact .inl (by rw [z]; simp)
      · exact .inl (by rw [z]; simp)
      · exact .inl (by rw [z]; simp)
      · exact .inr (okV p (by rw [z]; simp))
      · exact .inr (okV p (by rw [z]; simp))
    · have := congrArg List.length e
      unfold rowW at this
      rw [List.length_append] at this
      have h1 := vioW_len z.vio
      have e6 : ([tl ("reg" : Str), z.name, tl ("setup" : Str), mL z.setup, tl ("hold" : Str), mL z.hold]).length = 6 := rfl
      have e12 : ([tl ("reg" : Str), x.name, tl ("setup" : Str), mL x.setup, tl ("hold" : Str), mL x.hold, tl ("loose" : Str), tl ("at" : Str), intL 12, tl ("for" : Str), tl ("1" : Str), tl ("0" : Str)]).length = 12 := rfl
      omega
  · have ok : 32 ∉ o ∧ 10 ∉ o ∧ o.length ≤ 61 ∧ ∀ c ∈ o, c < 200 := (by decide +kernel : ∀ o ∈ badV, o ≠ tl ("1 0" : Str) → 32 ∉ o ∧ 10 ∉ o ∧ o.length ≤ 61 ∧ ∀ c ∈ o, c < 200) o ho h7
    refine formW B hk (y := tl ("reg" : Str)) (ys := [x.name, tl ("setup" : Str), mL x.setup, tl ("hold" : Str), mL x.hold, tl ("loose" : Str), tl ("at" : Str), intL 12, tl ("for" : Str), o]) (by rw [eW]; rfl) (by show 11 ≤ 20; decide) (fun p hp => ?_) fun z hz e => ?_
    · rcases List.mem_or_eq_of_mem_set (l := rowW x) (i := 10) (a := p) (b := o) (by rw [eW]; exact hp) with z | z
      · exact .inl z
      · rw [z]; exact .inr ok
    · unfold rowW at e
      injection e with _ e
      injection e with _ e
      injection e with _ e
      injection e with _ e
      injection e with _ e
      injection e with _ e
      cases hz3 : z.vio with
      | none => rw [hz3] at e; exact absurd (congrArg List.length e) (by show ¬ (5 = 1); decide)
      | some ib =>
        obtain ⟨i, cs⟩ := ib
        rw [hz3] at e
        injection e with _ e
        injection e with _ e
        injection e with _ e
        injection e with _ e
        injection e with e _
        exact badV_no ho cs e
/-- 11, 12: a row more, with a vector of three -/
theorem form1112 (B : BaseR r) {x0 : RowR} {xs : List RowR} (hr : r.rows = x0 :: xs) {n : List Nat} (hn : 32 ∉ n ∧ 10 ∉ n ∧ n.length ≤ 61 ∧ ∀ c ∈ n, c < 200) {L : List Nat}
    (eL : L = joinL [32] [tl ("reg" : Str), n, tl ("setup" : Str), mL x0.setup, tl ("hold" : Str), mL x0.hold, tl ("loose" : Str), tl ("at" : Str), intL 12, tl ("for" : Str), tl ("101" : Str)]) : NoRep (textOf (headR r :: rowLR x0 :: L :: (xs.map rowLR ++ [verdL false]))) := by
  obtain ⟨x0', xs', e0, hxl, ⟨bs, hv, hb⟩, _⟩ := B.rows
  rw [hr] at e0
  injection e0 with e1 e2
  subst e1 e2
  have hx0 : x0 ∈ r.rows := by rw [hr]; exact List.mem_cons_self
  have ok0 := (base_row B x0 hx0).2.1
  have hmr : ∀ x ∈ x0 :: xs, rowLR x ∈ rowsL r := fun x hx => List.mem_map.mpr ⟨x, by rw [hr]; exact hx, rfl⟩
  have f12 : mL (some 12) = intL 12 := rfl
  have all : ∀ p ∈ [tl ("reg" : Str), n, tl ("setup" : Str), mL x0.setup, tl ("hold" : Str), mL x0.hold, tl ("loose" : Str), tl ("at" : Str), intL 12, tl ("for" : Str), tl ("101" : Str)], 32 ∉ p ∧ 10 ∉ p ∧ p.length ≤ 61 ∧ ∀ c ∈ p, c < 200 := fun p hp => by
    simp only [List.mem_cons, List.not_mem_nil, or_false] at hp
    rcases hp with z | z | z | z | z | z | z | z | z | z | z <;> rw [z]
    · exact ⟨(by decide +kernel), (by decide +kernel), (by decide +kernel), (by decide +kernel)⟩
    · exact hn
    · exact ⟨(by decide +kernel), (by decide +kernel), (by decide +kernel), (by decide +kernel)⟩
    · exact ⟨mL_free (.inl rfl), mL_free (.inr rfl), mL_len ok0.2.1, mL_small _⟩
    · exact ⟨(by decide +kernel), (by decide +kernel), (by decide +kernel), (by decide +kernel)⟩
    · exact ⟨mL_free (.inl rfl), mL_free (.inr rfl), mL_len ok0.2.2.1, mL_small _⟩
    · exact ⟨(by decide +kernel), (by decide +kernel), (by decide +kernel), (by decide +kernel)⟩
    · exact ⟨(by decide +kernel), (by decide +kernel), (by decide +kernel), (by decide +kernel)⟩
    · exact ⟨(by decide +kernel), (by decide +kernel), (by decide +kernel), (by decide +kernel)⟩
    · exact ⟨(by decide +kernel), (by decide +kernel), (by decide +kernel), (by decide +kernel)⟩
    · exact ⟨(by decide +kernel), (by decide +kernel), (by decide +kernel), (by decide +kernel)⟩
  refine norep_of (by simp) (by rw [List.length_cons, List.length_cons, List.length_cons, List.length_append, List.length_map]; show _ + 1 + 1 + 1 + 1 ≤ 20; omega) (fun l h => ?_) fun r' h' e' => ?_
  · rcases List.mem_cons.mp h with z | z
    · exact line_ok B l (.inl z)
    · rcases List.mem_cons.mp z with z | z
      · exact line_ok B l (.inr (.inl (by rw [z]; exact hmr x0 List.mem_cons_self)))
      · rcases List.mem_cons.mp z with z | z
        · rw [z, eL]; exact wordsLine (by show 11 ≤ 20; decide) fun p hp => (all p hp).2
        · rcases List.mem_append.mp z with z | z
          · obtain ⟨x, hx, rfl⟩ := List.mem_map.mp z
            exact line_ok B _ (.inr (.inl (hmr x (List.mem_cons_of_mem _ hx))))
          · exact line_ok B l (.inr (.inr (List.mem_singleton.mp z)))
  · unfold RepR.lines at e'
    injection e' with _ e2
    have e2 : (rowLR x0 :: L :: xs.map rowLR) ++ [verdL false] = r'.rows.map rowLR ++ [verdL r'.clean] := e2
    obtain ⟨e3, _⟩ := List.append_inj' e2 rfl
    obtain ⟨_, _, _, hok, ⟨_, sz, hsz⟩, _⟩ := h'
    match hrr : r'.rows with
    | [] => rw [hrr] at e3; cases e3
    | [_] => rw [hrr] at e3; injection e3 with _ e3; cases e3
    | y0 :: y1 :: ys =>
      rw [hrr] at e3 hok hsz
      injection e3 with e4 e5
      injection e5 with e5 _
      have k0 := hok y0 List.mem_cons_self
      have k1 := hok y1 (List.mem_cons_of_mem _ List.mem_cons_self)
      have ey : x0 = y0 := row_inj ok0 k0 e4
      have s0 := hsz y0 List.mem_cons_self 12 bs (by rw [← ey]; exact hv)
      rw [eL] at e5
      have e : _ = rowW y1 := join_inj k32 (fun p hp => (all p hp).1) (rowW_freeG k1.1 (.inl rfl)) e5
      unfold rowW at e
      injection e with _ e
      injection e with _ e
      injection e with _ e
      injection e with _ e
      injection e with _ e
      injection e with _ e
      cases hz3 : y1.vio with
      | none => rw [hz3] at e; exact absurd (congrArg List.length e) (by show ¬ (5 = 1); decide)
      | some ib =>
        obtain ⟨j, cs⟩ := ib
        rw [hz3] at e
        injection e with _ e
        injection e with _ e
        injection e with _ e
        injection e with _ e
        injection e with e _
        have e101 : tl ("101" : Str) = bitsL [true, false, true] := by decide +kernel
        rw [e101] at e
        have ec := bitsL_inj e
        have s1 := hsz y1 (List.mem_cons_of_mem _ List.mem_cons_self) j cs hz3
        rw [← ec] at s1
        have s1 : 3 = sz := s1
        rcases hb with q | ⟨b, q⟩ <;> rw [q] at s0
        · have s0 : 0 = sz := s0
          omega
        · have s0 : 2 = sz := s0
          omega
end
end G
namespace G
open PySem PySem.Spec PyProof.Rows L2 Evl TL
theorem cutV_init (m : List V) (z : V) : cutV (m ++ [z]) none (some (-1)) = m := by
  have e2 : HT.sIx (m ++ [z]).length (m ++ [z]).length (some (-1)) = m.length := by
    show (if (-1 : Int) < 0 then ((-1 : Int) + ((m ++ [z]).length : Int)).toNat else min (-1 : Int).toNat (m ++ [z]).length) = m.length
    rw [if_pos (by decide), List.length_append]
    show ((-1 : Int) + ((m.length + 1 : Nat) : Int)).toNat = _
    omega
  unfold cutV
  rw [HT.sIx_none, e2, List.drop_zero, Nat.sub_zero, List.take_left]
theorem strV_app (a b : List (List Nat)) : strV (a ++ b) = strV a ++ strV b := by unfold strV; rw [List.map_append]
theorem strV_len (a : List (List Nat)) : (strV a).length = a.length := by unfold strV; rw [List.length_map]
theorem strV_get {a : List (List Nat)} {k : Nat} {l : List Nat} (h : a[k]? = some l) : (strV a)[k]? = some (.str (mk l)) := by unfold strV; rw [List.getElem?_map, h]; rfl
theorem set_cut {α : Type} {l : List α} {k : Nat} (L : α) (h : k < l.length) : l.take k ++ [L] ++ l.drop (k + 1) = l.set k L := by
  rw [List.set_eq_take_append_cons_drop, if_pos h, List.append_assoc]; rfl
theorem cut_row {h v L : List Nat} {R : List (List Nat)} {k : Nat} (hk : k < R.length) : (h :: (R ++ [v])).take (1 + k) ++ [L] ++ (h :: (R ++ [v])).drop (1 + k + 1) = h :: (R.set k L ++ [v]) := by
  rw [set_cut L (by rw [List.length_cons, List.length_append]; omega), Nat.add_comm 1 k, List.set_cons_succ, List.set_append_left _ _ hk]
section
variable {r : RepR} {H : Hp} {c : Addr} {Q : VK} {E : XK}
theorem useRow (B : BaseR r) (hc : H c = some (.lst (strV r.lines))) {k : Nat} {x : RowR} (hk : r.rows[k]? = some x) {wd : Nat} (hwd : wd < (rowW x).length) {at_ : Int} (ea : at_ = ((1 + k : Nat) : Int)) {o : List Nat} {so : Str} (eo : so = mk o) (ho : o.length ≤ 100)
    (q : ∀ (c' : Addr) (H' : Hp), Ex H H' → H' c' = some (.lst (strV (headR r :: ((rowsL r).set k (joinL [32] ((rowW x).set wd o)) ++ [verdL false])))) → Q (.ref c') H') : spRepl [.ref c, .int at_, .int (wd : Nat), .str so] H Q E := by
  subst eo
  subst ea
  obtain ⟨_, _, _, eL, _⟩ := base_ls B
  have hx := List.mem_of_getElem? hk
  obtain ⟨h20, hw⟩ := rowW_ok B hx
  have hkl : k < (rowsL r).length := by unfold rowsL; rw [List.length_map]; exact (List.getElem?_eq_some_iff.mp hk).1
  have hlen := (base_line B).1
  obtain ⟨y, ys, ey⟩ : ∃ y ys, rowW x = y :: ys := ⟨_, _, rfl⟩
  have el : rowLR x = joinL [32] (y :: ys) := by rw [← ey]; rfl
  rw [ey] at h20 hwd hw
  refine ⟨c, r.lines, 1 + k, wd, o, y, ys, rfl, hc, by omega, ?_, fun l hl => (hw l hl).1, ?_, ho, hwd, by omega, fun c' H' e h => q c' H' e ?_⟩
  · rw [eL, Nat.add_comm, List.getElem?_cons_succ, List.getElem?_append_left hkl]
    unfold rowsL
    rw [List.getElem?_map, hk, ← el]; rfl
  · have := (line_ok B (rowLR x) (.inr (.inl (List.mem_map.mpr ⟨x, hx, rfl⟩)))).2.1
    rw [← el]; omega
  · rw [h, eL, cut_row hkl, ey]
theorem useHead (B : BaseR r) (hc : H c = some (.lst (strV r.lines))) {wd : Nat} (hwd : wd < 4) {o : List Nat} {so : Str} (eo : so = mk o) (ho : o.length ≤ 100)
    (q : ∀ (c' : Addr) (H' : Hp), Ex H H' → H' c' = some (.lst (strV (joinL [32] ((headW r).set wd o) :: (rowsL r ++ [verdL false])))) → Q (.ref c') H') : spRepl [.ref c, .int 0, .int (wd : Nat), .str so] H Q E := by
  subst eo
  obtain ⟨_, _, _, eL, _⟩ := base_ls B
  have hlen := (base_line B).1
  have hw := headW_ok B
  refine ⟨c, r.lines, 0, wd, o, tl ("module" : Str), [r.modu, tl ("period" : Str), intL r.per], rfl, hc, by omega, by rw [eL]; rfl, fun l hl => (hw l hl).1, ?_, ho, hwd, (by show 4 ≤ 20; decide), fun c' H' e h => q c' H' e ?_⟩
  · have := (line_ok B (headR r) (.inl rfl)).2.1
    exact Nat.le_trans this (by decide)
  · rw [h, eL]; rfl
end
section
variable {P : Program} {w : World} {K : PySem.W.Frag} {mg : Str → Option Value} {base : Heap}
def spSpoilt : Sp := fun vs H Q _ => ∃ (p a c : Addr) (r : RepR), vs = [.ref p, .ref c] ∧ PoolOk p a H ∧ H c = some (.lst (strV r.lines)) ∧ BaseR r ∧ ∀ (d : Addr) (ls : List (List Nat)) (H' : Hp), Px p a H H' → H' d = some (.lst (strV ls)) → NoRep (textOf ls) → Q (.ref d) H'
theorem sc_law_spoilt : FnScope ["pool", "lines", "form", "many", "name", "other", "word"] ["pool", "lines"] (defScope s_law_spoilt) := ⟨rfl, rfl, rfl, by decide +kernel, rfl, by decide +kernel, by decide +kernel⟩
theorem ok_law_spoilt (D : Dfd K mg "_law_spoilt" s_law_spoilt ["pool", "lines"]) (T : TxtS mg) (C1 : Has P w K mg base 2 "_law_draw" ["pool", "many"] spDrawX) (C2 : Has P w K mg base 3 "_law_number" ["pool"] spNumB) (C3 : Has P w K mg base 1 "_law_replaced" ["lines", "at", "word", "other"] spRepl) : Has P w K mg base 4 "_law_spoilt" ["pool", "lines"] spSpoilt := by
  obtain ⟨f_law_draw, d_law_draw, G_law_draw, g_law_draw, k_law_draw, b_law_draw⟩ := C1
  obtain ⟨f_law_number, d_law_number, G_law_number, g_law_number, k_law_number, b_law_number⟩ := C2
  obtain ⟨f_law_replaced, d_law_replaced, G_law_replaced, g_law_replaced, k_law_replaced, b_law_replaced⟩ := C3
  refine D.has fun f fd F => F.ok sc_law_spoilt (fun vs H Q E h => ?_) (fun cdv A outer s H vs Q E hr h => ?_)
  · obtain ⟨_, _, _, _, rfl, _⟩ := h
    rfl
  · obtain ⟨p, a, c, r, rfl, hp, hc, B, q⟩ := h
    refine ⟨_, (pss_cons (ps_set (i := 2) sc_law_spoilt.nd rfl (.inl rfl) (pe_call G_law_draw (hr.mono (by omega)) (by rfl) g_law_draw k_law_draw b_law_draw .nil pass0 (pa_cons (pv 0) (pa_cons pe_int pa_nil))))
    (pss_cons (ps_set (i := 3) sc_law_spoilt.nd rfl (.inl rfl) (pe_callB call_len_seq (by rfl) T.len (by decide +kernel) (pa_cons (pv 1) pa_nil)))
    (pss_cons (ps_set (i := 4) sc_law_spoilt.nd rfl (.inl rfl) (pe_ix ix_list (pe_lst (pa_cons pe_str (pa_cons pe_str (pa_cons pe_str (pa_cons pe_str (pa_cons pe_str (pa_cons pe_str (pa_cons pe_str (pa_cons pe_str (pa_cons pe_str pa_nil)))))))))) (pe_call G_law_draw (hr.mono (by omega)) (by rfl) g_law_draw k_law_draw b_law_draw .nil pass0 (pa_cons (pv 0) (pa_cons pe_int pa_nil))) (fun _ _ => rfl)))
    (pss_cons (ps_if (pt_cmpR op_eq (pv 2) pe_int (nomark _))
      (pss_one (ps_ret (pe_slice sl_list (pv 1) (po_some pe_int) po_none)))
      pss_nil)
    (pss_cons (ps_if (pt_cmpR op_eq (pv 2) pe_int (nomark _))
      (pss_one (ps_ret (pe_slice sl_list (pv 1) po_none (po_some (pe_un un_neg pe_int)))))
      pss_nil)
    (pss_cons (ps_if (pt_cmpR op_eq (pv 2) pe_int (nomark _))
      (pss_one (ps_ret (pe_op op_cat (pe_op op_cat (pe_slice sl_list (pv 1) po_none (po_some pe_int)) (pe_lst (pa_cons (pe_ix ix_list (pe_lst (pa_cons pe_str (pa_cons pe_str (pa_cons pe_str pa_nil)))) (pe_call G_law_draw (hr.mono (by omega)) (by rfl) g_law_draw k_law_draw b_law_draw .nil pass0 (pa_cons (pv 0) (pa_cons pe_int pa_nil))) (fun _ _ => rfl)) pa_nil))) (pe_slice sl_list (pv 1) (po_some pe_int) po_none))))
      pss_nil)
    (pss_cons (ps_if (pt_cmpR op_eq (pv 2) pe_int (nomark _))
      (pss_one (ps_ret (pe_op op_cat (pe_slice sl_list (pv 1) po_none (po_some (pe_un un_neg pe_int))) (pe_lst (pa_cons pe_str pa_nil)))))
      pss_nil)
    (pss_cons (ps_if (pt_cmpR op_eq (pv 2) pe_int (nomark _))
      (pss_one (ps_ret (pe_op op_cat (pe_slice sl_list (pv 1) po_none (po_some (pe_un un_neg pe_int))) (pe_lst (pa_cons pe_str pa_nil)))))
      pss_nil)
    (pss_cons (ps_if (pt_cmpR op_eq (pv 2) pe_int (nomark _))
      (pss_one (ps_ret (pe_call G_law_replaced (hr.mono (by omega)) (by rfl) g_law_replaced k_law_replaced b_law_replaced .nil pass0 (pa_cons (pv 1) (pa_cons pe_int (pa_cons pe_int (pa_cons (pe_ix ix_list (pe_lst (pa_cons pe_str (pa_cons pe_str (pa_cons pe_str (pa_cons pe_str (pa_cons pe_str (pa_cons pe_str pa_nil))))))) (pe_call G_law_draw (hr.mono (by omega)) (by rfl) g_law_draw k_law_draw b_law_draw .nil pass0 (pa_cons (pv 0) (pa_cons pe_int pa_nil))) (fun _ _ => rfl)) pa_nil)))))))
      pss_nil)
    (pss_cons (ps_if (pt_cmpR op_eq (pv 2) pe_int (nomark _))
      (pss_one (ps_ret (pe_call G_law_replaced (hr.mono (by omega)) (by rfl) g_law_replaced k_law_replaced b_law_replaced .nil pass0 (pa_cons (pv 1) (pa_cons pe_int (pa_cons pe_int (pa_cons (pe_ix ix_list (pe_lst (pa_cons (pe_call G_law_number (hr.mono (by omega)) (by rfl) g_law_number k_law_number b_law_number .nil pass0 (pa_cons (pv 0) pa_nil)) (pa_cons pe_str (pa_cons pe_str pa_nil)))) (pe_call G_law_draw (hr.mono (by omega)) (by rfl) g_law_draw k_law_draw b_law_draw .nil pass0 (pa_cons (pv 0) (pa_cons pe_int pa_nil))) (fun _ _ => rfl)) pa_nil)))))))
      pss_nil)
    (pss_cons (ps_if (pt_cmpR op_eq (pv 2) pe_int (nomark _))
      (pss_one (ps_ret (pe_call G_law_replaced (hr.mono (by omega)) (by rfl) g_law_replaced k_law_replaced b_law_replaced .nil pass0 (pa_cons (pv 1) (pa_cons (pe_op op_add pe_int (pe_call G_law_draw (hr.mono (by omega)) (by rfl) g_law_draw k_law_draw b_law_draw .nil pass0 (pa_cons (pv 0) (pa_cons (pe_op op_sub (pv 3) pe_int) pa_nil)))) (pa_cons pe_int (pa_cons (pv 4) pa_nil)))))))
      pss_nil)
    (pss_cons (ps_if (pt_cmpR op_eq (pv 2) pe_int (nomark _))
      (pss_one (ps_ret (pe_call G_law_replaced (hr.mono (by omega)) (by rfl) g_law_replaced k_law_replaced b_law_replaced .nil pass0 (pa_cons (pv 1) (pa_cons (pe_op op_add pe_int (pe_call G_law_draw (hr.mono (by omega)) (by rfl) g_law_draw k_law_draw b_law_draw .nil pass0 (pa_cons (pv 0) (pa_cons (pe_op op_sub (pv 3) pe_int) pa_nil)))) (pa_cons (pe_ix ix_list (pe_lst (pa_cons pe_int (pa_cons pe_int pa_nil))) (pe_call G_law_draw (hr.mono (by omega)) (by rfl) g_law_draw k_law_draw b_law_draw .nil pass0 (pa_cons (pv 0) (pa_cons pe_int pa_nil))) (fun _ _ => rfl)) (pa_cons (pe_call G_law_number (hr.mono (by omega)) (by rfl) g_law_number k_law_number b_law_number .nil pass0 (pa_cons (pv 0) pa_nil)) pa_nil)))))))
      pss_nil)
    (pss_cons (ps_if (pt_cmpR op_eq (pv 2) pe_int (nomark _))
      (pss_one (ps_ret (pe_call G_law_replaced (hr.mono (by omega)) (by rfl) g_law_replaced k_law_replaced b_law_replaced .nil pass0 (pa_cons (pv 1) (pa_cons pe_int (pa_cons pe_int (pa_cons (pe_ix ix_list (pe_lst (pa_cons pe_str (pa_cons (pe_call G_law_number (hr.mono (by omega)) (by rfl) g_law_number k_law_number b_law_number .nil pass0 (pa_cons (pv 0) pa_nil)) pa_nil))) (pe_call G_law_draw (hr.mono (by omega)) (by rfl) g_law_draw k_law_draw b_law_draw .nil pass0 (pa_cons (pv 0) (pa_cons pe_int pa_nil))) (fun _ _ => rfl)) pa_nil)))))))
      pss_nil)
    (pss_cons (ps_if (pt_cmpR op_eq (pv 2) pe_int (nomark _))
      (pss_one (ps_ret (pe_call G_law_replaced (hr.mono (by omega)) (by rfl) g_law_replaced k_law_replaced b_law_replaced .nil pass0 (pa_cons (pv 1) (pa_cons pe_int (pa_cons pe_int (pa_cons (pe_ix ix_list (pe_lst (pa_cons pe_str (pa_cons pe_str (pa_cons pe_str (pa_cons pe_str (pa_cons pe_str pa_nil)))))) (pe_call G_law_draw (hr.mono (by omega)) (by rfl) g_law_draw k_law_draw b_law_draw .nil pass0 (pa_cons (pv 0) (pa_cons pe_int pa_nil))) (fun _ _ => rfl)) pa_nil)))))))
      pss_nil)
    (pss_cons (ps_if (pt_cmpR op_eq (pv 2) pe_int (nomark _))
      (pss_one (ps_ret (pe_op op_cat (pe_op op_cat (pe_slice sl_list (pv 1) po_none (po_some pe_int)) (pe_lst (pa_cons (pe_ix ix_list (pe_call G_law_replaced (hr.mono (by omega)) (by rfl) g_law_replaced k_law_replaced b_law_replaced .nil pass0 (pa_cons (pv 1) (pa_cons pe_int (pa_cons pe_int (pa_cons pe_str pa_nil))))) pe_int (fun _ _ => rfl)) pa_nil))) (pe_slice sl_list (pv 1) (po_some pe_int) po_none))))
      pss_nil)
    (pss_cons (ps_if (pt_cmpR op_eq (pv 2) pe_int (nomark _))
      (pss_cons (ps_set (i := 5) sc_law_spoilt.nd rfl (.inl rfl) (pe_call G_law_replaced (hr.mono (by omega)) (by rfl) g_law_replaced k_law_replaced b_law_replaced .nil pass0 (pa_cons (pe_call G_law_replaced (hr.mono (by omega)) (by rfl) g_law_replaced k_law_replaced b_law_replaced .nil pass0 (pa_cons (pv 1) (pa_cons pe_int (pa_cons pe_int (pa_cons pe_str pa_nil))))) (pa_cons pe_int (pa_cons pe_int (pa_cons pe_str pa_nil))))))
      (pss_one (ps_ret (pe_op op_cat (pe_op op_cat (pe_slice sl_list (pv 1) po_none (po_some pe_int)) (pe_lst (pa_cons (pe_ix ix_list (pv 5) pe_int (fun _ _ => rfl)) pa_nil))) (pe_slice sl_list (pv 1) (po_some pe_int) po_none)))))
      pss_nil)
    (pss_cons (ps_set (i := 6) sc_law_spoilt.nd rfl (.inl rfl) (pe_ix ix_list (pe_lst (pa_cons pe_int (pa_cons pe_int (pa_cons pe_int (pa_cons pe_int pa_nil))))) (pe_call G_law_draw (hr.mono (by omega)) (by rfl) g_law_draw k_law_draw b_law_draw .nil pass0 (pa_cons (pv 0) (pa_cons pe_int pa_nil))) (fun _ _ => rfl)))
    (pss_one (ps_ret (pe_call G_law_replaced (hr.mono (by omega)) (by rfl) g_law_replaced k_law_replaced b_law_replaced .nil pass0 (pa_cons (pv 1) (pa_cons pe_int (pa_cons (pv 6) (pa_cons (pe_ix ix_list (pe_lst (pa_cons pe_str (pa_cons pe_str (pa_cons pe_str (pa_cons pe_str pa_nil))))) (pe_call G_law_draw (hr.mono (by omega)) (by rfl) g_law_draw k_law_draw b_law_draw .nil pass0 (pa_cons (pv 0) (pa_cons pe_int pa_nil))) (fun _ _ => rfl)) pa_nil)))))))))))))))))))))))), ?_⟩
    obtain ⟨x0, xs, er, hxl, ⟨bs, hv, hb⟩, _⟩ := id B.rows
    obtain ⟨_, _, _, eL, _⟩ := base_ls B
    have hll := (base_line B).1
    have hrl : (rowsL r).length = r.rows.length := by unfold rowsL; rw [List.length_map]
    have hr1 : r.rows.length = xs.length + 1 := by rw [er]; rfl
    have hLl : (strV r.lines).length = r.rows.length + 2 := by rw [strV_len, eL, List.length_cons, List.length_append, hrl]; rfl
    have cp : c ≠ p := by
      obtain ⟨_, _, _, _, _, e, _⟩ := hp
      intro z
      rw [z, e] at hc
      unfold RepR.lines strV at hc
      cases hc
    refine ⟨_, rfl, p, a, 14, rfl, by decide, by decide, hp, fun v H1 hv1 X1 k1 => ?_⟩
    have hc1 : H1 c = some (.lst (strV r.lines)) := by rw [k1 _ cp]; exact hc
    refine ⟨_, rfl, c, _, rfl, .inl (SqL.of hc1), (by show 9 ≤ sizeLine; decide), fun l nl => ?_⟩
    have X2 := (Px.refl X1.pool).new (o := .lst (badRow.map fun n => V.str (mk n))) nl
    refine ⟨_, rfl, p, a, 9, rfl, by decide, by decide, X2.pool, fun w2 H3 hw2 X3 k3 => ?_⟩
    have X23 := X2.trans X3
    have lp : l ≠ p := X1.pool.ne nl
    have hl3 : H3 l = some (.lst (badRow.map fun n => V.str (mk n))) := by rw [k3 _ lp]; exact upd_same
    obtain ⟨nm, hnm, hnmB⟩ := itemL (L := badRow) (v := w2) (by show w2 < 9; omega)
    refine ⟨_, _, _, _, rfl, rfl, SqL.of hl3, at_of (j := w2) rfl (by rw [List.getElem?_map, hnm]; rfl), ?_⟩
    have hc3 : H3 c = some (.lst (strV r.lines)) := X23.at_ (by rw [hid_ne cp]; exact hc1)
    have X13 := X1.trans X23
    have hs : strV r.lines = .str (mk (headR r)) :: .str (mk (rowLR x0)) :: (strV (xs.map rowLR ++ [verdL false])) := by rw [eL]; unfold rowsL; rw [er]; rfl
    have cut1 : cutV (strV r.lines) (some 1) none = strV (rowsL r ++ [verdL false]) := by
      have : cutV (strV r.lines) (some ((1 : Nat) : Int)) none = _ := cutV_tail (by omega)
      rw [show (1 : Int) = ((1 : Nat) : Int) from rfl, this, eL]; rfl
    have cut2 : cutV (strV r.lines) (some 2) none = strV (xs.map rowLR ++ [verdL false]) := by
      have : cutV (strV r.lines) (some ((2 : Nat) : Int)) none = _ := cutV_tail (by omega)
      rw [show (2 : Int) = ((2 : Nat) : Int) from rfl, this, hs]; rfl
    have cuth1 : cutV (strV r.lines) none (some 1) = strV [headR r] := by
      have : cutV (strV r.lines) none (some ((1 : Nat) : Int)) = _ := cutV_head (by omega)
      rw [show (1 : Int) = ((1 : Nat) : Int) from rfl, this, hs]; rfl
    have cuth2 : cutV (strV r.lines) none (some 2) = strV [headR r, rowLR x0] := by
      have : cutV (strV r.lines) none (some ((2 : Nat) : Int)) = _ := cutV_head (by omega)
      rw [show (2 : Int) = ((2 : Nat) : Int) from rfl, this, hs]; rfl
    have cutm : cutV (strV r.lines) none (some (-1)) = strV (headR r :: rowsL r) := by
      rw [eL, ← List.cons_append, strV_app]; exact cutV_init _ _
    have hx0 : r.rows[0]? = some x0 := by rw [er]; rfl
    have w0 : (rowW x0).length = 11 := by unfold rowW; rw [hv]; rfl
    have wge : ∀ x : RowR, 7 ≤ (rowW x).length := fun x => by
      unfold rowW
      rw [List.length_append]
      show 7 ≤ 6 + _
      obtain ⟨y, ys, e⟩ := vioW_cons x.vio
      rw [e, List.length_cons]; omega
    have lenN : ∀ o ∈ badN, o.length ≤ 100 := fun o h => Nat.le_trans (badN_ok o h).2.1 (by decide)
    match v, hv1 with
    | 0, _ =>
      refine ⟨_, rfl, rfl, _, rfl, iteY rfl ⟨_, rfl, _, rfl, c, _, rfl, SqL.of hc3, fun d nd => ?_⟩⟩
      show Q _ (upd H3 d (.lst (cutV (strV r.lines) (some 1) none)))
      rw [cut1]
      exact q d _ _ (X13.new nd) upd_same (form0 B)
    | 1, _ =>
      refine ⟨_, rfl, rfl, _, rfl, iteN rfl ?_⟩
      refine ⟨_, rfl, rfl, _, rfl, iteY rfl ⟨_, rfl, _, rfl, _, rfl, c, _, rfl, SqL.of hc3, fun d nd => ?_⟩⟩
      show Q _ (upd H3 d (.lst (cutV (strV r.lines) none (some (-1)))))
      rw [cutm]
      exact q d _ _ (X13.new nd) upd_same (form1 B)
    | 2, _ =>
      iterate 2 refine ⟨_, rfl, rfl, _, rfl, iteN rfl ?_⟩
      refine ⟨_, rfl, rfl, _, rfl, iteY rfl ⟨_, rfl, _, rfl, c, _, rfl, SqL.of hc3, fun d nd => ?_⟩⟩
      rw [cuth1]
      have hd : upd H3 d (.lst (strV [headR r])) d = some (.lst (strV [headR r])) := upd_same
      have X4 := X13.new (o := .lst (strV [headR r])) nd
      have hc4 := (Ex.new (o := .lst (strV [headR r])) nd) _ _ hc3
      have dp : d ≠ p := X13.pool.ne nd
      generalize upd H3 d (.lst (strV [headR r])) = H4 at *
      refine ⟨(by show 3 ≤ sizeLine; decide), fun l1 n1 => ?_⟩
      have X5 := X4.new (o := .lst ([([] : List Nat), tl ("reg" : Str), tl ("clean" : Str)].map fun n => V.str (mk n))) n1
      refine ⟨_, rfl, p, a, 3, rfl, by decide, by decide, X5.pool, fun u H6 hu X6 k6 => ?_⟩
      have hl6 : H6 l1 = some (.lst ([([] : List Nat), tl ("reg" : Str), tl ("clean" : Str)].map fun n => V.str (mk n))) := by rw [k6 _ (X4.pool.ne n1)]; exact upd_same
      have l1d : d ≠ l1 := fun z => by rw [z, n1] at hd; cases hd
      have l1c : c ≠ l1 := fun z => by rw [z, n1] at hc4; cases hc4
      have hd6 : H6 d = some (.lst (strV [headR r])) := by rw [k6 _ dp, upd_ne l1d]; exact hd
      have hc6 : H6 c = some (.lst (strV r.lines)) := by rw [k6 _ cp, upd_ne l1c]; exact hc4
      obtain ⟨o, ho, hoB⟩ := itemL (L := [([] : List Nat), tl ("reg" : Str), tl ("clean" : Str)]) (v := u) (by show u < 3; omega)
      have X46 := X5.trans X6
      refine ⟨_, _, _, _, rfl, rfl, SqL.of hl6, at_of (j := u) rfl (by rw [List.getElem?_map, ho]; rfl), (by show 1 ≤ sizeLine; decide), fun l2 n2 => ?_⟩
      have e2 : Ex H6 (upd H6 l2 (.lst (strV [o]))) := Ex.new n2
      refine ⟨d, l2, _, _, rfl, rfl, e2 _ _ hd6, upd_same, (by show 2 ≤ sizeLine; decide), fun l3 n3 => ?_⟩
      have e3 : Ex (upd H6 l2 (.lst (strV [o]))) (upd (upd H6 l2 (.lst (strV [o]))) l3 (.lst (strV [headR r, o]))) := Ex.new n3
      have h3 : upd (upd H6 l2 (.lst (strV [o]))) l3 (.lst (strV [headR r, o])) l3 = some (.lst (strV [headR r, o])) := upd_same
      refine ⟨_, rfl, _, rfl, c, _, rfl, SqL.of (e3 _ _ (e2 _ _ hc6)), fun l4 n4 => ?_⟩
      rw [cut1]
      refine ⟨l3, l4, _, _, rfl, rfl, (Ex.new n4) _ _ h3, upd_same, sz_of (by rw [strV_len (rowsL r ++ [verdL false]), List.length_append, hrl]; show 2 + (_ + 1) ≤ _; omega), fun l5 n5 => ?_⟩
      exact q l5 (headR r :: o :: (rowsL r ++ [verdL false])) _ (X46.more (e2.trans (e3.trans ((Ex.new n4).trans (Ex.new n5))))) upd_same (form2 B hoB)
    | 3, _ =>
      iterate 3 refine ⟨_, rfl, rfl, _, rfl, iteN rfl ?_⟩
      refine ⟨_, rfl, rfl, _, rfl, iteY rfl ⟨_, rfl, _, rfl, _, rfl, c, _, rfl, SqL.of hc3, fun d nd => ?_⟩⟩
      rw [cutm]
      refine ⟨(by show 1 ≤ sizeLine; decide), fun l1 n1 => ⟨d, l1, _, _, rfl, rfl, (Ex.new n1) _ _ upd_same, upd_same, sz_of (by rw [strV_len, List.length_cons, hrl]; show _ + 1 + 1 ≤ _; omega), fun l2 n2 => ?_⟩⟩
      refine q l2 (headR r :: (rowsL r ++ [tl ("clean" : Str)])) _ ((X13.new nd).more ((Ex.new n1).trans (Ex.new n2))) ?_ (form34 B (by simp))
      rw [upd_same, ← List.cons_append, strV_app]; rfl
    | 4, _ =>
      iterate 4 refine ⟨_, rfl, rfl, _, rfl, iteN rfl ?_⟩
      refine ⟨_, rfl, rfl, _, rfl, iteY rfl ⟨_, rfl, _, rfl, _, rfl, c, _, rfl, SqL.of hc3, fun d nd => ?_⟩⟩
      rw [cutm]
      refine ⟨(by show 1 ≤ sizeLine; decide), fun l1 n1 => ⟨d, l1, _, _, rfl, rfl, (Ex.new n1) _ _ upd_same, upd_same, sz_of (by rw [strV_len, List.length_cons, hrl]; show _ + 1 + 1 ≤ _; omega), fun l2 n2 => ?_⟩⟩
      refine q l2 (headR r :: (rowsL r ++ [tl ("not  clean" : Str)])) _ ((X13.new nd).more ((Ex.new n1).trans (Ex.new n2))) ?_ (form34 B (by simp))
      rw [upd_same, ← List.cons_append, strV_app]; rfl
    | 5, _ =>
      iterate 5 refine ⟨_, rfl, rfl, _, rfl, iteN rfl ?_⟩
      refine ⟨_, rfl, rfl, _, rfl, iteY rfl ⟨_, rfl, (by show 6 ≤ sizeLine; decide), fun l1 n1 => ?_⟩⟩
      have X5 := X13.new (o := .lst (badM.map fun n => V.str (mk n))) n1
      refine ⟨_, rfl, p, a, 6, rfl, by decide, by decide, X5.pool, fun u H6 hu X6 k6 => ?_⟩
      have hl6 : H6 l1 = some (.lst (badM.map fun n => V.str (mk n))) := by rw [k6 _ (X13.pool.ne n1)]; exact upd_same
      have l1c : c ≠ l1 := fun z => by rw [z, n1] at hc3; cases hc3
      have hc6 : H6 c = some (.lst (strV r.lines)) := by rw [k6 _ cp, upd_ne l1c]; exact hc3
      obtain ⟨o, ho, hoB⟩ := itemL (L := badM) (v := u) (by show u < 6; omega)
      refine ⟨_, _, _, _, rfl, rfl, SqL.of hl6, at_of (j := u) rfl (by rw [List.getElem?_map, ho]; rfl), ?_⟩
      exact useHead (E := E0) B hc6 (wd := 1) (by decide) rfl (Nat.le_trans (badM_no o hoB).2.2.2.1 (by decide)) fun c' H' e h => q c' _ _ ((X5.trans X6).more e) h (form5 B hoB)
    | 6, _ =>
      iterate 6 refine ⟨_, rfl, rfl, _, rfl, iteN rfl ?_⟩
      refine ⟨_, rfl, rfl, _, rfl, iteY rfl ⟨_, rfl, _, rfl, p, a, rfl, X13.pool, fun n0 H4 hn0 X4 => ⟨(by show 3 ≤ sizeLine; decide), fun l1 n1 => ?_⟩⟩⟩
      have hc4 : H4 c = some (.lst (strV r.lines)) := X4.at_ (by rw [hid_ne cp]; exact hc3)
      have X5 := (X13.trans X4).new (o := .lst ([n0, tl ("0" : Str), tl ("-3" : Str)].map fun n => V.str (mk n))) n1
      refine ⟨_, rfl, p, a, 3, rfl, by decide, by decide, X5.pool, fun u H6 hu X6 k6 => ?_⟩
      have hl6 : H6 l1 = some (.lst ([n0, tl ("0" : Str), tl ("-3" : Str)].map fun n => V.str (mk n))) := by rw [k6 _ (X4.pool.ne n1)]; exact upd_same
      have l1c : c ≠ l1 := fun z => by rw [z, n1] at hc4; cases hc4
      have hc6 : H6 c = some (.lst (strV r.lines)) := by rw [k6 _ cp, upd_ne l1c]; exact hc4
      obtain ⟨o, ho, hoB⟩ := itemL (L := [n0, tl ("0" : Str), tl ("-3" : Str)]) (v := u) (by show u < 3; omega)
      refine ⟨_, _, _, _, rfl, rfl, SqL.of hl6, at_of (j := u) rfl (by rw [List.getElem?_map, ho]; rfl), ?_⟩
      have ho2 : o ∈ badN ∨ o = tl ("0" : Str) ∨ o = tl ("-3" : Str) := by
        simp only [List.mem_cons, List.not_mem_nil, or_false] at hoB
        rcases hoB with z | z
        · exact .inl (z ▸ hn0)
        · exact .inr z
      have hol : o.length ≤ 100 := by
        rcases ho2 with z | z | z
        · exact lenN o z
        · rw [z]; decide +kernel
        · rw [z]; decide +kernel
      exact useHead (E := E0) B hc6 (wd := 3) (by decide) rfl hol fun c' H' e h => q c' _ _ ((X5.trans X6).more e) h (form6 B ho2)
    | 7, _ =>
      iterate 7 refine ⟨_, rfl, rfl, _, rfl, iteN rfl ?_⟩
      refine ⟨_, rfl, rfl, _, rfl, iteY rfl ⟨_, rfl, _, rfl, _, rfl, _, _, rfl, rfl, p, a, ((strV r.lines).length : Int) - 2, rfl, by omega, by omega, X13.pool, fun u H6 hu X6 k6 => ?_⟩⟩
      have hc6 : H6 c = some (.lst (strV r.lines)) := by rw [k6 _ cp]; exact hc3
      obtain ⟨x, hx, _⟩ := itemL (L := r.rows) (v := u) (by omega)
      refine ⟨_, _, rfl, rfl, _, rfl, ?_⟩
      exact useRow (E := E0) B hc6 hx (wd := 1) (by have := wge x; omega) (by omega) rfl (Nat.le_trans (badRow_ok nm hnmB).2.2.1 (by decide)) fun c' H' e h => q c' _ _ ((X13.trans X6).more e) h (form7 B hx hnmB)
    | 8, _ =>
      iterate 8 refine ⟨_, rfl, rfl, _, rfl, iteN rfl ?_⟩
      refine ⟨_, rfl, rfl, _, rfl, iteY rfl ⟨_, rfl, _, rfl, _, rfl, _, _, rfl, rfl, p, a, ((strV r.lines).length : Int) - 2, rfl, by omega, by omega, X13.pool, fun u H6 hu X6 k6 => ?_⟩⟩
      have hc6 : H6 c = some (.lst (strV r.lines)) := by rw [k6 _ cp]; exact hc3
      obtain ⟨x, hx, _⟩ := itemL (L := r.rows) (v := u) (by omega)
      refine ⟨_, _, rfl, rfl, (by show 2 ≤ sizeLine; decide), fun l1 n1 => ?_⟩
      have X7 := (X13.trans X6).new (o := .lst [.int 3, .int 5]) n1
      refine ⟨_, rfl, p, a, 2, rfl, by decide, by decide, X7.pool, fun u2 H8 hu2 X8 k8 => ?_⟩
      have hl8 : H8 l1 = some (.lst [.int 3, .int 5]) := by rw [k8 _ (X6.pool.ne n1)]; exact upd_same
      have l1c : c ≠ l1 := fun z => by rw [z, n1] at hc6; cases hc6
      have hc8 : H8 c = some (.lst (strV r.lines)) := by rw [k8 _ cp, upd_ne l1c]; exact hc6
      obtain ⟨wd, hwd, hwd2⟩ : ∃ wd : Nat, ([.int 3, .int 5] : List V)[u2]? = some (.int (wd : Nat)) ∧ (wd = 3 ∨ wd = 5) := by
        match u2, hu2 with
        | 0, _ => exact ⟨3, rfl, .inl rfl⟩
        | 1, _ => exact ⟨5, rfl, .inr rfl⟩
        | n + 2, h => exact absurd h (by omega)
      refine ⟨_, _, _, _, rfl, rfl, SqL.of hl8, at_of (j := u2) rfl hwd, _, rfl, p, a, rfl, X8.pool, fun n0 H9 hn0 X9 => ?_⟩
      have hc9 : H9 c = some (.lst (strV r.lines)) := X9.at_ (by rw [hid_ne cp]; exact hc8)
      exact useRow (E := E0) B hc9 hx (wd := wd) (by have := wge x; omega) (by omega) rfl (lenN n0 hn0) fun c' H' e h => q c' _ _ ((X7.trans (X8.trans X9)).more e) h (form8 B hx hn0 hwd2)
    | 9, _ =>
      iterate 9 refine ⟨_, rfl, rfl, _, rfl, iteN rfl ?_⟩
      refine ⟨_, rfl, rfl, _, rfl, iteY rfl ⟨_, rfl, _, rfl, p, a, rfl, X13.pool, fun n0 H4 hn0 X4 => ⟨(by show 2 ≤ sizeLine; decide), fun l1 n1 => ?_⟩⟩⟩
      have hc4 : H4 c = some (.lst (strV r.lines)) := X4.at_ (by rw [hid_ne cp]; exact hc3)
      have X5 := (X13.trans X4).new (o := .lst ([tl ("none" : Str), n0].map fun n => V.str (mk n))) n1
      refine ⟨_, rfl, p, a, 2, rfl, by decide, by decide, X5.pool, fun u H6 hu X6 k6 => ?_⟩
      have hl6 : H6 l1 = some (.lst ([tl ("none" : Str), n0].map fun n => V.str (mk n))) := by rw [k6 _ (X4.pool.ne n1)]; exact upd_same
      have l1c : c ≠ l1 := fun z => by rw [z, n1] at hc4; cases hc4
      have hc6 : H6 c = some (.lst (strV r.lines)) := by rw [k6 _ cp, upd_ne l1c]; exact hc4
      obtain ⟨o, ho, hoB⟩ := itemL (L := [tl ("none" : Str), n0]) (v := u) (by show u < 2; omega)
      refine ⟨_, _, _, _, rfl, rfl, SqL.of hl6, at_of (j := u) rfl (by rw [List.getElem?_map, ho]; rfl), ?_⟩
      have ho2 : o = tl ("none" : Str) ∨ o ∈ badN := by
        simp only [List.mem_cons, List.not_mem_nil, or_false] at hoB
        rcases hoB with z | z
        · exact .inl z
        · exact .inr (z ▸ hn0)
      have hol : o.length ≤ 100 := by
        rcases ho2 with z | z
        · rw [z]; decide +kernel
        · exact lenN o z
      exact useRow (E := E0) B hc6 hx0 (wd := 8) (by omega) rfl rfl hol fun c' H' e h => q c' _ _ ((X5.trans X6).more e) h (form9 B hx0 hv ho2)
    | 10, _ =>
      iterate 10 refine ⟨_, rfl, rfl, _, rfl, iteN rfl ?_⟩
      refine ⟨_, rfl, rfl, _, rfl, iteY rfl ⟨_, rfl, (by show 5 ≤ sizeLine; decide), fun l1 n1 => ?_⟩⟩
      have X5 := X13.new (o := .lst (badV.map fun n => V.str (mk n))) n1
      refine ⟨_, rfl, p, a, 5, rfl, by decide, by decide, X5.pool, fun u H6 hu X6 k6 => ?_⟩
      have hl6 : H6 l1 = some (.lst (badV.map fun n => V.str (mk n))) := by rw [k6 _ (X13.pool.ne n1)]; exact upd_same
      have l1c : c ≠ l1 := fun z => by rw [z, n1] at hc3; cases hc3
      have hc6 : H6 c = some (.lst (strV r.lines)) := by rw [k6 _ cp, upd_ne l1c]; exact hc3
      obtain ⟨o, ho, hoB⟩ := itemL (L := badV) (v := u) (by show u < 5; omega)
      refine ⟨_, _, _, _, rfl, rfl, SqL.of hl6, at_of (j := u) rfl (by rw [List.getElem?_map, ho]; rfl), ?_⟩
      have hol : o.length ≤ 100 := (by decide +kernel : ∀ o ∈ badV, o.length ≤ 100) o hoB
      exact useRow (E := E0) B hc6 hx0 (wd := 10) (by omega) rfl rfl hol fun c' H' e h => q c' _ _ ((X5.trans X6).more e) h (form10 B hx0 hv hoB)
    | 11, _ =>
      iterate 11 refine ⟨_, rfl, rfl, _, rfl, iteN rfl ?_⟩
      refine ⟨_, rfl, rfl, _, rfl, iteY rfl ⟨_, rfl, _, rfl, c, _, rfl, SqL.of hc3, fun d nd => ?_⟩⟩
      rw [cuth2]
      have E4 : Ex H3 (upd H3 d (.lst (strV [headR r, rowLR x0]))) := Ex.new nd
      have hd : upd H3 d (.lst (strV [headR r, rowLR x0])) d = some (.lst (strV [headR r, rowLR x0])) := upd_same
      generalize upd H3 d (.lst (strV [headR r, rowLR x0])) = H4 at *
      refine ⟨_, rfl, ?_⟩
      dsimp only [tCons, tC, tNil, List.append_nil]
      refine useRow (E := E0) B (E4 _ _ hc3) hx0 (wd := 10) (o := tl ("101" : Str)) (by omega) rfl (mk_tlS _).symm (by decide +kernel) fun c' H5 e5 h5 => ?_
      have hrs : (rowsL r).set 0 (joinL [32] ((rowW x0).set 10 (tl ("101" : Str)))) = joinL [32] ((rowW x0).set 10 (tl ("101" : Str))) :: xs.map rowLR := by unfold rowsL; rw [er]; rfl
      rw [hrs] at h5
      generalize hL : joinL [32] ((rowW x0).set 10 (tl ("101" : Str))) = L at *
      refine ⟨_, _, _, _, rfl, rfl, SqL.of h5, at_of (j := 1) rfl rfl, (by show 1 ≤ sizeLine; decide), fun l2 n2 => ?_⟩
      have e2 : Ex H5 (upd H5 l2 (.lst (strV [L]))) := Ex.new n2
      refine ⟨d, l2, _, _, rfl, rfl, e2 _ _ (e5 _ _ hd), upd_same, (by show 3 ≤ sizeLine; decide), fun l3 n3 => ?_⟩
      have e3 : Ex (upd H5 l2 (.lst (strV [L]))) (upd (upd H5 l2 (.lst (strV [L]))) l3 (.lst (strV [headR r, rowLR x0, L]))) := Ex.new n3
      have h3 : upd (upd H5 l2 (.lst (strV [L]))) l3 (.lst (strV [headR r, rowLR x0, L])) l3 = some (.lst (strV [headR r, rowLR x0, L])) := upd_same
      refine ⟨_, rfl, _, rfl, c, _, rfl, SqL.of (e3 _ _ (e2 _ _ (e5 _ _ (E4 _ _ hc3)))), fun l4 n4 => ?_⟩
      rw [cut2]
      refine ⟨l3, l4, _, _, rfl, rfl, (Ex.new n4) _ _ h3, upd_same, sz_of (by rw [strV_len (xs.map rowLR ++ [verdL false]), List.length_append, List.length_map]; show 3 + (_ + 1) ≤ _; omega), fun l5 n5 => ?_⟩
      refine q l5 (headR r :: rowLR x0 :: L :: (xs.map rowLR ++ [verdL false])) _ (X13.more (E4.trans (e5.trans (e2.trans (e3.trans ((Ex.new n4).trans (Ex.new n5))))))) upd_same (form1112 B er (rowW_ok B (List.mem_of_getElem? hx0) |>.2 x0.name (by unfold rowW; simp)) ?_)
      rw [← hL]; unfold rowW; rw [hv]; rfl
    | 12, _ =>
      iterate 12 refine ⟨_, rfl, rfl, _, rfl, iteN rfl ?_⟩
      refine ⟨_, rfl, rfl, _, rfl, iteY rfl ⟨_, rfl, ?_⟩⟩
      dsimp only [tCons, tC, tNil, List.append_nil]
      refine useRow (E := E0) B hc3 hx0 (wd := 1) (o := tl ("zz_zz_zz" : Str)) (by omega) rfl (mk_tlS _).symm (by decide +kernel) fun c' H4 e4 h4 => ?_
      have hrs : (rowsL r).set 0 (joinL [32] ((rowW x0).set 1 (tl ("zz_zz_zz" : Str)))) = joinL [32] ((rowW x0).set 1 (tl ("zz_zz_zz" : Str))) :: xs.map rowLR := by unfold rowsL; rw [er]; rfl
      rw [hrs] at h4
      have eW : (rowW x0).set 1 (tl ("zz_zz_zz" : Str)) = tl ("reg" : Str) :: [tl ("zz_zz_zz" : Str), tl ("setup" : Str), mL x0.setup, tl ("hold" : Str), mL x0.hold, tl ("loose" : Str), tl ("at" : Str), intL 12, tl ("for" : Str), bitsL bs] := by unfold rowW; rw [hv]; rfl
      have hw := (rowW_ok B (List.mem_of_getElem? hx0)).2
      have hz : 32 ∉ tl ("zz_zz_zz" : Str) ∧ 10 ∉ tl ("zz_zz_zz" : Str) ∧ (tl ("zz_zz_zz" : Str)).length ≤ 61 ∧ ∀ c ∈ tl ("zz_zz_zz" : Str), c < 200 := ⟨by decide +kernel, by decide +kernel, by decide +kernel, by decide +kernel⟩
      have hwz : ∀ p ∈ (rowW x0).set 1 (tl ("zz_zz_zz" : Str)), 32 ∉ p ∧ 10 ∉ p ∧ p.length ≤ 61 ∧ ∀ c ∈ p, c < 200 := fun p hp => by
        rcases List.mem_or_eq_of_mem_set hp with z | z
        · exact hw p z
        · rw [z]; exact hz
      rw [eW] at hwz h4
      have hl0 := (wordsLine (by show 11 ≤ 20; decide) fun p hp => (hwz p hp).2).2.1
      refine ⟨c', _, 1, 10, tl ("101" : Str), _, _, by rw [mk_tlS]; rfl, h4, ?_, rfl, fun p hp => (hwz p hp).1, Nat.le_trans hl0 (by decide), by decide +kernel, (by show 10 < 11; decide), (by show 11 ≤ 20; decide), fun c2 H5 e5 h5 => ?_⟩
      · rw [List.length_cons, List.length_append, List.length_cons, List.length_map]; show xs.length + 1 + 1 + 1 ≤ 60; omega
      have h5 : H5 c2 = some (.lst (strV (headR r :: joinL [32] [tl ("reg" : Str), tl ("zz_zz_zz" : Str), tl ("setup" : Str), mL x0.setup, tl ("hold" : Str), mL x0.hold, tl ("loose" : Str), tl ("at" : Str), intL 12, tl ("for" : Str), tl ("101" : Str)] :: (xs.map rowLR ++ [verdL false])))) := h5
      generalize hL : joinL [32] [tl ("reg" : Str), tl ("zz_zz_zz" : Str), tl ("setup" : Str), mL x0.setup, tl ("hold" : Str), mL x0.hold, tl ("loose" : Str), tl ("at" : Str), intL 12, tl ("for" : Str), tl ("101" : Str)] = L at *
      dsimp only [gName, tRet]
      have E5 := e4.trans e5
      refine ⟨_, rfl, _, rfl, c, _, rfl, SqL.of (E5 _ _ hc3), fun d nd => ?_⟩
      rw [cuth2]
      have E6 : Ex H5 (upd H5 d (.lst (strV [headR r, rowLR x0]))) := Ex.new nd
      have hd : upd H5 d (.lst (strV [headR r, rowLR x0])) d = some (.lst (strV [headR r, rowLR x0])) := upd_same
      generalize upd H5 d (.lst (strV [headR r, rowLR x0])) = H6 at *
      refine ⟨_, rfl, _, _, _, _, rfl, rfl, SqL.of (E6 _ _ h5), at_of (j := 1) rfl rfl, (by show 1 ≤ sizeLine; decide), fun l2 n2 => ?_⟩
      have e2 : Ex H6 (upd H6 l2 (.lst (strV [L]))) := Ex.new n2
      refine ⟨d, l2, _, _, rfl, rfl, e2 _ _ hd, upd_same, (by show 3 ≤ sizeLine; decide), fun l3 n3 => ?_⟩
      have e3 : Ex (upd H6 l2 (.lst (strV [L]))) (upd (upd H6 l2 (.lst (strV [L]))) l3 (.lst (strV [headR r, rowLR x0, L]))) := Ex.new n3
      have h3 : upd (upd H6 l2 (.lst (strV [L]))) l3 (.lst (strV [headR r, rowLR x0, L])) l3 = some (.lst (strV [headR r, rowLR x0, L])) := upd_same
      refine ⟨_, rfl, _, rfl, c, _, rfl, SqL.of (e3 _ _ (e2 _ _ (E6 _ _ (E5 _ _ hc3)))), fun l4 n4 => ?_⟩
      rw [cut2]
      refine ⟨l3, l4, _, _, rfl, rfl, (Ex.new n4) _ _ h3, upd_same, sz_of (by rw [strV_len (xs.map rowLR ++ [verdL false]), List.length_append, List.length_map]; show 3 + (_ + 1) ≤ _; omega), fun l5 n5 => ?_⟩
      exact q l5 (headR r :: rowLR x0 :: L :: (xs.map rowLR ++ [verdL false])) _ (X13.more (E5.trans (E6.trans (e2.trans (e3.trans ((Ex.new n4).trans (Ex.new n5))))))) upd_same (form1112 B er hz hL.symm)
    | 13, _ =>
      iterate 13 refine ⟨_, rfl, rfl, _, rfl, iteN rfl ?_⟩
      refine ⟨(by show 4 ≤ sizeLine; decide), fun l0 n0 => ?_⟩
      have X4 := X13.new (o := .lst [.int 0, .int 2, .int 4, .int 6]) n0
      refine ⟨_, rfl, p, a, 4, rfl, by decide, by decide, X4.pool, fun u2 H5 hu2 X5 k5 => ?_⟩
      have hl5 : H5 l0 = some (.lst [.int 0, .int 2, .int 4, .int 6]) := by rw [k5 _ (X13.pool.ne n0)]; exact upd_same
      have l0c : c ≠ l0 := fun z => by rw [z, n0] at hc3; cases hc3
      have hc5 : H5 c = some (.lst (strV r.lines)) := by rw [k5 _ cp, upd_ne l0c]; exact hc3
      obtain ⟨wd, hwd, hwd2⟩ : ∃ wd : Nat, ([.int 0, .int 2, .int 4, .int 6] : List V)[u2]? = some (.int (wd : Nat)) ∧ (wd = 0 ∨ wd = 2 ∨ wd = 4 ∨ wd = 6) := by
        match u2, hu2 with
        | 0, _ => exact ⟨0, rfl, .inl rfl⟩
        | 1, _ => exact ⟨2, rfl, .inr (.inl rfl)⟩
        | 2, _ => exact ⟨4, rfl, .inr (.inr (.inl rfl))⟩
        | 3, _ => exact ⟨6, rfl, .inr (.inr (.inr rfl))⟩
        | n + 4, h => exact absurd h (by omega)
      refine ⟨_, _, _, _, rfl, rfl, SqL.of hl5, at_of (j := u2) rfl hwd, _, rfl, _, rfl, (by show 4 ≤ sizeLine; decide), fun l1 n1 => ?_⟩
      have X6 := (X4.trans X5).new (o := .lst (badW.map fun n => V.str (mk n))) n1
      refine ⟨_, rfl, p, a, 4, rfl, by decide, by decide, X6.pool, fun u H6 hu X7 k6 => ?_⟩
      have hl6 : H6 l1 = some (.lst (badW.map fun n => V.str (mk n))) := by rw [k6 _ (X5.pool.ne n1)]; exact upd_same
      have l1c : c ≠ l1 := fun z => by rw [z, n1] at hc5; cases hc5
      have hc6 : H6 c = some (.lst (strV r.lines)) := by rw [k6 _ cp, upd_ne l1c]; exact hc5
      obtain ⟨o, ho, hoB⟩ := itemL (L := badW) (v := u) (by show u < 4; omega)
      refine ⟨_, _, _, _, rfl, rfl, SqL.of hl6, at_of (j := u) rfl (by rw [List.getElem?_map, ho]; rfl), ?_⟩
      have hol : o.length ≤ 100 := (by decide +kernel : ∀ o ∈ badW, o.length ≤ 100) o hoB
      exact useRow (E := E0) B hc6 hx0 (wd := wd) (by omega) rfl rfl hol fun c' H' e h => q c' _ _ ((X6.trans X7).more e) h (form13 B hx0 hoB hwd2)
    | n + 14, h => exact absurd h (by omega)
end
end G
namespace G
open PySem PySem.Spec PyProof.Rows L2 Evl TL
theorem textOf_app (a b : List (List Nat)) : textOf (a ++ b) = textOf a ++ textOf b := by unfold textOf; rw [List.map_append, List.flatten_append]
theorem textOf_mem {l : List Nat} : ∀ {ls : List (List Nat)}, l ∈ ls → l.length ≤ (textOf ls).length
  | x :: ls, h => by
    have e : textOf (x :: ls) = (x ++ [10]) ++ textOf ls := rfl
    rw [e, List.length_append, List.length_append]
    rcases List.mem_cons.mp h with z | z
    · rw [z]; omega
    · have := textOf_mem z; omega
theorem textOf_few : ∀ ls : List (List Nat), ls.length ≤ (textOf ls).length
  | [] => Nat.zero_le _
  | x :: ls => by
    have := textOf_few ls
    have e : textOf (x :: ls) = (x ++ [10]) ++ textOf ls := rfl
    have e2 : ([10] : List Nat).length = 1 := rfl
    rw [e, List.length_append, List.length_append, List.length_cons, e2]; omega
theorem textOf_sum : ∀ ls : List (List Nat), (((ls.map (· ++ [10])).map mk).map fun x => x.length).sum = (textOf ls).length
  | [] => rfl
  | x :: ls => by
    have e : textOf (x :: ls) = (x ++ [10]) ++ textOf ls := rfl
    rw [e, List.length_append, List.map_cons, List.map_cons, List.map_cons, List.sum_cons, textOf_sum ls, mk_len]
section
variable {r : RepR}
theorem base_text (r : RepR) : r.text = textOf r.lines := rfl
theorem rep_end (r : RepR) : ∃ X, r.text = X ++ [10] := by
  refine ⟨textOf (headR r :: r.rows.map rowLR) ++ verdL r.clean, ?_⟩
  have e : r.lines = (headR r :: r.rows.map rowLR) ++ [verdL r.clean] := rfl
  rw [base_text, e, textOf_app, List.append_assoc]
  unfold textOf
  simp
theorem norep_more (B : BaseR r) : NoRep (r.text ++ [10]) := by
  have e : r.text ++ [10] = textOf (r.lines ++ [[]]) := by rw [textOf_app]; rfl
  obtain ⟨hll, hok⟩ := base_line B
  rw [e]
  refine norep_of (by simp) (by rw [List.length_append]; show _ + 1 ≤ 20; omega) (fun l h => ?_) fun r' h' e' => ?_
  · rcases List.mem_append.mp h with z | z
    · exact hok l z
    · rw [List.mem_singleton.mp z]; exact ⟨List.not_mem_nil, by decide, fun _ h => nomatch h⟩
  · have e2 : r.lines ++ [[]] = (headR r' :: r'.rows.map rowLR) ++ [verdL r'.clean] := e'
    obtain ⟨_, e3⟩ := List.append_inj' e2 rfl
    injection e3 with e3 _
    cases hc : r'.clean <;> rw [hc] at e3 <;> exact absurd e3 (by decide +kernel)
theorem norep_less (B : BaseR r) {X : List Nat} (e : r.text = X ++ [10]) : NoRep X := by
  obtain ⟨hll, hok⟩ := base_line B
  have hlen := textOf_len r.lines 2000 fun l hl => (hok l hl).2.1
  have hm : r.lines.length * (2000 + 1) ≤ 6 * 2001 := Nat.mul_le_mul_right _ hll
  have hX : X.length + 1 = r.text.length := by rw [e, List.length_append]; rfl
  have hcl : r.clean = false := by obtain ⟨_, _, _, _, h⟩ := base_ls B; exact h
  have eX : X = (textOf (headR r :: r.rows.map rowLR) ++ tl ("not clea" : Str)) ++ [110] := by
    have e1 : r.lines = (headR r :: r.rows.map rowLR) ++ [verdL r.clean] := rfl
    have e2 : r.text = ((textOf (headR r :: r.rows.map rowLR) ++ tl ("not clea" : Str)) ++ [110]) ++ [10] := by
      rw [base_text, e1, textOf_app, hcl]
      have : textOf [verdL false] = tl ("not clea" : Str) ++ [110] ++ [10] := by decide +kernel
      rw [this]; simp
    exact (List.append_inj' (e.symm.trans e2) rfl).1
  have no10 : ∀ Y, X ≠ Y ++ [10] := fun Y h => by
    rw [eX] at h
    exact absurd (List.append_inj' h rfl).2 (by decide)
  have hlX : X.length ≤ 50000 := by rw [base_text] at hX; omega
  refine ⟨hlX, fun c hc => ?_, fun ls h => ?_, fun r' h => ?_⟩
  · exact textOf_small (ls := r.lines) (fun l hl => (hok l hl).2.2) c (by rw [← base_text, e]; exact List.mem_append_left _ hc)
  · rcases h with ⟨x, xs, _, q, _⟩ | ⟨q, _⟩
    · exact absurd q (no10 _)
    · rw [q]; decide
  · obtain ⟨Y, hY⟩ := rep_end r'
    have := h.2.2.2.2.2
    exact no10 Y (this.trans hY)
theorem base_few (B : BaseR r) : r.text.length ≤ 50000 ∧ (∀ c ∈ r.text, c < 200) ∧ ∀ ls, IsLines r.text ls → ls.length ≤ 60 := by
  obtain ⟨hll, hok⟩ := base_line B
  have hlen := textOf_len r.lines 2000 fun l hl => (hok l hl).2.1
  have hm : r.lines.length * (2000 + 1) ≤ 6 * 2001 := Nat.mul_le_mul_right _ hll
  refine ⟨by rw [base_text]; omega, textOf_small fun l hl => (hok l hl).2.2, fun ls h => ?_⟩
  have := text_lines h (base_rep B)
  rw [this]; omega
end
section
variable {P : Program} {w : World} {K : PySem.W.Frag} {mg : Str → Option Value} {base : Heap}
def spLaw (K : PySem.W.Frag) : Sp := fun vs H Q _ => ∃ (a : Addr) (ns : List Int), vs = [.ref a] ∧ SqL K H a (ns.map V.int) ∧ ns.length ≤ 63 ∧ ∀ H', Q (.bl true) H'
theorem sc_law : FnScope ["script", "pool", "turn", "lines", "text", "report", "line"] ["script"] (defScope s_law) := ⟨rfl, rfl, rfl, by decide +kernel, rfl, by decide +kernel, by decide +kernel⟩
theorem fn_law {B : Addr} {f : Addr} {fd : FuncData} (F : Fun K "law" "law" s_law f fd) (T : TxtS mg)
    (C1 : Has P w K mg base 1 "_law_pool" ["script"] (spPool K)) (C2 : Has P w K mg base 4 "_law_lines" ["pool"] spLinesB) (C3 : Has P w K mg base 4 "_law_spoilt" ["pool", "lines"] spSpoilt) (C4 : Has P w K mg base 6 "_law_refused" ["text"] spRefused)
    (C5 : HasX P w K mg base 5 "read_report" ["text"] (spRepG B)) : FnOk P w K mg base CX0 7 f fd ["script"] (spLaw K) := by
  obtain ⟨f_law_pool, d_law_pool, G_law_pool, g_law_pool, k_law_pool, b_law_pool⟩ := C1
  obtain ⟨f_law_lines, d_law_lines, G_law_lines, g_law_lines, k_law_lines, b_law_lines⟩ := C2
  obtain ⟨f_law_spoilt, d_law_spoilt, G_law_spoilt, g_law_spoilt, k_law_spoilt, b_law_spoilt⟩ := C3
  obtain ⟨f_law_refused, d_law_refused, G_law_refused, g_law_refused, k_law_refused, b_law_refused⟩ := C4
  obtain ⟨f_read_report, d_read_report, G_read_report, g_read_report, k_read_report, b_read_report⟩ := C5
  refine F.ok sc_law (fun vs H Q E h => ?_) (fun cdv A outer s H vs Q E hr h => ?_)
  · obtain ⟨a, ns, rfl, _⟩ := h
    rfl
  · obtain ⟨sa, ns, rfl, hs, hn, q⟩ := h
    refine ⟨_, (pss_cons (ps_set (i := 1) sc_law.nd rfl (.inl rfl) (pe_call G_law_pool (hr.mono (by omega)) (by rfl) g_law_pool k_law_pool b_law_pool .nil pass0 (pa_cons (pv 0) pa_nil)))
    (pss_cons (ps_for PassesOwn.never rfl (pi_range1 rfl T.range (pa_cons pe_int pa_nil)) (pg_name (i := 2) sc_law.nd rfl (.inl rfl))
      (pss_cons (ps_set (i := 3) sc_law.nd rfl (.inl rfl) (pe_call G_law_lines (hr.mono (by omega)) (by rfl) g_law_lines k_law_lines b_law_lines .nil pass0 (pa_cons (pv 1) pa_nil)))
      (pss_cons (ps_set (i := 4) sc_law.nd rfl (.inl rfl) (pe_join pe_str (pe_lc (own := [("line", 6)]) (g := gName 6) (tt := tYes) rfl sc_law.nd (pi_list (pv 3)) (blkOk_by (N := ["script", "pool", "turn", "lines", "text", "report", "line"]) (sc := defScope s_law) (own := [("line", 6)]) (by decide +kernel)) (fun _ _ _ _ _ => (pg_name (i := 6) sc_law.nd rfl (.inl rfl))) (fun _ _ _ _ _ => pts_nil) (fun _ _ _ _ _ => (pe_op op_add_str (pv 6) pe_str)))))
      (pss_cons (ps_set (i := 5) sc_law.nd rfl (.inl rfl) (pe_call G_read_report (hr.mono (by omega)) (by rfl) g_read_report k_read_report b_read_report .nil passX0 (pa_cons (pv 4) pa_nil)))
      (pss_cons (ps_if (PW.pt (pw_or (pt_not (pt_val (pe_callB call_isi (by rfl) T.isinstance (by decide +kernel) (pa_cons (pv 5) (pa_cons (pe_bltn (v := .ty "tuple") (by rfl) T.tuple (by decide +kernel) rfl) pa_nil))))) (pw_or1 (pt_cmpR op_ne (pe_callB call_len_seq (by rfl) T.len (by decide +kernel) (pa_cons (pe_ix ix_tup (pv 5) pe_int (fun _ _ => rfl)) pa_nil)) (pe_op op_sub (pe_callB call_len_seq (by rfl) T.len (by decide +kernel) (pa_cons (pv 3) pa_nil)) pe_int) (nomark _)))))
        (pss_one (ps_ret pe_bl))
        pss_nil)
      (pss_cons (ps_if (pt_not (pt_val (pe_call G_law_refused (hr.mono (by omega)) (by rfl) g_law_refused k_law_refused b_law_refused .nil pass0 (pa_cons (pe_join pe_str (pe_lc (own := [("line", 6)]) (g := gName 6) (tt := tYes) rfl sc_law.nd (pi_list (pe_call G_law_spoilt (hr.mono (by omega)) (by rfl) g_law_spoilt k_law_spoilt b_law_spoilt .nil pass0 (pa_cons (pv 1) (pa_cons (pv 3) pa_nil)))) (blkOk_by (N := ["script", "pool", "turn", "lines", "text", "report", "line"]) (sc := defScope s_law) (own := [("line", 6)]) (by decide +kernel)) (fun _ _ _ _ _ => (pg_name (i := 6) sc_law.nd rfl (.inl rfl))) (fun _ _ _ _ _ => pts_nil) (fun _ _ _ _ _ => (pe_op op_add_str (pv 6) pe_str)))) pa_nil))))
        (pss_one (ps_ret pe_bl))
        pss_nil)
      (pss_one (ps_if (PW.pt (pw_or (pt_not (pt_val (pe_call G_law_refused (hr.mono (by omega)) (by rfl) g_law_refused k_law_refused b_law_refused .nil pass0 (pa_cons (pe_slice sl_str (pv 4) po_none (po_some (pe_un un_neg pe_int))) pa_nil)))) (pw_or (pt_not (pt_val (pe_call G_law_refused (hr.mono (by omega)) (by rfl) g_law_refused k_law_refused b_law_refused .nil pass0 (pa_cons (pe_op op_add_str (pv 4) pe_str) pa_nil)))) (pw_or1 (pt_not (pt_val (pe_call G_law_refused (hr.mono (by omega)) (by rfl) g_law_refused k_law_refused b_law_refused .nil pass0 (pa_cons pe_str pa_nil))))))))
        (pss_one (ps_ret pe_bl))
        pss_nil))))))))
    (pss_one (ps_ret pe_bl)))), ?_⟩
    refine ⟨_, rfl, sa, ns, rfl, hs, by omega, fun p a H0 hp _ _ => ⟨_, rfl, by decide, by decide, for_range (n := ((6 : Nat) : Int).toNat)
      (fun k σ H' => PoolOk p a H' ∧ ∃ y2 y3 y4 y5 y6 : Option V, σ = [some (.ref sa), some (.ref p), y2, y3, y4, y5, y6]) ⟨hp, _, _, _, _, _, rfl⟩ ?_ ?_⟩⟩
    · rintro k σ H1 hk ⟨hp1, y2, y3, y4, y5, y6, rfl⟩
      refine ⟨_, rfl, p, a, rfl, hp1, fun r c H2 B2 X2 hc => ?_⟩
      obtain ⟨hll, hok⟩ := base_line B2
      obtain ⟨hfew1, hfew2, hfew3⟩ := base_few B2
      have hcl : r.clean = false := by obtain ⟨_, _, _, _, h⟩ := base_ls B2; exact h
      have hln : r.lines.length = r.rows.length + 2 := by unfold RepR.lines; rw [List.length_cons, List.length_append, List.length_map]; rfl
      have slen : ∀ l : List (List Nat), (strV l).length = l.length := fun l => by unfold strV; rw [List.length_map]
      have cp : c ≠ p := by
        obtain ⟨_, _, _, _, _, e, _⟩ := X2.pool
        intro z
        rw [z, e] at hc
        unfold RepR.lines strV at hc
        cases hc
      have u1 : ("\n" : Str).length = 1 := by decide +kernel
      have e10 : ∀ l : List Nat, mk l ++ ("\n" : Str) = mk (l ++ [10]) := fun l => mk_app l [10]
      have ejoin : ∀ ls : List (List Nat), ls ≠ [] → Txt.join ("" : Str) ((ls.map (· ++ [10])).map mk) = mk (textOf ls) := fun ls hne => by
        obtain ⟨y, ys, rfl⟩ := List.exists_cons_of_ne_nil hne
        unfold textOf
        rw [List.map_cons, show ("" : Str) = mk [] from rfl, join_mk, joinL_nil]
      have ejoin0 : ∀ ls : List (List Nat), Txt.join ("" : Str) ((ls.map (· ++ [10])).map mk) = mk (textOf ls) := fun ls => by
        cases ls with
        | nil => decide +kernel
        | cons y ys => exact ejoin _ (by simp)
      refine ⟨⟨_, rfl⟩, _, rfl, c, rfl, ⟨_, SqL.of hc⟩, fun R nR => wk_list (K := K) (a := c) (xs := strV r.lines) (fun j H' => Ex H2 H' ∧ H' R = some (.lst (strV ((r.lines.take j).map (· ++ [10]))))) ⟨Ex.new nR, upd_same⟩ (fun j H' _ g => SqL.of (g.1 _ _ hc)) ?_ ?_⟩
      · rintro j y H3 hy ⟨E3, hR⟩
        unfold strV at hy
        rw [List.getElem?_map] at hy
        obtain ⟨l, hl, rfl⟩ := Option.map_eq_some_iff.mp hy
        have hlo := (hok l (List.mem_of_getElem? hl)).2.1
        refine ⟨rfl, tYes_in ?_⟩
        simp only [wipe, _root_.L2.start, List.map_cons, List.map_nil, List.length_cons, List.length_nil, Nat.reduceAdd, Nat.reduceSub, List.replicate_succ, List.replicate_zero, List.cons_append, List.nil_append, List.set_cons_zero, List.set_cons_succ]
        refine ⟨_, rfl, _, _, rfl, rfl, sz_of (by rw [mk_len, u1]; omega), _, hR, ?_, E3.mut nR, ?_⟩
        · rw [slen, List.length_map, List.length_take]; exact sz_lt (by omega)
        · rw [upd_same, take_snoc1 hl, e10]
          unfold strV
          rw [List.map_append, List.map_append]; rfl
      rintro H3 ⟨E3, hR⟩
      rw [slen, List.take_length] at hR
      have hR2 : H3 R = some (.lst (((r.lines.map (· ++ [10])).map mk).map V.str)) := by rw [hR]; unfold strV; rw [List.map_map (g := V.str)]; rfl
      refine ⟨_, R, (r.lines.map (· ++ [10])).map mk, rfl, rfl, .inl (SqL.of hR2), ?_, ?_⟩
      · have hs := sum_len (m := 2001) (r.lines.map (· ++ [10])) fun p hp => by
          obtain ⟨l, hl, rfl⟩ := List.mem_map.mp hp
          have := (hok l hl).2.1
          rw [List.length_append]; show _ + 1 ≤ _; omega
        rw [List.length_map] at hs
        have e1 : ("" : Str).length = 0 := rfl
        rw [e1, Nat.mul_zero]
        have : r.lines.length * 2001 ≤ 6 * 2001 := Nat.mul_le_mul_right _ hll
        omega
      rw [ejoin r.lines (fun z => by rw [z] at hln; simp at hln), ← base_text]
      refine ⟨_, rfl, r.text, rfl, hfew1, hfew2, hfew3, fun r' t H4 hr' E4 ht => ?_, fun hn => (hn r (base_rep B2)).elim⟩
      have hrl : r'.rows.length = r.rows.length := by
        have e := text_lines (lines_textOf (fun z => by rw [z] at hln; simp at hln) fun l hl => (hok l hl).1) hr'
        have := congrArg List.length e
        rw [hln] at this
        unfold RepR.lines at this
        rw [List.length_cons, List.length_append, List.length_map] at this
        have : r.rows.length + 2 = r'.rows.length + 1 + 1 := this
        omega
      obtain ⟨rt, ra, ht1, ht2, hA⟩ := ht
      have hral : (ra.map V.ref).length = r.rows.length := by rw [List.length_map, hA.1, hrl]
      have E24 := E3.trans E4
      have hc4 := E24 _ _ hc
      refine ⟨_, rfl, _, _, _, _, _, rfl, .ty "tuple", .base (.tup ht1), kit_ty (a := "tuple") (r := true) (by decide +kernel), ?_⟩
      refine ⟨_, rfl, iteF ⟨_, rfl, _, _, _, _, rfl, rfl, SqT.of ht1, atI_nat (j := 2) rfl, _, _, rfl, .inr (SqT.of ht2), _, rfl, _, _, rfl, .inl (SqL.of hc4), _, _, rfl, rfl, rfl, _, rfl, iteN ?_ ?_⟩⟩
      · rw [hral, slen, hln]
        have : ((r.rows.length + 2 : Nat) : Int) - 2 = (r.rows.length : Int) := by omega
        show (!decide (V.int (r.rows.length : Int) = V.int (((r.rows.length + 2 : Nat) : Int) - 2))) = false
        rw [this, decide_eq_true rfl]; rfl
      have X24 := X2.more E24
      refine ⟨⟨_, rfl⟩, _, rfl, _, rfl, p, a, c, r, rfl, X24.pool, hc4, B2, fun d ls H5 X5 hd hN => ?_⟩
      refine ⟨d, rfl, ⟨_, SqL.of hd⟩, fun R2 nR2 => wk_list (K := K) (a := d) (xs := strV ls) (fun j H' => Ex H5 H' ∧ H' R2 = some (.lst (strV ((ls.take j).map (· ++ [10]))))) ⟨Ex.new nR2, upd_same⟩ (fun j H' _ g => SqL.of (g.1 _ _ hd)) ?_ ?_⟩
      · rintro j y H6 hy ⟨E6, hR6⟩
        unfold strV at hy
        rw [List.getElem?_map] at hy
        obtain ⟨l, hl, rfl⟩ := Option.map_eq_some_iff.mp hy
        have hlo := textOf_mem (List.mem_of_getElem? hl)
        have hN1 := hN.len
        have hN2 := textOf_few ls
        have hj := (List.getElem?_eq_some_iff.mp hl).1
        refine ⟨rfl, tYes_in ?_⟩
        simp only [wipe, _root_.L2.start, List.map_cons, List.map_nil, List.length_cons, List.length_nil, Nat.reduceAdd, Nat.reduceSub, List.replicate_succ, List.replicate_zero, List.cons_append, List.nil_append, List.set_cons_zero, List.set_cons_succ]
        refine ⟨_, rfl, _, _, rfl, rfl, sz_of (by rw [mk_len, u1]; omega), _, hR6, ?_, E6.mut nR2, ?_⟩
        · rw [slen, List.length_map, List.length_take]; exact sz_lt (by omega)
        · rw [upd_same, take_snoc1 hl, e10]
          unfold strV
          rw [List.map_append, List.map_append]; rfl
      rintro H6 ⟨E6, hR6⟩
      rw [slen, List.take_length] at hR6
      have hR7 : H6 R2 = some (.lst (((ls.map (· ++ [10])).map mk).map V.str)) := by rw [hR6]; unfold strV; rw [List.map_map (g := V.str)]; rfl
      refine ⟨_, R2, (ls.map (· ++ [10])).map mk, rfl, rfl, .inl (SqL.of hR7), ?_, ?_⟩
      · have e1 : ("" : Str).length = 0 := rfl
        have hN1 := hN.len
        rw [e1, Nat.mul_zero, textOf_sum]; omega
      rw [ejoin0 ls]
      refine ⟨_, rfl, hN, fun H7 E7 => ⟨_, rfl, iteF ?_⟩⟩
      obtain ⟨X, eX⟩ := rep_end r
      have lX : X.length + 1 = r.text.length := by rw [eX, List.length_append]; rfl
      refine ⟨_, rfl, _, rfl, _, rfl, _, rfl, sz_of (by rw [mk_len]; omega), ?_⟩
      rw [eX, cut_snoc]
      refine ⟨X, rfl, norep_less B2 eX, fun H8 E8 => ⟨_, rfl, iteF ⟨_, rfl, _, _, rfl, rfl, ?_, ?_⟩⟩⟩
      · rw [mk_len, u1, ← eX]; exact sz_of (by omega)
      rw [← eX, e10]
      refine ⟨_, rfl, norep_more B2, fun H9 E9 => ⟨_, rfl, iteF ⟨[], by rw [show mk ([] : List Nat) = ("" : Str) from rfl]; rfl, norep_nil, fun H10 E10 => ⟨_, rfl, iteF ?_⟩⟩⟩⟩
      exact ⟨X5.pool.kept (E6.trans (E7.trans (E8.trans (E9.trans E10)))), _, _, _, _, _, rfl⟩
    · rintro σ H1 ⟨hp1, y2, y3, y4, y5, y6, rfl⟩
      exact q H1
end
end G
namespace G
open PySem PySem.Spec PyProof.Rows L2
/-- the defs and the built-in names as the top has left them -/
structure All (K : PySem.W.Frag) (mg : Str → Option Value) : Prop where
  d_is_name : Dfd K mg "is_name" s_is_name ["token"]
  d_is_word : Dfd K mg "is_word" s_is_word ["token"]
  d_is_clean_report : Dfd K mg "is_clean_report" s_is_clean_report ["report"]
  d_lines_of : Dfd K mg "lines_of" s_lines_of ["text"]
  d_integer_of : Dfd K mg "integer_of" s_integer_of ["word"]
  d_bit_of : Dfd K mg "bit_of" s_bit_of ["character"]
  d_read_report : Dfd K mg "read_report" s_read_report ["text"]
  d_verdict : Dfd K mg "_verdict" s_verdict ["report"]
  d_read_head : Dfd K mg "_read_head" s_read_head ["line"]
  d_read_row : Dfd K mg "_read_row" s_read_row ["line"]
  d_read_margin : Dfd K mg "_read_margin" s_read_margin ["word"]
  d_read_violation : Dfd K mg "_read_violation" s_read_violation ["words"]
  d_read_vector : Dfd K mg "_read_vector" s_read_vector ["word"]
  d_read_integer : Dfd K mg "_read_integer" s_read_integer ["word"]
  d_uis_name : Dfd K mg "_is_name" s_uis_name ["word"]
  d_check_rows : Dfd K mg "_check_rows" s_check_rows ["rows"]
  d_law_pool : Dfd K mg "_law_pool" s_law_pool ["script"]
  d_law_spread : Dfd K mg "_law_spread" s_law_spread ["cell"]
  d_law_draw : Dfd K mg "_law_draw" s_law_draw ["pool", "many"]
  d_law_word : Dfd K mg "_law_word" s_law_word ["pool"]
  d_law_refused : Dfd K mg "_law_refused" s_law_refused ["text"]
  d_law_lines : Dfd K mg "_law_lines" s_law_lines ["pool"]
  d_law_number : Dfd K mg "_law_number" s_law_number ["pool"]
  d_law_replaced : Dfd K mg "_law_replaced" s_law_replaced ["lines", "at", "word", "other"]
  d_law_spoilt : Dfd K mg "_law_spoilt" s_law_spoilt ["pool", "lines"]
  z_super : mg "super" = none
  z_all : mg "all" = none
  z_len : mg "len" = none
  z_any : mg "any" = none
  z_int : mg "int" = none
  z_str : mg "str" = none
  z_tuple : mg "tuple" = none
  z_set : mg "set" = none
  z_list : mg "list" = none
  z_range : mg "range" = none
  z_isinstance : mg "isinstance" = none
  z_bool : mg "bool" = none
  z_ValueError : mg "ValueError" = none
  c_KEYWORDS : ∃ a, mg "KEYWORDS" = some (.ref a) ∧ ∀ H, SqT K H a [.str "cell", .str "pin", .str "module", .str "gate", .str "part", .str "reg", .str "edge", .str "out", .str "setup", .str "hold", .str "start"]
  c_LETTERS : ∃ t, mg "LETTERS" = some (.str "abcdefghijklmnopqrstuvwxyz" t)
  c_DIGITS : ∃ t, mg "DIGITS" = some (.str "0123456789" t)
  c_RUN_CHARACTERS : ∃ t, mg "RUN_CHARACTERS" = some (.str "abcdefghijklmnopqrstuvwxyz0123456789_" t)
  c_MOST_DIGITS : ∃ t, mg "MOST_DIGITS" = some (.int 60 t)
  i_BadReport : ∃ C : Addr, ExcI K mg "BadReport" C ∧ IsK K mg C "BadReport" true ∧ IsK K mg C "BadRecord" false ∧ IsK K mg C "BadSyntax" false ∧ CatchK K mg C "SignoffError"
end G
namespace G
open PySem PySem.Spec PyProof.Rows L2
theorem glue {P : Program} {w : World} {K : PySem.W.Frag} {mg : Str → Option Value} {base : Heap} (A : All K mg) {f : Addr} {fd : FuncData} (F : Fun K "law" "law" s_law f fd) : FnOk P w K mg base CX0 7 f fd ["script"] (spLaw K) := by
  have TL : TxtL mg := ⟨A.z_int, A.z_len, A.z_list, A.z_range⟩
  have TS : TxtS mg := ⟨A.z_isinstance, A.z_tuple, A.z_list, A.z_len, A.z_range, A.z_bool, A.z_int, A.z_str⟩
  have TW : TxtRW mg := ⟨A.z_all, A.c_LETTERS, A.c_RUN_CHARACTERS⟩
  have T1 : TxtR1 mg := ⟨A.z_len, A.z_any, A.z_int, A.z_str, A.z_tuple, A.c_DIGITS, A.c_MOST_DIGITS⟩
  have TP : TxtP K mg := ⟨A.z_len, A.z_any, A.z_all, A.z_int, A.z_str, A.z_tuple, A.z_set, A.c_KEYWORDS⟩
  obtain ⟨B, UB, bb, br, bs, b4⟩ := A.i_BadReport
  obtain ⟨S, gS, hS⟩ := id b4
  obtain ⟨D1, gD1, hD1⟩ := id br
  obtain ⟨D2, gD2, hD2⟩ := id bs
  have hd := drawX (P := P) (w := w) (base := base) (ok_law_draw A.d_law_draw TL (ok_law_spread A.d_law_spread TL))
  have hw := ok_is_word (P := P) (w := w) (base := base) A.d_is_word TW
  have hlw := ok_law_word A.d_law_word TS hd
  have hi := ok_integer_ofG (P := P) (w := w) (base := base) A.d_integer_of T1
  have hn := ok_uis_nameG A.d_uis_name (ok_is_name A.d_is_name TP hw)
  have hri := ok_read_integerG A.d_read_integer UB.u hi
  have hrv := ok_read_vectorG (P := P) (w := w) (base := base) A.d_read_vector UB.u TP (ok_bit_ofG A.d_bit_of)
  have hvd := ok_verdictG A.d_verdict (ok_is_clean_reportG (P := P) (w := w) (base := base) A.d_is_clean_report TP)
  have hrr := ok_read_reportG A.d_read_report UB.u TP (ok_lines_ofG A.d_lines_of) (ok_read_headG A.d_read_head UB.u TP hri hn) (ok_read_rowG A.d_read_row UB.u TP hn (ok_read_marginG A.d_read_margin hri) (ok_read_violationG A.d_read_violation UB.u TP hri hrv)) (ok_check_rowsG A.d_check_rows UB.u TP) hvd
  exact fn_law F TS (ok_law_pool A.d_law_pool TL) (ok_law_linesB A.d_law_lines TS hd hlw) (ok_law_spoilt A.d_law_spoilt TS hd (ok_law_numberB A.d_law_number hd) (ok_law_replaced A.d_law_replaced))
    (ok_law_refused A.d_law_refused TS UB.u.gC gD1 gD2 gS UB.isc (bb.at_ UB.u.gC) hD1 hD2 hS hrr) hrr
end G
namespace G
open PySem PySem.Spec PyProof.Rows L2
theorem all_mk {l : PySem.W.OpenLaw} {w : World} {K : PySem.W.Frag} {h : Heap} {mg : Str → Option Value} {fa f0 f1 f2 f3 f4 f5 f6 f7 f8 f9 f10 f11 f12 f13 f14 f15 f16 f17 f18 f19 f20 f21 f22 f23 f24 f25 : Addr} (X : K.In h) (G : h.Ns mainGlobals mg) (hfa : mg "law" = some (.ref fa))
    {od0 an0 od1 an1 od2 an2 od3 an3 od4 an4 od5 an5 od6 an6 od7 an7 od8 an8 od9 an9 od10 an10 od11 an11 od12 an12 od13 an13 od14 an14 od15 an15 od16 an16 od17 an17 od18 an18 od19 an19 od20 an20 od21 an21 od22 an22 od23 an23 od24 an24 od25 an25 : Option Addr} {sl0 sl1 sl2 sl3 sl4 sl5 sl6 sl7 sl8 sl9 sl10 sl11 sl12 sl13 sl14 sl15 sl16 sl17 sl18 sl19 sl20 sl21 sl22 sl23 sl24 sl25 : Array (Option Value)} {oc0 kv0 dc0 pm0 cd0 ct0 oc1 kv1 dc1 pm1 cd1 ct1 oc2 kv2 dc2 pm2 cd2 ct2 oc3 kv3 dc3 pm3 cd3 ct3 oc4 kv4 dc4 pm4 cd4 ct4 oc5 kv5 dc5 pm5 cd5 ct5 oc6 kv6 dc6 pm6 cd6 ct6 oc7 kv7 dc7 pm7 cd7 ct7 oc8 kv8 dc8 pm8 cd8 ct8 oc9 kv9 dc9 pm9 cd9 ct9 oc10 kv10 dc10 pm10 cd10 ct10 oc11 kv11 dc11 pm11 cd11 ct11 oc12 kv12 dc12 pm12 cd12 ct12 oc13 kv13 dc13 pm13 cd13 ct13 oc14 kv14 dc14 pm14 cd14 ct14 oc15 kv15 dc15 pm15 cd15 ct15 oc16 kv16 dc16 pm16 cd16 ct16 oc17 kv17 dc17 pm17 cd17 ct17 oc18 kv18 dc18 pm18 cd18 ct18 oc19 kv19 dc19 pm19 cd19 ct19 oc20 kv20 dc20 pm20 cd20 ct20 oc21 kv21 dc21 pm21 cd21 ct21 oc22 kv22 dc22 pm22 cd22 ct22 oc23 kv23 dc23 pm23 cd23 ct23 oc24 kv24 dc24 pm24 cd24 ct24 oc25 kv25 dc25 pm25 cd25 ct25 : Value}
    (a0 : PySem.W.nsIn K mainGlobals "is_name" = some (some (.ref f0))) (l0 : K.lookup f0 = some ⟨oc0, od0, .func (PySem.W.fnOf "is_name" "is_name" (defArgs s_is_name) (defBody s_is_name) (defScope s_is_name) .none kv0 dc0 pm0 an0 cd0 ct0), sl0⟩) (c0 : PySem.W.codeIn K cd0 "is_name" = true) (k0 : PySem.W.keepIn K (.ref f0) = true)
    (a1 : PySem.W.nsIn K mainGlobals "is_word" = some (some (.ref f1))) (l1 : K.lookup f1 = some ⟨oc1, od1, .func (PySem.W.fnOf "is_word" "is_word" (defArgs s_is_word) (defBody s_is_word) (defScope s_is_word) .none kv1 dc1 pm1 an1 cd1 ct1), sl1⟩) (c1 : PySem.W.codeIn K cd1 "is_word" = true) (k1 : PySem.W.keepIn K (.ref f1) = true)
    (a2 : PySem.W.nsIn K mainGlobals "is_clean_report" = some (some (.ref f2))) (l2 : K.lookup f2 = some ⟨oc2, od2, .func (PySem.W.fnOf "is_clean_report" "is_clean_report" (defArgs s_is_clean_report) (defBody s_is_clean_report) (defScope s_is_clean_report) .none kv2 dc2 pm2 an2 cd2 ct2), sl2⟩) (c2 : PySem.W.codeIn K cd2 "is_clean_report" = true) (k2 : PySem.W.keepIn K (.ref f2) = true)
    (a3 : PySem.W.nsIn K mainGlobals "lines_of" = some (some (.ref f3))) (l3 : K.lookup f3 = some ⟨oc3, od3, .func (PySem.W.fnOf "lines_of" "lines_of" (defArgs s_lines_of) (defBody s_lines_of) (defScope s_lines_of) .none kv3 dc3 pm3 an3 cd3 ct3), sl3⟩) (c3 : PySem.W.codeIn K cd3 "lines_of" = true) (k3 : PySem.W.keepIn K (.ref f3) = true)
    (a4 : PySem.W.nsIn K mainGlobals "integer_of" = some (some (.ref f4))) (l4 : K.lookup f4 = some ⟨oc4, od4, .func (PySem.W.fnOf "integer_of" "integer_of" (defArgs s_integer_of) (defBody s_integer_of) (defScope s_integer_of) .none kv4 dc4 pm4 an4 cd4 ct4), sl4⟩) (c4 : PySem.W.codeIn K cd4 "integer_of" = true) (k4 : PySem.W.keepIn K (.ref f4) = true)
    (a5 : PySem.W.nsIn K mainGlobals "bit_of" = some (some (.ref f5))) (l5 : K.lookup f5 = some ⟨oc5, od5, .func (PySem.W.fnOf "bit_of" "bit_of" (defArgs s_bit_of) (defBody s_bit_of) (defScope s_bit_of) .none kv5 dc5 pm5 an5 cd5 ct5), sl5⟩) (c5 : PySem.W.codeIn K cd5 "bit_of" = true) (k5 : PySem.W.keepIn K (.ref f5) = true)
    (a6 : PySem.W.nsIn K mainGlobals "read_report" = some (some (.ref f6))) (l6 : K.lookup f6 = some ⟨oc6, od6, .func (PySem.W.fnOf "read_report" "read_report" (defArgs s_read_report) (defBody s_read_report) (defScope s_read_report) .none kv6 dc6 pm6 an6 cd6 ct6), sl6⟩) (c6 : PySem.W.codeIn K cd6 "read_report" = true) (k6 : PySem.W.keepIn K (.ref f6) = true)
    (a7 : PySem.W.nsIn K mainGlobals "_verdict" = some (some (.ref f7))) (l7 : K.lookup f7 = some ⟨oc7, od7, .func (PySem.W.fnOf "_verdict" "_verdict" (defArgs s_verdict) (defBody s_verdict) (defScope s_verdict) .none kv7 dc7 pm7 an7 cd7 ct7), sl7⟩) (c7 : PySem.W.codeIn K cd7 "_verdict" = true) (k7 : PySem.W.keepIn K (.ref f7) = true)
    (a8 : PySem.W.nsIn K mainGlobals "_read_head" = some (some (.ref f8))) (l8 : K.lookup f8 = some ⟨oc8, od8, .func (PySem.W.fnOf "_read_head" "_read_head" (defArgs s_read_head) (defBody s_read_head) (defScope s_read_head) .none kv8 dc8 pm8 an8 cd8 ct8), sl8⟩) (c8 : PySem.W.codeIn K cd8 "_read_head" = true) (k8 : PySem.W.keepIn K (.ref f8) = true)
    (a9 : PySem.W.nsIn K mainGlobals "_read_row" = some (some (.ref f9))) (l9 : K.lookup f9 = some ⟨oc9, od9, .func (PySem.W.fnOf "_read_row" "_read_row" (defArgs s_read_row) (defBody s_read_row) (defScope s_read_row) .none kv9 dc9 pm9 an9 cd9 ct9), sl9⟩) (c9 : PySem.W.codeIn K cd9 "_read_row" = true) (k9 : PySem.W.keepIn K (.ref f9) = true)
    (a10 : PySem.W.nsIn K mainGlobals "_read_margin" = some (some (.ref f10))) (l10 : K.lookup f10 = some ⟨oc10, od10, .func (PySem.W.fnOf "_read_margin" "_read_margin" (defArgs s_read_margin) (defBody s_read_margin) (defScope s_read_margin) .none kv10 dc10 pm10 an10 cd10 ct10), sl10⟩) (c10 : PySem.W.codeIn K cd10 "_read_margin" = true) (k10 : PySem.W.keepIn K (.ref f10) = true)
    (a11 : PySem.W.nsIn K mainGlobals "_read_violation" = some (some (.ref f11))) (l11 : K.lookup f11 = some ⟨oc11, od11, .func (PySem.W.fnOf "_read_violation" "_read_violation" (defArgs s_read_violation) (defBody s_read_violation) (defScope s_read_violation) .none kv11 dc11 pm11 an11 cd11 ct11), sl11⟩) (c11 : PySem.W.codeIn K cd11 "_read_violation" = true) (k11 : PySem.W.keepIn K (.ref f11) = true)
    (a12 : PySem.W.nsIn K mainGlobals "_read_vector" = some (some (.ref f12))) (l12 : K.lookup f12 = some ⟨oc12, od12, .func (PySem.W.fnOf "_read_vector" "_read_vector" (defArgs s_read_vector) (defBody s_read_vector) (defScope s_read_vector) .none kv12 dc12 pm12 an12 cd12 ct12), sl12⟩) (c12 : PySem.W.codeIn K cd12 "_read_vector" = true) (k12 : PySem.W.keepIn K (.ref f12) = true)
    (a13 : PySem.W.nsIn K mainGlobals "_read_integer" = some (some (.ref f13))) (l13 : K.lookup f13 = some ⟨oc13, od13, .func (PySem.W.fnOf "_read_integer" "_read_integer" (defArgs s_read_integer) (defBody s_read_integer) (defScope s_read_integer) .none kv13 dc13 pm13 an13 cd13 ct13), sl13⟩) (c13 : PySem.W.codeIn K cd13 "_read_integer" = true) (k13 : PySem.W.keepIn K (.ref f13) = true)
    (a14 : PySem.W.nsIn K mainGlobals "_is_name" = some (some (.ref f14))) (l14 : K.lookup f14 = some ⟨oc14, od14, .func (PySem.W.fnOf "_is_name" "_is_name" (defArgs s_uis_name) (defBody s_uis_name) (defScope s_uis_name) .none kv14 dc14 pm14 an14 cd14 ct14), sl14⟩) (c14 : PySem.W.codeIn K cd14 "_is_name" = true) (k14 : PySem.W.keepIn K (.ref f14) = true)
    (a15 : PySem.W.nsIn K mainGlobals "_check_rows" = some (some (.ref f15))) (l15 : K.lookup f15 = some ⟨oc15, od15, .func (PySem.W.fnOf "_check_rows" "_check_rows" (defArgs s_check_rows) (defBody s_check_rows) (defScope s_check_rows) .none kv15 dc15 pm15 an15 cd15 ct15), sl15⟩) (c15 : PySem.W.codeIn K cd15 "_check_rows" = true) (k15 : PySem.W.keepIn K (.ref f15) = true)
    (a16 : PySem.W.nsIn K mainGlobals "_law_pool" = some (some (.ref f16))) (l16 : K.lookup f16 = some ⟨oc16, od16, .func (PySem.W.fnOf "_law_pool" "_law_pool" (defArgs s_law_pool) (defBody s_law_pool) (defScope s_law_pool) .none kv16 dc16 pm16 an16 cd16 ct16), sl16⟩) (c16 : PySem.W.codeIn K cd16 "_law_pool" = true) (k16 : PySem.W.keepIn K (.ref f16) = true)
    (a17 : PySem.W.nsIn K mainGlobals "_law_spread" = some (some (.ref f17))) (l17 : K.lookup f17 = some ⟨oc17, od17, .func (PySem.W.fnOf "_law_spread" "_law_spread" (defArgs s_law_spread) (defBody s_law_spread) (defScope s_law_spread) .none kv17 dc17 pm17 an17 cd17 ct17), sl17⟩) (c17 : PySem.W.codeIn K cd17 "_law_spread" = true) (k17 : PySem.W.keepIn K (.ref f17) = true)
    (a18 : PySem.W.nsIn K mainGlobals "_law_draw" = some (some (.ref f18))) (l18 : K.lookup f18 = some ⟨oc18, od18, .func (PySem.W.fnOf "_law_draw" "_law_draw" (defArgs s_law_draw) (defBody s_law_draw) (defScope s_law_draw) .none kv18 dc18 pm18 an18 cd18 ct18), sl18⟩) (c18 : PySem.W.codeIn K cd18 "_law_draw" = true) (k18 : PySem.W.keepIn K (.ref f18) = true)
    (a19 : PySem.W.nsIn K mainGlobals "_law_word" = some (some (.ref f19))) (l19 : K.lookup f19 = some ⟨oc19, od19, .func (PySem.W.fnOf "_law_word" "_law_word" (defArgs s_law_word) (defBody s_law_word) (defScope s_law_word) .none kv19 dc19 pm19 an19 cd19 ct19), sl19⟩) (c19 : PySem.W.codeIn K cd19 "_law_word" = true) (k19 : PySem.W.keepIn K (.ref f19) = true)
    (a20 : PySem.W.nsIn K mainGlobals "_law_refused" = some (some (.ref f20))) (l20 : K.lookup f20 = some ⟨oc20, od20, .func (PySem.W.fnOf "_law_refused" "_law_refused" (defArgs s_law_refused) (defBody s_law_refused) (defScope s_law_refused) .none kv20 dc20 pm20 an20 cd20 ct20), sl20⟩) (c20 : PySem.W.codeIn K cd20 "_law_refused" = true) (k20 : PySem.W.keepIn K (.ref f20) = true)
    (a21 : PySem.W.nsIn K mainGlobals "_law_lines" = some (some (.ref f21))) (l21 : K.lookup f21 = some ⟨oc21, od21, .func (PySem.W.fnOf "_law_lines" "_law_lines" (defArgs s_law_lines) (defBody s_law_lines) (defScope s_law_lines) .none kv21 dc21 pm21 an21 cd21 ct21), sl21⟩) (c21 : PySem.W.codeIn K cd21 "_law_lines" = true) (k21 : PySem.W.keepIn K (.ref f21) = true)
    (a22 : PySem.W.nsIn K mainGlobals "_law_number" = some (some (.ref f22))) (l22 : K.lookup f22 = some ⟨oc22, od22, .func (PySem.W.fnOf "_law_number" "_law_number" (defArgs s_law_number) (defBody s_law_number) (defScope s_law_number) .none kv22 dc22 pm22 an22 cd22 ct22), sl22⟩) (c22 : PySem.W.codeIn K cd22 "_law_number" = true) (k22 : PySem.W.keepIn K (.ref f22) = true)
    (a23 : PySem.W.nsIn K mainGlobals "_law_replaced" = some (some (.ref f23))) (l23 : K.lookup f23 = some ⟨oc23, od23, .func (PySem.W.fnOf "_law_replaced" "_law_replaced" (defArgs s_law_replaced) (defBody s_law_replaced) (defScope s_law_replaced) .none kv23 dc23 pm23 an23 cd23 ct23), sl23⟩) (c23 : PySem.W.codeIn K cd23 "_law_replaced" = true) (k23 : PySem.W.keepIn K (.ref f23) = true)
    (a24 : PySem.W.nsIn K mainGlobals "_law_spoilt" = some (some (.ref f24))) (l24 : K.lookup f24 = some ⟨oc24, od24, .func (PySem.W.fnOf "_law_spoilt" "_law_spoilt" (defArgs s_law_spoilt) (defBody s_law_spoilt) (defScope s_law_spoilt) .none kv24 dc24 pm24 an24 cd24 ct24), sl24⟩) (c24 : PySem.W.codeIn K cd24 "_law_spoilt" = true) (k24 : PySem.W.keepIn K (.ref f24) = true)
    (a25 : PySem.W.nsIn K mainGlobals "law" = some (some (.ref f25))) (l25 : K.lookup f25 = some ⟨oc25, od25, .func (PySem.W.fnOf "law" "law" (defArgs s_law) (defBody s_law) (defScope s_law) .none kv25 dc25 pm25 an25 cd25 ct25), sl25⟩) (c25 : PySem.W.codeIn K cd25 "law" = true) (k25 : PySem.W.keepIn K (.ref f25) = true)
    {ca0 : Addr} {cdd0 : Option Addr} {cn0 : Nat} {csl0 : Array (Option Value)} {ct0_0 ct0_1 ct0_2 ct0_3 ct0_4 ct0_5 ct0_6 ct0_7 ct0_8 ct0_9 ct0_10 : Tok} (g0 : PySem.W.nsIn K mainGlobals "KEYWORDS" = some (some (.ref ca0))) (h0 : K.lookup ca0 = some ⟨.type "tuple", cdd0, .seq #[.str "cell" ct0_0, .str "pin" ct0_1, .str "module" ct0_2, .str "gate" ct0_3, .str "part" ct0_4, .str "reg" ct0_5, .str "edge" ct0_6, .str "out" ct0_7, .str "setup" ct0_8, .str "hold" ct0_9, .str "start" ct0_10] cn0, csl0⟩)
    {ct1 : Tok} (g1 : PySem.W.nsIn K mainGlobals "LETTERS" = some (some (.str "abcdefghijklmnopqrstuvwxyz" ct1)))
    {ct2 : Tok} (g2 : PySem.W.nsIn K mainGlobals "DIGITS" = some (some (.str "0123456789" ct2)))
    {ct3 : Tok} (g3 : PySem.W.nsIn K mainGlobals "RUN_CHARACTERS" = some (some (.str "abcdefghijklmnopqrstuvwxyz0123456789_" ct3)))
    {ct4 : Tok} (g4 : PySem.W.nsIn K mainGlobals "MOST_DIGITS" = some (some (.int 60 ct4)))
    {iC0 iD0_0 iD0_1 iD0_2 iD0_3 : Addr} (w0_0 : PySem.W.nsIn K mainGlobals "BadReport" = some (some (.ref iC0))) (w0_1 : PySem.W.excIn K iC0 [.type "ValueError", .type "Exception", .type "BaseException", .type "object"] "ValueError.__new__" = true) (w0_2 : PySem.W.keepIn K (.ref iC0) = true) (w0_3 : PySem.W.subIn K (.ref iC0) (.type "BaseException") = some true) (w0_4 : PySem.W.typeIn K (.ref iC0) = some (.type "type")) (w0_5 : PySem.W.hasDictIn K iC0 = true) (w0_6 : PySem.W.subIn K (.ref iC0) (.ref iC0) = some true) (w0_7 : PySem.W.findIn K (.ref iC0) "__getattribute__" = some (some (.builtin "BaseException.__getattribute__"))) (w0_8 : PySem.W.findIn K (.ref iC0) "__getattr__" = some none) (w0_9 : PySem.W.findIn K (.ref iC0) "__class__" = some (some (.builtin "object.__class__"))) (w0_10 : PySem.W.specialIn K (.builtin "object.__class__") "__get__" = some (some (.builtin "getset_descriptor.__get__"))) (w0_11 : PySem.W.takesIn K (.builtin "object.__class__") = some true) (w0_12 : PySem.W.mroIn K iC0 (.type "object") = some true) (w0_13 : PySem.W.nsIn K mainGlobals "BadReport" = some (some (.ref iD0_0))) (w0_14 : PySem.W.kitOne K (.ref iC0) (.ref iD0_0) = some true) (w0_15 : PySem.W.nsIn K mainGlobals "BadRecord" = some (some (.ref iD0_1))) (w0_16 : PySem.W.kitOne K (.ref iC0) (.ref iD0_1) = some false) (w0_17 : PySem.W.nsIn K mainGlobals "BadSyntax" = some (some (.ref iD0_2))) (w0_18 : PySem.W.kitOne K (.ref iC0) (.ref iD0_2) = some false) (w0_19 : PySem.W.nsIn K mainGlobals "SignoffError" = some (some (.ref iD0_3))) (w0_20 : PySem.W.subIn K (.ref iD0_3) (.type "BaseException") = some true) (w0_21 : PySem.W.hasDictIn K iD0_3 = true) (w0_22 : PySem.W.typeIn K (.ref iD0_3) = some (.type "type")) (w0_23 : PySem.W.subIn K (.ref iC0) (.ref iD0_3) = some true)
    (z0 : PySem.W.nsIn K mainGlobals "super" = some none) (z1 : PySem.W.nsIn K mainGlobals "all" = some none) (z2 : PySem.W.nsIn K mainGlobals "len" = some none) (z3 : PySem.W.nsIn K mainGlobals "any" = some none) (z4 : PySem.W.nsIn K mainGlobals "int" = some none) (z5 : PySem.W.nsIn K mainGlobals "str" = some none) (z6 : PySem.W.nsIn K mainGlobals "tuple" = some none) (z7 : PySem.W.nsIn K mainGlobals "set" = some none) (z8 : PySem.W.nsIn K mainGlobals "list" = some none) (z9 : PySem.W.nsIn K mainGlobals "range" = some none) (z10 : PySem.W.nsIn K mainGlobals "isinstance" = some none) (z11 : PySem.W.nsIn K mainGlobals "bool" = some none) (z12 : PySem.W.nsIn K mainGlobals "ValueError" = some none) :
    ∃ fd : FuncData, (∀ (s : Shared) (v : Value), BindsTo s fd ⟨[v], []⟩ [("script", v)]) ∧ ∀ base : Heap, K.In base → base.Ns mainGlobals mg → FnOk l.prog w K mg base CX0 7 fa fd ["script"] (spLaw K) := by
  have e := hfa.symm.trans (PySem.W.mg_of X G a25)
  cases e
  have F0 := fun_mk (st := s_is_name) l0 c0 k0
  have F1 := fun_mk (st := s_is_word) l1 c1 k1
  have F2 := fun_mk (st := s_is_clean_report) l2 c2 k2
  have F3 := fun_mk (st := s_lines_of) l3 c3 k3
  have F4 := fun_mk (st := s_integer_of) l4 c4 k4
  have F5 := fun_mk (st := s_bit_of) l5 c5 k5
  have F6 := fun_mk (st := s_read_report) l6 c6 k6
  have F7 := fun_mk (st := s_verdict) l7 c7 k7
  have F8 := fun_mk (st := s_read_head) l8 c8 k8
  have F9 := fun_mk (st := s_read_row) l9 c9 k9
  have F10 := fun_mk (st := s_read_margin) l10 c10 k10
  have F11 := fun_mk (st := s_read_violation) l11 c11 k11
  have F12 := fun_mk (st := s_read_vector) l12 c12 k12
  have F13 := fun_mk (st := s_read_integer) l13 c13 k13
  have F14 := fun_mk (st := s_uis_name) l14 c14 k14
  have F15 := fun_mk (st := s_check_rows) l15 c15 k15
  have F16 := fun_mk (st := s_law_pool) l16 c16 k16
  have F17 := fun_mk (st := s_law_spread) l17 c17 k17
  have F18 := fun_mk (st := s_law_draw) l18 c18 k18
  have F19 := fun_mk (st := s_law_word) l19 c19 k19
  have F20 := fun_mk (st := s_law_refused) l20 c20 k20
  have F21 := fun_mk (st := s_law_lines) l21 c21 k21
  have F22 := fun_mk (st := s_law_number) l22 c22 k22
  have F23 := fun_mk (st := s_law_replaced) l23 c23 k23
  have F24 := fun_mk (st := s_law_spoilt) l24 c24 k24
  have F25 := fun_mk (st := s_law) l25 c25 k25
  have A : All K mg := ⟨⟨f0, _, F0, PySem.W.mg_of X G a0, F0.binds (ps := ["token"]) fun _ _ _ _ _ _ us hl => match us, hl with | [_], _ => rfl⟩,
    ⟨f1, _, F1, PySem.W.mg_of X G a1, F1.binds (ps := ["token"]) fun _ _ _ _ _ _ us hl => match us, hl with | [_], _ => rfl⟩,
    ⟨f2, _, F2, PySem.W.mg_of X G a2, F2.binds (ps := ["report"]) fun _ _ _ _ _ _ us hl => match us, hl with | [_], _ => rfl⟩,
    ⟨f3, _, F3, PySem.W.mg_of X G a3, F3.binds (ps := ["text"]) fun _ _ _ _ _ _ us hl => match us, hl with | [_], _ => rfl⟩,
    ⟨f4, _, F4, PySem.W.mg_of X G a4, F4.binds (ps := ["word"]) fun _ _ _ _ _ _ us hl => match us, hl with | [_], _ => rfl⟩,
    ⟨f5, _, F5, PySem.W.mg_of X G a5, F5.binds (ps := ["character"]) fun _ _ _ _ _ _ us hl => match us, hl with | [_], _ => rfl⟩,
    ⟨f6, _, F6, PySem.W.mg_of X G a6, F6.binds (ps := ["text"]) fun _ _ _ _ _ _ us hl => match us, hl with | [_], _ => rfl⟩,
    ⟨f7, _, F7, PySem.W.mg_of X G a7, F7.binds (ps := ["report"]) fun _ _ _ _ _ _ us hl => match us, hl with | [_], _ => rfl⟩,
    ⟨f8, _, F8, PySem.W.mg_of X G a8, F8.binds (ps := ["line"]) fun _ _ _ _ _ _ us hl => match us, hl with | [_], _ => rfl⟩,
    ⟨f9, _, F9, PySem.W.mg_of X G a9, F9.binds (ps := ["line"]) fun _ _ _ _ _ _ us hl => match us, hl with | [_], _ => rfl⟩,
    ⟨f10, _, F10, PySem.W.mg_of X G a10, F10.binds (ps := ["word"]) fun _ _ _ _ _ _ us hl => match us, hl with | [_], _ => rfl⟩,
    ⟨f11, _, F11, PySem.W.mg_of X G a11, F11.binds (ps := ["words"]) fun _ _ _ _ _ _ us hl => match us, hl with | [_], _ => rfl⟩,
    ⟨f12, _, F12, PySem.W.mg_of X G a12, F12.binds (ps := ["word"]) fun _ _ _ _ _ _ us hl => match us, hl with | [_], _ => rfl⟩,
    ⟨f13, _, F13, PySem.W.mg_of X G a13, F13.binds (ps := ["word"]) fun _ _ _ _ _ _ us hl => match us, hl with | [_], _ => rfl⟩,
    ⟨f14, _, F14, PySem.W.mg_of X G a14, F14.binds (ps := ["word"]) fun _ _ _ _ _ _ us hl => match us, hl with | [_], _ => rfl⟩,
    ⟨f15, _, F15, PySem.W.mg_of X G a15, F15.binds (ps := ["rows"]) fun _ _ _ _ _ _ us hl => match us, hl with | [_], _ => rfl⟩,
    ⟨f16, _, F16, PySem.W.mg_of X G a16, F16.binds (ps := ["script"]) fun _ _ _ _ _ _ us hl => match us, hl with | [_], _ => rfl⟩,
    ⟨f17, _, F17, PySem.W.mg_of X G a17, F17.binds (ps := ["cell"]) fun _ _ _ _ _ _ us hl => match us, hl with | [_], _ => rfl⟩,
    ⟨f18, _, F18, PySem.W.mg_of X G a18, F18.binds (ps := ["pool", "many"]) fun _ _ _ _ _ _ us hl => match us, hl with | [_, _], _ => rfl⟩,
    ⟨f19, _, F19, PySem.W.mg_of X G a19, F19.binds (ps := ["pool"]) fun _ _ _ _ _ _ us hl => match us, hl with | [_], _ => rfl⟩,
    ⟨f20, _, F20, PySem.W.mg_of X G a20, F20.binds (ps := ["text"]) fun _ _ _ _ _ _ us hl => match us, hl with | [_], _ => rfl⟩,
    ⟨f21, _, F21, PySem.W.mg_of X G a21, F21.binds (ps := ["pool"]) fun _ _ _ _ _ _ us hl => match us, hl with | [_], _ => rfl⟩,
    ⟨f22, _, F22, PySem.W.mg_of X G a22, F22.binds (ps := ["pool"]) fun _ _ _ _ _ _ us hl => match us, hl with | [_], _ => rfl⟩,
    ⟨f23, _, F23, PySem.W.mg_of X G a23, F23.binds (ps := ["lines", "at", "word", "other"]) fun _ _ _ _ _ _ us hl => match us, hl with | [_, _, _, _], _ => rfl⟩,
    ⟨f24, _, F24, PySem.W.mg_of X G a24, F24.binds (ps := ["pool", "lines"]) fun _ _ _ _ _ _ us hl => match us, hl with | [_, _], _ => rfl⟩,
    PySem.W.mg_none_of X G z0,
    PySem.W.mg_none_of X G z1,
    PySem.W.mg_none_of X G z2,
    PySem.W.mg_none_of X G z3,
    PySem.W.mg_none_of X G z4,
    PySem.W.mg_none_of X G z5,
    PySem.W.mg_none_of X G z6,
    PySem.W.mg_none_of X G z7,
    PySem.W.mg_none_of X G z8,
    PySem.W.mg_none_of X G z9,
    PySem.W.mg_none_of X G z10,
    PySem.W.mg_none_of X G z11,
    PySem.W.mg_none_of X G z12,
    ⟨ca0, PySem.W.mg_of X G g0, fun _ => .inr ⟨_, _, _, h0, rfl, rfl, (by show 11 ≤ sizeLine; decide), (.cons ⟨_, rfl⟩ (.cons ⟨_, rfl⟩ (.cons ⟨_, rfl⟩ (.cons ⟨_, rfl⟩ (.cons ⟨_, rfl⟩ (.cons ⟨_, rfl⟩ (.cons ⟨_, rfl⟩ (.cons ⟨_, rfl⟩ (.cons ⟨_, rfl⟩ (.cons ⟨_, rfl⟩ (.cons ⟨_, rfl⟩ .nil)))))))))))⟩⟩,
    ⟨_, PySem.W.mg_of X G g1⟩,
    ⟨_, PySem.W.mg_of X G g2⟩,
    ⟨_, PySem.W.mg_of X G g3⟩,
    ⟨_, PySem.W.mg_of X G g4⟩,
    ⟨iC0, ⟨⟨PySem.W.mg_of X G w0_0, w0_1, w0_2, w0_3, w0_4⟩, w0_5, w0_6, ⟨w0_7, w0_8, w0_3, w0_5, w0_9, w0_10, w0_11, w0_12⟩⟩, ⟨iD0_0, PySem.W.mg_of X G w0_13, w0_14⟩, ⟨iD0_1, PySem.W.mg_of X G w0_15, w0_16⟩, ⟨iD0_2, PySem.W.mg_of X G w0_17, w0_18⟩, ⟨iD0_3, PySem.W.mg_of X G w0_19, PySem.W.exm_ref w0_20 w0_21 w0_22 w0_23⟩⟩⟩
  exact ⟨_, fun s v => .of_eq rfl, fun base _ _ => glue A F25⟩
end G
open PySem PySem.W PyProof.Rows
set_option maxRecDepth 100000 in
set_option maxHeartbeats 0 in
theorem PySem.Challenge.cw_signoff_k72_reports_refused_holds : PySem.Challenge.rw_signoff_k72_reports_refused.Holds := by
  w_on; o_law; k_head; (case hw => w_witness2)
  k_fill
  refine L2.walk_of (l := PySem.Challenge.rw_signoff_k72_reports_refused) (n := 63) (k := 7) (x := "script") (CX := fun _ => L2.CX0) (sp := fun w => G.spLaw _) rfl (by decide) rfl ⟨rfl, by decide, by decide⟩ (fun w h Y => PySem.W.kIn_of Y) ?F (fun _ _ a ns hl _ hS => ⟨a, ns, rfl, hS, hl, fun _ => rfl⟩) (fun _ _ _ _ _ h => h)
  case F =>
    intro w mg fa h KX GN hmg
    refine' G.all_mk KX GN hmg ?a0 ?l0 ?c0 ?k0 ?a1 ?l1 ?c1 ?k1 ?a2 ?l2 ?c2 ?k2 ?a3 ?l3 ?c3 ?k3 ?a4 ?l4 ?c4 ?k4 ?a5 ?l5 ?c5 ?k5 ?a6 ?l6 ?c6 ?k6 ?a7 ?l7 ?c7 ?k7 ?a8 ?l8 ?c8 ?k8 ?a9 ?l9 ?c9 ?k9 ?a10 ?l10 ?c10 ?k10 ?a11 ?l11 ?c11 ?k11 ?a12 ?l12 ?c12 ?k12 ?a13 ?l13 ?c13 ?k13 ?a14 ?l14 ?c14 ?k14 ?a15 ?l15 ?c15 ?k15 ?a16 ?l16 ?c16 ?k16 ?a17 ?l17 ?c17 ?k17 ?a18 ?l18 ?c18 ?k18 ?a19 ?l19 ?c19 ?k19 ?a20 ?l20 ?c20 ?k20 ?a21 ?l21 ?c21 ?k21 ?a22 ?l22 ?c22 ?k22 ?a23 ?l23 ?c23 ?k23 ?a24 ?l24 ?c24 ?k24 ?a25 ?l25 ?c25 ?k25 ?cg0 ?ch0 ?cg1 ?cg2 ?cg3 ?cg4 ?xw0_0 ?xw0_1 ?xw0_2 ?xw0_3 ?xw0_4 ?xw0_5 ?xw0_6 ?xw0_7 ?xw0_8 ?xw0_9 ?xw0_10 ?xw0_11 ?xw0_12 ?xw0_13 ?xw0_14 ?xw0_15 ?xw0_16 ?xw0_17 ?xw0_18 ?xw0_19 ?xw0_20 ?xw0_21 ?xw0_22 ?xw0_23 ?z0 ?z1 ?z2 ?z3 ?z4 ?z5 ?z6 ?z7 ?z8 ?z9 ?z10 ?z11 ?z12
    (case a0 => k_is)
    (case l0 => k_is)
    (case c0 => k_is)
    (case k0 => k_is)
    (case a1 => k_is)
    (case l1 => k_is)
    (case c1 => k_is)
    (case k1 => k_is)
    (case a2 => k_is)
    (case l2 => k_is)
    (case c2 => k_is)
    (case k2 => k_is)
    (case a3 => k_is)
    (case l3 => k_is)
    (case c3 => k_is)
    (case k3 => k_is)
    (case a4 => k_is)
    (case l4 => k_is)
    (case c4 => k_is)
    (case k4 => k_is)
    (case a5 => k_is)
    (case l5 => k_is)
    (case c5 => k_is)
    (case k5 => k_is)
    (case a6 => k_is)
    (case l6 => k_is)
    (case c6 => k_is)
    (case k6 => k_is)
    (case a7 => k_is)
    (case l7 => k_is)
    (case c7 => k_is)
    (case k7 => k_is)
    (case a8 => k_is)
    (case l8 => k_is)
    (case c8 => k_is)
    (case k8 => k_is)
    (case a9 => k_is)
    (case l9 => k_is)
    (case c9 => k_is)
    (case k9 => k_is)
    (case a10 => k_is)
    (case l10 => k_is)
    (case c10 => k_is)
    (case k10 => k_is)
    (case a11 => k_is)
    (case l11 => k_is)
    (case c11 => k_is)
    (case k11 => k_is)
    (case a12 => k_is)
    (case l12 => k_is)
    (case c12 => k_is)
    (case k12 => k_is)
    (case a13 => k_is)
    (case l13 => k_is)
    (case c13 => k_is)
    (case k13 => k_is)
    (case a14 => k_is)
    (case l14 => k_is)
    (case c14 => k_is)
    (case k14 => k_is)
    (case a15 => k_is)
    (case l15 => k_is)
    (case c15 => k_is)
    (case k15 => k_is)
    (case a16 => k_is)
    (case l16 => k_is)
    (case c16 => k_is)
    (case k16 => k_is)
    (case a17 => k_is)
    (case l17 => k_is)
    (case c17 => k_is)
    (case k17 => k_is)
    (case a18 => k_is)
    (case l18 => k_is)
    (case c18 => k_is)
    (case k18 => k_is)
    (case a19 => k_is)
    (case l19 => k_is)
    (case c19 => k_is)
    (case k19 => k_is)
    (case a20 => k_is)
    (case l20 => k_is)
    (case c20 => k_is)
    (case k20 => k_is)
    (case a21 => k_is)
    (case l21 => k_is)
    (case c21 => k_is)
    (case k21 => k_is)
    (case a22 => k_is)
    (case l22 => k_is)
    (case c22 => k_is)
    (case k22 => k_is)
    (case a23 => k_is)
    (case l23 => k_is)
    (case c23 => k_is)
    (case k23 => k_is)
    (case a24 => k_is)
    (case l24 => k_is)
    (case c24 => k_is)
    (case k24 => k_is)
    (case a25 => k_is)
    (case l25 => k_is)
    (case c25 => k_is)
    (case k25 => k_is)
    (case cg0 => k_is)
    (case ch0 => k_is)
    (case cg1 => k_is)
    (case cg2 => k_is)
    (case cg3 => k_is)
    (case cg4 => k_is)
    (case xw0_0 => first | k_exc | k_is | rfl)
    (case xw0_1 => first | k_exc | k_is | rfl)
    (case xw0_2 => first | k_exc | k_is | rfl)
    (case xw0_3 => first | k_exc | k_is | rfl)
    (case xw0_4 => first | k_exc | k_is | rfl)
    (case xw0_5 => first | k_exc | k_is | rfl)
    (case xw0_6 => first | k_exc | k_is | rfl)
    (case xw0_7 => first | k_exc | k_is | rfl)
    (case xw0_8 => first | k_exc | k_is | rfl)
    (case xw0_9 => first | k_exc | k_is | rfl)
    (case xw0_10 => first | k_exc | k_is | rfl)
    (case xw0_11 => first | k_exc | k_is | rfl)
    (case xw0_12 => first | k_exc | k_is | rfl)
    (case xw0_13 => first | k_exc | k_is | rfl)
    (case xw0_14 => first | k_exc | k_is | rfl)
    (case xw0_15 => first | k_exc | k_is | rfl)
    (case xw0_16 => first | k_exc | k_is | rfl)
    (case xw0_17 => first | k_exc | k_is | rfl)
    (case xw0_18 => first | k_exc | k_is | rfl)
    (case xw0_19 => first | k_exc | k_is | rfl)
    (case xw0_20 => first | k_exc | k_is | rfl)
    (case xw0_21 => first | k_exc | k_is | rfl)
    (case xw0_22 => first | k_exc | k_is | rfl)
    (case xw0_23 => first | k_exc | k_is | rfl)
    (case z0 => k_is)
    (case z1 => k_is)
    (case z2 => k_is)
    (case z3 => k_is)
    (case z4 => k_is)
    (case z5 => k_is)
    (case z6 => k_is)
    (case z7 => k_is)
    (case z8 => k_is)
    (case z9 => k_is)
    (case z10 => k_is)
    (case z11 => k_is)
    (case z12 => k_is)
#print axioms PySem.Challenge.cw_signoff_k72_reports_refused_holds
