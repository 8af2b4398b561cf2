import PyProof.Rows.All
import Wide.All
import OpenK.AllK
import Wide.FinOn
import HandS.ForMost
import HandS.Evl
import HandS.Wide
import HandS.WideBits
import HandS.Flow
import HandS.IsInst
import HandS.TupAny
import HandS.Walk
import HandS.Zip
import HandS.Steps
import KE.GoesMore
import KE.GoesEnum
import KE.KEqSeq
import HandS.StrMore
import PyProof.StrLawsFirst
import HandS.DictComp
import HandS.ForExc
import HandS.Small
import HandS.FStr
import HandS.SetKeys
import HandS.Strs
import HandS.ExcIs
import HandS.Style
import HandS.CallSlots
import HandS.Property
import KE.KMinBuiltin
import HandS.DictSub
import HandS.Star
import HandS.Iter
import HandS.SetTxt0
import HandS.Set
import HandS.SetFor
import KE.GoesSet
import HandS.More
import HandS.Defaults
import HandS.Conv
import HandS.TryMany
import KE.SortData
import KE.SortUse
import HandS.TupAny
import HandS.IsInst
import PySem.Challenge.RW_signoff_k45_required_times_and_slacks
set_option Elab.async false
set_option linter.all false
set_option maxRecDepth 100000
set_option maxHeartbeats 4000000
set_option Elab.async false
set_option linter.all false
set_option maxRecDepth 100000
set_option maxHeartbeats 4000000
namespace G
open PySem PySem.Spec PyProof.Rows L2 Evl
/-! ## defs by name -/
def Dfd (K : PySem.W.Frag) (mg : Str → Option Value) (x : Str) (st : Stmt) (ps : List Str) : Prop := ∃ (f : Addr) (fd : FuncData), Fun K x x st f fd ∧ mg x = some (.ref f) ∧ Binds K fd ps []
def Has (P : Program) (w : World) (K : PySem.W.Frag) (mg : Str → Option Value) (base : Heap) (k : Nat) (x : Str) (ps : List Str) (sp : Sp) : Prop :=
  ∃ (f : Addr) (fd : FuncData), FnOk P w K mg base CX0 k f fd ps sp ∧ mg x = some (.ref f) ∧ PySem.W.keepIn K (.ref f) = true ∧ Binds K fd ps []
section
variable {P : Program} {w : World} {K : PySem.W.Frag} {mg : Str → Option Value} {base : Heap}
theorem Dfd.has {x : Str} {st : Stmt} {ps : List Str} {k : Nat} {sp : Sp} (d : Dfd K mg x st ps) (h : ∀ f fd, Fun K x x st f fd → FnOk P w K mg base CX0 k f fd ps sp) : Has P w K mg base k x ps sp := by
  obtain ⟨f, fd, F, g, b⟩ := d
  exact ⟨f, fd, h f fd F, g, F.kp, b⟩
theorem Has.mono {x : Str} {ps : List Str} {j k : Nat} {sp : Sp} (h : Has P w K mg base j x ps sp) (l : j ≤ k) : Has P w K mg base k x ps sp := by
  obtain ⟨f, fd, F, g⟩ := h
  exact ⟨f, fd, F.mono l, g⟩
theorem Has.imp {x : Str} {ps : List Str} {k : Nat} {sp sp' : Sp} (h : Has P w K mg base k x ps sp) (i : ∀ vs H Q E, sp' vs H Q E → sp vs H Q E) : Has P w K mg base k x ps sp' := by
  obtain ⟨f, fd, F, g⟩ := h
  exact ⟨f, fd, F.imp i, g⟩
end
/-! ## heaps -/
theorem sq_ex {K : PySem.W.Frag} {H H' : Hp} {a : Addr} {xs : List V} (e : Ex H H') (h : SqL K H a xs) : SqL K H' a xs := ex_l e h
/-- the heap without what stands at p -/
def hid (p : Addr) (H : Hp) : Hp := fun b => if b = p then none else H b
theorem hid_self {p : Addr} {H : Hp} : hid p H p = none := by unfold hid; rw [if_pos rfl]
theorem hid_ne {p b : Addr} {H : Hp} (h : b ≠ p) : hid p H b = H b := by unfold hid; rw [if_neg h]
theorem hid_get {p b : Addr} {H : Hp} {o : HO} (h : hid p H b = some o) : H b = some o := by
  by_cases e : b = p
  · subst e; rw [hid_self] at h; cases h
  · rw [hid_ne e] at h; exact h
theorem hid_neq {p b : Addr} {H : Hp} {o : HO} (h : hid p H b = some o) : b ≠ p := by
  intro e; subst e; rw [hid_self] at h; cases h
theorem hid_ex {p : Addr} {H : Hp} : Ex (hid p H) H := fun _ _ h => hid_get h
theorem hid_upd {p : Addr} {H : Hp} {o : HO} : hid p (upd H p o) = hid p H := by
  funext b
  by_cases e : b = p
  · subst e; rw [hid_self, hid_self]
  · rw [hid_ne e, hid_ne e, upd_ne e]
theorem hid_upd_ne {p q : Addr} {H : Hp} {o : HO} (h : q ≠ p) : hid p (upd H q o) = upd (hid p H) q o := by
  funext b
  by_cases e2 : b = q
  · subst e2; rw [hid_ne h, upd_same, upd_same]
  · rw [upd_ne e2]
    by_cases e : b = p
    · subst e; rw [hid_self, hid_self]
    · rw [hid_ne e, hid_ne e, upd_ne e2]
theorem hid_none {p b : Addr} {H : Hp} (h : H b = none) : hid p H b = none := by
  unfold hid; split
  · rfl
  · exact h
/-! ## the pool of draws: the list at p, the script's copy at a -/
def PoolOk (p a : Addr) (H : Hp) : Prop := ∃ (ns : List Int) (i : Nat) (c k s : Int), H p = some (.lst [.ref a, .int i, .int c, .int k, .int s]) ∧ hid p H a = some (.lst (ns.map V.int)) ∧ ns.length ≤ 1000
/-- from H to H' all but the pool is kept, and the pool is a pool -/
structure Px (p a : Addr) (H H' : Hp) : Prop where
  was : PoolOk p a H
  pool : PoolOk p a H'
  ex : Ex (hid p H) (hid p H')
section
variable {p a : Addr} {H H1 H2 H' : Hp}
theorem Px.refl (h : PoolOk p a H) : Px p a H H := ⟨h, h, Ex.refl _⟩
theorem Px.trans (x : Px p a H H1) (y : Px p a H1 H2) : Px p a H H2 := ⟨x.was, y.pool, x.ex.trans y.ex⟩
theorem PoolOk.ne {b : Addr} (h : PoolOk p a H) (n : H b = none) : b ≠ p := by
  obtain ⟨_, _, _, _, _, e, _⟩ := h
  exact (ne_of_none e n).symm
theorem PoolOk.ne2 {b : Addr} (h : PoolOk p a H) (n : H b = none) : a ≠ b := by
  obtain ⟨_, _, _, _, _, _, e, _⟩ := h
  exact ne_of_none (hid_get e) n
theorem PoolOk.kept (h : PoolOk p a H) (e : Ex H H') : PoolOk p a H' := by
  obtain ⟨ns, i, c, k, s, h1, h2, h3⟩ := h
  exact ⟨ns, i, c, k, s, e _ _ h1, by rw [hid_ne (hid_neq h2)]; exact e _ _ (hid_get h2), h3⟩
theorem Px.ofEx (h : PoolOk p a H) (e : Ex H H') : Px p a H H' := ⟨h, h.kept e, fun b o hb => by rw [hid_ne (hid_neq hb)]; exact e _ _ (hid_get hb)⟩
theorem Px.more (x : Px p a H H1) (e : Ex H1 H2) : Px p a H H2 := x.trans (Px.ofEx x.pool e)
theorem Px.draw {o : HO} (w : PoolOk p a H) (h : PoolOk p a (upd H p o)) : Px p a H (upd H p o) := ⟨w, h, by rw [hid_upd]; exact Ex.refl _⟩
theorem Px.new (x : Px p a H H1) {l : Addr} {o : HO} (n : H1 l = none) : Px p a H (upd H1 l o) := x.more (Ex.new n)
/-- what H has is kept -/
theorem Px.get (x : Px p a H H1) {b : Addr} {o : HO} (h : hid p H b = some o) : hid p H1 b = some o := x.ex _ _ h
theorem Px.at_ (x : Px p a H H1) {b : Addr} {o : HO} (h : hid p H b = some o) : H1 b = some o := hid_get (x.ex _ _ h)
theorem Px.free (x : Px p a H H1) {b : Addr} (n : H1 b = none) : H b = none := by
  cases e : H b with
  | none => rfl
  | some o =>
    have hb : b ≠ p := x.pool.ne n
    have := x.ex b o (by rw [hid_ne hb]; exact e)
    rw [hid_get this] at n; cases n
/-- an object that H does not have may change -/
theorem Px.mut (x : Px p a H H1) {l : Addr} {o : HO} (n : H l = none) : Px p a H (upd H1 l o) := by
  have hl : l ≠ p := x.was.ne n
  have ha : a ≠ l := x.was.ne2 n
  refine ⟨x.was, ?_, ?_⟩
  · obtain ⟨ns, i, c, k, s, h1, h2, h3⟩ := x.pool
    exact ⟨ns, i, c, k, s, by rw [upd_ne hl.symm]; exact h1, by rw [hid_upd_ne hl, upd_ne ha]; exact h2, h3⟩
  · rw [hid_upd_ne hl]; exact Ex.mut x.ex (hid_none n)
/-- a fresh object stands apart from the pool -/
theorem Px.seen (x : Px p a H H1) {l : Addr} {o : HO} (n : H l = none) (e : H1 l = some o) : hid p H1 l = some o := by
  rw [hid_ne (x.was.ne n)]; exact e
end
end G
namespace G
open PySem PySem.Spec PyProof.Rows L2 Evl
/-! ## comprehensions whose elements are plain values -/
theorem given_all {n : Nat} {v : Nat → V} : given n (fun _ => true) v = (List.range n).map v := by
  unfold given
  rw [List.filter_eq_self.mpr (fun _ _ => rfl)]
section
variable {lo : Int} {n j : Nat} {tt : TT} {te : TE} {vs : List Nat} {σ : L2.St} {H1 : Hp} {D : Addr} {Qd : Hp → Prop} {K : PySem.W.Frag} {a : Addr} {xs : List V}
theorem lc_turn {f : Nat → Bool} {v : Nat → V} {i : Nat} {H : Hp} {σ2 : L2.St} (e : H = upd H1 D (.lst (given i f v))) (hi : i < 100000) (ht : Ans tt σ2 H (f i)) (he : f i = true → Val te σ2 H (v i)) :
    tt σ2 H fun b H3 => if b = true then te σ2 H3 fun y H4 => ∃ acc, H4 D = some (.lst acc) ∧ acc.length < sizeLine ∧ (upd H4 D (.lst (acc ++ [y]))) = upd H1 D (.lst (given (i + 1) f v)) else H3 = upd H1 D (.lst (given (i + 1) f v)) := by
  refine ht _ ?_
  subst e
  cases hf : f i with
  | true =>
    refine iteT (he hf _ ⟨_, upd_same, sz_lt (by have := given_len i f v; omega), ?_⟩)
    rw [given_yes hf, upd_upd]
  | false =>
    refine iteF ?_
    rw [given_no hf]
theorem lcR (f : Nat → Bool) (v : Nat → V) (hn : n ≤ 100000) (hw : ∀ x, wipe ((wipe σ vs).set j (some x)) vs = wipe σ vs)
    (ht : ∀ (i : Nat) (H : Hp), i < n → H = upd H1 D (.lst (given i f v)) → Ans tt ((wipe σ vs).set j (some (.int (lo + i)))) H (f i))
    (he : ∀ (i : Nat) (H : Hp), i < n → H = upd H1 D (.lst (given i f v)) → f i = true → Val te ((wipe σ vs).set j (some (.int (lo + i)))) H (v i)) (q : Qd (upd H1 D (.lst (given n f v)))) :
    ∃ W : Nat → Nat → Hp → Prop, (∃ m, W 0 m (upd H1 D (.lst []))) ∧ ∀ i m H, W i m H →
      ((Itr lo n).stop i H ∧ Qd H) ∨ ((Itr lo n).go i H ∧ ∃ Nx : Hp → Prop, (∀ H', Nx H' → ∃ m', m' < m ∧ W (i + 1) m' H') ∧ ∀ x H', (Itr lo n).yld i H x H' → gName j x (wipe σ vs) H' fun σ2 H2 => wipe σ2 vs = wipe σ vs ∧ tt σ2 H2 fun b H3 =>
        if b = true then te σ2 H3 fun y H4 => ∃ acc, H4 D = some (.lst acc) ∧ acc.length < sizeLine ∧ Nx (upd H4 D (.lst (acc ++ [y]))) else Nx H3) :=
  lc_range (fun i H => H = upd H1 D (.lst (given i f v))) rfl (fun i H hi e => ⟨hw _, lc_turn e (by omega) (ht i H hi e) (he i H hi e)⟩) (fun H e => by rw [e]; exact q)
theorem lcRv (v : Nat → V) (hn : n ≤ 100000) (hw : ∀ x, wipe ((wipe σ vs).set j (some x)) vs = wipe σ vs)
    (he : ∀ (i : Nat) (H : Hp), i < n → H = upd H1 D (.lst (given i (fun _ => true) v)) → Val te ((wipe σ vs).set j (some (.int (lo + i)))) H (v i)) (q : Qd (upd H1 D (.lst ((List.range n).map v)))) :
    ∃ W : Nat → Nat → Hp → Prop, (∃ m, W 0 m (upd H1 D (.lst []))) ∧ ∀ i m H, W i m H →
      ((Itr lo n).stop i H ∧ Qd H) ∨ ((Itr lo n).go i H ∧ ∃ Nx : Hp → Prop, (∀ H', Nx H' → ∃ m', m' < m ∧ W (i + 1) m' H') ∧ ∀ x H', (Itr lo n).yld i H x H' → gName j x (wipe σ vs) H' fun σ2 H2 => wipe σ2 vs = wipe σ vs ∧ tYes σ2 H2 fun b H3 =>
        if b = true then te σ2 H3 fun y H4 => ∃ acc, H4 D = some (.lst acc) ∧ acc.length < sizeLine ∧ Nx (upd H4 D (.lst (acc ++ [y]))) else Nx H3) :=
  lcR (fun _ => true) v hn hw (fun _ _ _ _ => fun _ q => q) (fun i H hi e _ => he i H hi e) (by rw [given_all]; exact q)
theorem lcL (f : Nat → Bool) (v : Nat → V) (hx : SqL K H1 a xs) (hD : H1 D = none) (hn : xs.length ≤ 100000) (hw : ∀ x, wipe ((wipe σ vs).set j (some x)) vs = wipe σ vs)
    (ht : ∀ (i : Nat) (x : V) (H : Hp), xs[i]? = some x → H = upd H1 D (.lst (given i f v)) → Ans tt ((wipe σ vs).set j (some x)) H (f i))
    (he : ∀ (i : Nat) (x : V) (H : Hp), xs[i]? = some x → H = upd H1 D (.lst (given i f v)) → f i = true → Val te ((wipe σ vs).set j (some x)) H (v i)) (q : Qd (upd H1 D (.lst (given xs.length f v)))) :
    ∃ W : Nat → Nat → Hp → Prop, (∃ m, W 0 m (upd H1 D (.lst []))) ∧ ∀ i m H, W i m H →
      ((Itl K a).stop i H ∧ Qd H) ∨ ((Itl K a).go i H ∧ ∃ Nx : Hp → Prop, (∀ H', Nx H' → ∃ m', m' < m ∧ W (i + 1) m' H') ∧ ∀ x H', (Itl K a).yld i H x H' → gName j x (wipe σ vs) H' fun σ2 H2 => wipe σ2 vs = wipe σ vs ∧ tt σ2 H2 fun b H3 =>
        if b = true then te σ2 H3 fun y H4 => ∃ acc, H4 D = some (.lst acc) ∧ acc.length < sizeLine ∧ Nx (upd H4 D (.lst (acc ++ [y]))) else Nx H3) :=
  lc_list (fun i H => H = upd H1 D (.lst (given i f v))) rfl (fun i H hi e => by rw [e]; exact ex_l (Ex.new hD) hx) (fun i x H hi e => ⟨hw _, lc_turn e (by have := (List.getElem?_eq_some_iff.mp hi).1; omega) (ht i x H hi e) (he i x H hi e)⟩) (fun H e => by rw [e]; exact q)
theorem lcT (f : Nat → Bool) (v : Nat → V) (hx : SqT K H1 a xs) (hD : H1 D = none) (hn : xs.length ≤ 100000) (hw : ∀ x, wipe ((wipe σ vs).set j (some x)) vs = wipe σ vs)
    (ht : ∀ (i : Nat) (x : V) (H : Hp), xs[i]? = some x → H = upd H1 D (.lst (given i f v)) → Ans tt ((wipe σ vs).set j (some x)) H (f i))
    (he : ∀ (i : Nat) (x : V) (H : Hp), xs[i]? = some x → H = upd H1 D (.lst (given i f v)) → f i = true → Val te ((wipe σ vs).set j (some x)) H (v i)) (q : Qd (upd H1 D (.lst (given xs.length f v)))) :
    ∃ W : Nat → Nat → Hp → Prop, (∃ m, W 0 m (upd H1 D (.lst []))) ∧ ∀ i m H, W i m H →
      ((Itt K a).stop i H ∧ Qd H) ∨ ((Itt K a).go i H ∧ ∃ Nx : Hp → Prop, (∀ H', Nx H' → ∃ m', m' < m ∧ W (i + 1) m' H') ∧ ∀ x H', (Itt K a).yld i H x H' → gName j x (wipe σ vs) H' fun σ2 H2 => wipe σ2 vs = wipe σ vs ∧ tt σ2 H2 fun b H3 =>
        if b = true then te σ2 H3 fun y H4 => ∃ acc, H4 D = some (.lst acc) ∧ acc.length < sizeLine ∧ Nx (upd H4 D (.lst (acc ++ [y]))) else Nx H3) :=
  lc_tup (fun i H => H = upd H1 D (.lst (given i f v))) rfl (fun i H hi e => by rw [e]; exact ex_t (Ex.new hD) hx) (fun i x H hi e => ⟨hw _, lc_turn e (by have := (List.getElem?_eq_some_iff.mp hi).1; omega) (ht i x H hi e) (he i x H hi e)⟩) (fun H e => by rw [e]; exact q)
theorem lcLm (g : V → V) (hx : SqL K H1 a xs) (hD : H1 D = none) (hn : xs.length ≤ 100000) (hw : ∀ x, wipe ((wipe σ vs).set j (some x)) vs = wipe σ vs)
    (he : ∀ (i : Nat) (x : V) (H : Hp), xs[i]? = some x → H = upd H1 D (.lst ((xs.take i).map g)) → Val te ((wipe σ vs).set j (some x)) H (g x)) (q : Qd (upd H1 D (.lst (xs.map g)))) :
    ∃ W : Nat → Nat → Hp → Prop, (∃ m, W 0 m (upd H1 D (.lst []))) ∧ ∀ i m H, W i m H →
      ((Itl K a).stop i H ∧ Qd H) ∨ ((Itl K a).go i H ∧ ∃ Nx : Hp → Prop, (∀ H', Nx H' → ∃ m', m' < m ∧ W (i + 1) m' H') ∧ ∀ x H', (Itl K a).yld i H x H' → gName j x (wipe σ vs) H' fun σ2 H2 => wipe σ2 vs = wipe σ vs ∧ tYes σ2 H2 fun b H3 =>
        if b = true then te σ2 H3 fun y H4 => ∃ acc, H4 D = some (.lst acc) ∧ acc.length < sizeLine ∧ Nx (upd H4 D (.lst (acc ++ [y]))) else Nx H3) :=
  lc_list (fun i H => H = upd H1 D (.lst ((xs.take i).map g))) (by rw [List.take_zero]; rfl) (fun i H hi e => by rw [e]; exact ex_l (Ex.new hD) hx)
    (fun i x H hi e => ⟨hw _, by
      refine iteT (B := H = upd H1 D (.lst ((xs.take (i + 1)).map g))) ?_
      refine he i x H hi e _ ?_
      subst e
      refine ⟨_, upd_same, sz_lt ?_, ?_⟩
      · rw [List.length_map, List.length_take]; have := (List.getElem?_eq_some_iff.mp hi).1; omega
      · rw [upd_upd, List.take_add_one, hi, List.map_append]; rfl⟩) (fun H e => by rw [e, List.take_length]; exact q)
theorem lcTm (g : V → V) (hx : SqT K H1 a xs) (hD : H1 D = none) (hn : xs.length ≤ 100000) (hw : ∀ x, wipe ((wipe σ vs).set j (some x)) vs = wipe σ vs)
    (he : ∀ (i : Nat) (x : V) (H : Hp), xs[i]? = some x → H = upd H1 D (.lst ((xs.take i).map g)) → Val te ((wipe σ vs).set j (some x)) H (g x)) (q : Qd (upd H1 D (.lst (xs.map g)))) :
    ∃ W : Nat → Nat → Hp → Prop, (∃ m, W 0 m (upd H1 D (.lst []))) ∧ ∀ i m H, W i m H →
      ((Itt K a).stop i H ∧ Qd H) ∨ ((Itt K a).go i H ∧ ∃ Nx : Hp → Prop, (∀ H', Nx H' → ∃ m', m' < m ∧ W (i + 1) m' H') ∧ ∀ x H', (Itt K a).yld i H x H' → gName j x (wipe σ vs) H' fun σ2 H2 => wipe σ2 vs = wipe σ vs ∧ tYes σ2 H2 fun b H3 =>
        if b = true then te σ2 H3 fun y H4 => ∃ acc, H4 D = some (.lst acc) ∧ acc.length < sizeLine ∧ Nx (upd H4 D (.lst (acc ++ [y]))) else Nx H3) :=
  lc_tup (fun i H => H = upd H1 D (.lst ((xs.take i).map g))) (by rw [List.take_zero]; rfl) (fun i H hi e => by rw [e]; exact ex_t (Ex.new hD) hx)
    (fun i x H hi e => ⟨hw _, by
      refine iteT (B := H = upd H1 D (.lst ((xs.take (i + 1)).map g))) ?_
      refine he i x H hi e _ ?_
      subst e
      refine ⟨_, upd_same, sz_lt ?_, ?_⟩
      · rw [List.length_map, List.length_take]; have := (List.getElem?_eq_some_iff.mp hi).1; omega
      · rw [upd_upd, List.take_add_one, hi, List.map_append]; rfl⟩) (fun H e => by rw [e, List.take_length]; exact q)
end
end G
namespace G
open PySem PySem.Spec PyProof.Rows L2 Evl
/-! ## rules within a comprehension's block: the written part by its letter -/
section
variable {X : Cx} {K : PySem.W.Frag}
theorem kIxT (h : X.K = K) : IxR X (rIxT K) := by subst h; exact ix_tup
theorem kIxL (h : X.K = K) : IxR X (rIxL K) := by subst h; exact ix_list
theorem kIx (h : X.K = K) : IxR X (rIx K) := by subst h; exact ix_seq
theorem kIn (h : X.K = K) : OpR X (compareOp .In) (rIn K false) := by subst h; exact op_in_seq
theorem kNotIn (h : X.K = K) : OpR X (compareOp .NotIn) (rIn K true) := by subst h; exact op_notIn_seq
theorem kLen (h : X.K = K) : CallR X (.builtin "len") (rLenS K) := by subst h; exact call_len_seq
theorem gStr {x s : Str} {t : Tok} {pos : Pos} (hg : Gl X x) (h : X.mg x = some (.str s t)) (hd : (x == ("__debug__" : Str)) = false := by decide) : PE X (.Name x pos) (tC (.str s)) := pe_glob (v := .str s) hg h ⟨t, rfl⟩ hd
theorem gInt {x : Str} {i : Int} {t : Tok} {pos : Pos} (hg : Gl X x) (h : X.mg x = some (.int i t)) (hd : (x == ("__debug__" : Str)) = false := by decide) : PE X (.Name x pos) (tC (.int i)) := pe_glob (v := .int i) hg h ⟨t, rfl⟩ hd
theorem gRef {x : Str} {a : Addr} {pos : Pos} (hg : Gl X x) (h : X.mg x = some (.ref a)) (hd : (x == ("__debug__" : Str)) = false := by decide) : PE X (.Name x pos) (tC (.ref a)) := pe_glob (v := .ref a) hg h rfl hd
theorem kSlL (h : X.K = K) : SlR X (rSlL K) := by subst h; exact sl_list
theorem kCatA (h : X.K = K) : OpR X (binaryOp .Add) (rCatA K) := by subst h; exact op_catA
theorem kAny (h : X.K = K) (hc : X.calm = true) : CallR X (.builtin "any") (rAny K) := by subst h; exact cr_any hc
theorem kAll (h : X.K = K) (hc : X.calm = true) : CallR X (.builtin "all") (rAll K) := by subst h; exact cr_all hc
theorem kLtT (h : X.K = K) (hu : X.A.units < cLine) : OpR X (compareOp .Lt) (rLtT K) := by subst h; exact op_ltT hu
theorem kPiT {e tg : Expr} {te : TE} (h : X.K = K) (he : PE X e te) : PI X tg e (iTup K te) := by subst h; exact pi_tup he
theorem kPiL {e tg : Expr} {te : TE} (h : X.K = K) (he : PE X e te) : PI X tg e (iList K te) := by subst h; exact pi_list he
theorem kSlA (h : X.K = K) : SlR X (rSlA K) := by subst h; exact sl_tupA
end
end G
namespace G
open PySem PySem.Spec PyProof.Rows L2 Evl
theorem dpAll_map {α : Type} {K : PySem.W.Frag} {H : Hp} {f : α → V} {g : α → PyData} (h : ∀ x, Dp K H (f x) (g x)) : ∀ l : List α, DpAll K H (l.map f) (l.map g)
  | [] => .nil
  | x :: r => .cons (h x) (dpAll_map h r)
theorem dp_ints {K : PySem.W.Frag} {H : Hp} {a : Addr} {ns : List Int} (h : SqL K H a (ns.map V.int)) : Dp K H (.ref a) (.list (ns.map PyData.int)) := .lst h (dpAll_map (fun i => .int i) ns)
theorem dp_nil {K : PySem.W.Frag} {H : Hp} {a : Addr} (h : SqL K H a []) : Dp K H (.ref a) (.list []) := .lst h .nil
theorem eqv_nil (l : List PyData) : PyData.eqv (.list l) (.list []) = l.isEmpty := by cases l <;> rfl
theorem shaped_nil : SeqAt.shaped (.list []) = true := by decide +kernel
end G
/-! enumerate over a tuple -/
namespace PySem
section
variable {prog : Program} {w : World} {A : Around} {E : Value → Shared → Prop} {s : Shared}
theorem G_tupOf {h : Heap} {a : Addr} {xs : Array Value} (p : PyProof.Rows.IsTup h a xs) : h.IsTuple a xs := p
set_option maxHeartbeats 2000000 in
theorem G_enumNew {v : Value} {o : Obj} {Hh : Heap → Prop} (B : Begins v o Hh) :
    Meets (Builtin.«enumerate.__new__» ⟨[.type "enumerate", v], []⟩) (fun _ R s => Hh s.heap ∧
      R (.ok (.ret (.ref (s.heap.push o).objs.size))) { s with heap := (s.heap.push o).push { cls := .type "enumerate", data := .fields #[.none, .bool false, .ref s.heap.objs.size, rawInt 0, .none, .none] } }) :=
  .of_wp fun pr wo ar rr sh hh => by
    obtain ⟨hp, gg, dd, tk, os⟩ := sh; obtain ⟨h1, h2⟩ := hh
    have sub0 := sub_enumerate
    have qq : ∀ {A' : Around} {E : Value → Shared → Prop} {Q : Value → Shared → Prop}, Q (.ref hp.objs.size) ⟨hp.push o, gg, dd, tk, os⟩ → wpAny (model pr wo) A' (pyIter v) Q E ⟨hp, gg, dd, tk, os⟩ :=
      fun z => B.iter pr wo _ _ ⟨hp, gg, dd, tk, os⟩ _ h1 z
    wp_walk using qq
    refine wpAny_stack_any fun _ => wpAny_pure ?_
    split
    · rename_i cc _ _ _ _ _
      cases (cc == Value.type "enumerate") <;> (wp_walk using qq; exact ⟨_, rfl, h2⟩)
    · wp_walk using qq
      exact ⟨_, rfl, h2⟩
theorem G_enumCall {v : Value} {o : Obj} {Hh : Heap → Prop} {Q : Value → Shared → Prop} (B : Begins v o Hh) (h1 : Hh s.heap)
    (k : ∀ h', IsEnum h' (s.heap.objs.size + 1) s.heap.objs.size 0 .none → h'.get? s.heap.objs.size = some o → (∀ b u, s.heap.get? b = some u → h'.get? b = some u) → Q (.ref (s.heap.objs.size + 1)) { s with heap := h' }) :
    wpAny (model prog w) A (call (.type "enumerate") [v]) Q E s := by
  refine callType_new F.called_enumerate (by decide) (F.typeCall_enumerate_1 _) (F.newCall_enumerate_1 _) (fun y => F.args_object_init_2 y _) F.entry_enumerate_new (G_enumNew B) ⟨h1, ?_⟩
  have hz : (s.heap.push o).objs.size = s.heap.objs.size + 1 := Heap.size_push ..
  show _ ∧ _
  rw [hz]
  have he : IsEnum ((s.heap.push o).push { cls := .type "enumerate", data := .fields #[.none, .bool false, .ref s.heap.objs.size, rawInt 0, .none, .none] }) (s.heap.objs.size + 1) s.heap.objs.size 0 .none := by
    have hs := Heap.get?_push_size (s.heap.push o) (o := { cls := .type "enumerate", data := .fields #[.none, .bool false, .ref s.heap.objs.size, rawInt 0, .none, .none] }) rfl
    rw [hz] at hs; exact hs
  exact ⟨⟨_, he, rfl⟩, k _ he (Heap.get?_push_of_some _ (Heap.get?_push_size _ B.free)) fun b u x => Heap.get?_push_of_some _ (Heap.get?_push_of_some _ x)⟩
end
end PySem
namespace G
open PySem PySem.Spec PyProof.Rows L2 Evl
/-- the tuple at a at each turn, each item in a new pair -/
def IteT (K : PySem.W.Frag) (a : Addr) : It :=
  ⟨fun i H => ∃ (xs : List V) (x : V), SqT K H a xs ∧ xs[i]? = some x,
   fun i H v H' => ∃ T x, v = .ref T ∧ H T = none ∧ H' = upd H T (.tup [.int (i : Nat), x]) ∧ ∀ xs, SqT K H a xs → xs[i]? = some x,
   fun i H => ∃ xs : List V, SqT K H a xs ∧ xs.length = i⟩
theorem turn_enumT {P : Program} {w : World} {K : PySem.W.Frag} {elts : List Expr} {kk : Nat} {tpos : Pos} (a e it : Addr) :
    Turn P w K (.Tuple elts kk tpos) (IteT K a) [e, it] e (fun i h => (∃ old, IsEnum h e it ((i : Nat) : Int) old) ∧ h.IsTupleIter it a i ∧ e ≠ it ∧ a ≠ it ∧ a ≠ e) where
  mem := by simp
  obj := fun i h st b hb => by
    obtain ⟨⟨old, he⟩, ⟨o, ho, hc, hd⟩, _⟩ := st
    have hb' : b = e ∨ b = it := by simpa using hb
    rcases hb' with z | z
    · rw [z]; exact ⟨_, he, fun v q => nomatch q⟩
    · rw [z]; exact ⟨o, ho, fun v q => by rw [hd] at q; cases q⟩
  keep := fun i h h' st k => by
    obtain ⟨⟨old, he⟩, hi, hne⟩ := st
    exact ⟨⟨old, k e (by simp) _ he⟩, hi.at fun o q => k it (by simp) o q, hne⟩
  item := by
    intro X hP hw hK hc i pins s σ H E I hf st hg
    subst hP hw hK
    obtain ⟨⟨old, he⟩, hit, hne, hai, hae⟩ := st
    obtain ⟨xs, x, hq, hx⟩ := hg
    obtain ⟨its, rv, p, hz⟩ := I.tuple hq
    obtain ⟨u, hu, ru⟩ := rv.get hx
    have hel : e < s.heap.objs.size := Heap.lt_size he
    have hil : it < s.heap.objs.size := by obtain ⟨_, q, _⟩ := hit; exact Heap.lt_size q
    have hh : X.A.handled = none := I.ok.hd hc
    refine wpAny_pyNext_enum_itemD (Draws.tuple (A := X.A.in1) hh it a hai its.toArray) he ⟨hit, p⟩ ?_ hne ?_ fun y h' tk hy ho hst hT hsz hk => ?_
    · have := (List.getElem?_eq_some_iff.mp hu).1
      simpa using this
    · intro hm
      have hm' : e = it ∨ e = a := by simpa using hm
      rcases hm' with z | z
      · exact hne z
      · exact hae z.symm
    · have ey : y = u := by
        have hy' : its[i]? = some y := by simpa using hy
        exact Option.some.inj (hy'.symm.trans hu)
      subst ey
      refine ⟨_, rfl, wpAny_letOwnedTupleGo_enum (s := { s with heap := h', toks := tk + 1 }) ho fun h'' he' sb => ?_⟩
      have hT2 : h''.get? s.heap.objs.size = some { cls := .type "tuple", data := .seq #[.int i tk, y] } := (sb.2 _ (Nat.ne_of_gt hel)).trans hT
      have new : ObjOk X.prog X.w (upd H s.heap.objs.size (.tup [.int (i : Nat), x])) h'' s.heap.objs.size (.tup [.int (i : Nat), x]) :=
        ⟨by show 2 ≤ sizeLine; decide, [.int i tk, y], .cons ⟨_, rfl⟩ (.cons ru .nil), ⟨_, hT2, rfl, _, rfl⟩⟩
      have I1 : Inv X pins σ (upd H s.heap.objs.size (.tup [.int (i : Nat), x])) { s with heap := h'', toks := tk + 1 } :=
        I.turnedNew (ch := [e, it]) (fun b ob hb q => (sb.2 b (fun z => hb (by simp [z]))).trans (hk b ob (fun z => hb (by simp [z])) (fun z => hb (by simp [z])) q)) hf (Nat.le_refl _) new
      refine ⟨.ref s.heap.objs.size, _, I1, rfl, ⟨_, x, rfl, I.hok.fresh (Nat.le_refl _), rfl, fun ys hy => by rw [I.tuple_inj hy hq]; exact hx⟩, ⟨⟨y, ?_⟩, hst.1.at fun o q => (sb.2 it (Ne.symm hne)).trans q, hne, hai, hae⟩, fun b hb => ?_⟩
      · have e1 : ((i + 1 : Nat) : Int) = (i : Int) + 1 := by omega
        rw [e1]; exact he'
      · have hb' : b < s.heap.objs.size := by
          have hb2 : b = e ∨ b = it := by simpa using hb
          rcases hb2 with z | z
          · rw [z]; exact hel
          · rw [z]; exact hil
        rw [upd_ne (Nat.ne_of_lt hb')]
        exact (hf b hb).1
  done := by
    intro X hP hw hK hc i pins s σ H E I hf st hg
    subst hP hw hK
    obtain ⟨⟨old, he⟩, hit, hne, hai, hae⟩ := st
    obtain ⟨xs, hq, hx⟩ := hg
    obtain ⟨its, rv, p, hz⟩ := I.tuple hq
    obtain ⟨f0, f1, f2, f3, f4, f5⟩ := hf it (by simp)
    have hl := rv.length
    have hh : X.A.handled = none := I.ok.hd hc
    have ei : its.toArray.size = i := by rw [List.size_toArray, ← hl]; exact hx
    have st2 : s.heap.IsTupleIter it a its.toArray.size ∧ s.heap.IsTuple a its.toArray := by rw [ei]; exact ⟨hit, p⟩
    exact wpAny_pyNext_enum_endD (Draws.tuple (A := X.A.in1) hh it a hai its.toArray) he st2 fun h' eb => ⟨rfl, I.turned (t' := s.toks) (fun b o hb q => eb b o hb q) f0 f1 f3 f4 f5⟩
  self := fun A i s Q E st h => by
    obtain ⟨⟨_, he⟩, _⟩ := st
    exact wpAny_pyIter_enum he h
def iEnumT (K : PySem.W.Frag) (ta : TA) : TI := fun σ H R => ta σ H fun vs H1 => ∃ a xs, vs = [.ref a] ∧ SqT K H1 a xs ∧ R (IteT K a) H1
theorem pi_enumT {X : Cx} {e : Expr} {ta : TA} {p pos tpos : Pos} {elts : List Expr} {kk : Nat} (hg : Gl X "enumerate") (hm : X.mg "enumerate" = none) (ha : PA X [e] ta) (hs : starEach [e] X.env = [(false, eval e X.env)] := by rfl) :
    PI X (.Tuple elts kk tpos) (.Call (.Name "enumerate" p) [e] [] pos) (iEnumT X.K ta) := by
  refine ⟨fun pins s σ H R I h => Call_ (ld_blt I hg hm boot_enumerate (PyProof.Rows.callWith_type1 (thn (ha.run pos pins s σ H _ I h) fun us s1 ⟨vs, H1, I1, r1, q1⟩ => ?_) hs rfl))⟩
  obtain ⟨a, xs, rfl, hq, q⟩ := q1
  cases r1 with
  | cons r rr =>
    cases rr
    cases r
    obtain ⟨its, rv, p', hz⟩ := I1.tuple hq
    have hal : a < s1.heap.objs.size := by obtain ⟨o, ho, _⟩ := p'; exact Heap.lt_size ho
    refine G_enumCall (begins_tuple a its.toArray) p' fun h' he hit hk => wpAny_pyIter_enum he ?_
    have I2 : Inv X pins σ H1 { s1 with heap := h' } := I1.kept (t' := s1.toks) hk
    refine ⟨s1.heap.objs.size + 1, [s1.heap.objs.size + 1, s1.heap.objs.size], _, _, H1, rfl, I2, turn_enumT a (s1.heap.objs.size + 1) s1.heap.objs.size,
      ⟨⟨.none, he⟩, ⟨_, hit, rfl, rfl⟩, Nat.succ_ne_self _, Nat.ne_of_lt hal, Nat.ne_of_lt (Nat.lt_succ_of_lt hal)⟩, fun b hb => ?_, q⟩
    have hb' : b = s1.heap.objs.size + 1 ∨ b = s1.heap.objs.size := by simpa using hb
    have hle : s1.heap.objs.size ≤ b := by
      rcases hb' with z | z
      · rw [z]; exact Nat.le_add_right _ _
      · rw [z]; exact Nat.le_refl _
    exact I1.fpOk hle (I1.hok.fresh hle)
theorem walk_enumT {K : PySem.W.Frag} {a : Addr} {xs : List V} : Walk (IteT K a) xs.length (fun H => SqT K H a xs) (YPair (fun i => some (.int (i : Nat))) (fun i => xs[i]?)) := by
  refine ⟨fun i _ hi q => ⟨xs, xs[i], q, by simp [hi]⟩, fun _ q => ⟨xs, q, rfl⟩, fun i H v H' _ q y => ?_⟩
  obtain ⟨T, x, h1, h2, h3, h4⟩ := y
  exact ⟨T, .int (i : Nat), x, h1, h2, h3, rfl, h4 xs q⟩
theorem kPiEnumT {X : Cx} {K : PySem.W.Frag} {e : Expr} {ta : TA} {p pos tpos : Pos} {elts : List Expr} {kk : Nat} (h : X.K = K) (hg : Gl X "enumerate") (hm : X.mg "enumerate" = none) (ha : PA X [e] ta) (hs : starEach [e] X.env = [(false, eval e X.env)] := by rfl) :
    PI X (.Tuple elts kk tpos) (.Call (.Name "enumerate" p) [e] [] pos) (iEnumT K ta) := by subst h; exact pi_enumT hg hm ha hs
end G
/-! t[a::2], t a tuple -/
namespace HT
open PySem PySem.Spec PyProof.Rows L2
section
variable {prog : Program} {w : World} {A : Around} {E : Value → Shared → Prop} {s : Shared}
theorem g_applied {sl : Addr} {vl vu vs : Value} {lo hi : Option Int} {st : Int} {n : Nat} {Q : Int × Int × Nat → Shared → Prop} (hs : s.heap.IsSliceOf sl vl vu vs) (pl : IsPart vl lo) (pu : IsPart vu hi) (ps : IsPart vs (some st)) (h0 : st ≠ 0)
    (h : Q ((Builtin.Slice.sliceAdjust lo hi st (n : Int)).1, st, Builtin.Slice.slicePlaces (Builtin.Slice.sliceAdjust lo hi st (n : Int)).1 (Builtin.Slice.sliceAdjust lo hi st (n : Int)).2 st) s) :
    wpAny (model prog w) A (Builtin.Slice.sliceApplied (.ref sl) (pure (n : Int))) Q E s := by
  obtain ⟨ob, hob, _, hd⟩ := id hs
  unfold Builtin.Slice.sliceApplied Builtin.Slice.sliceFields
  refine wpAny_bind (wpAny_bind (wpAny_field hob hd (x := vl) rfl (wpAny_bind (wpAny_field hob hd (x := vu) rfl (wpAny_bind (wpAny_field hob hd (x := vs) rfl (wpAny_pure ?_)))))))
  refine wpAny_bind (slicePart_ ps ?_)
  show wpAny _ _ (if (st == 0) = true then _ else _) _ _ s
  rw [if_neg (by intro q; exact h0 (eq_of_beq q))]
  exact wpAny_bind (slicePart_ pl (wpAny_bind (slicePart_ pu (wpAny_bind (wpAny_pure (wpAny_pure h))))))
def stepped (xs : List Value) (lo st : Int) (n : Nat) : List Value := (List.range n).filterMap fun (k : Nat) => xs.toArray[(lo + (k : Int) * st).toNat]?
theorem g_getStep {t sl : Addr} {its : List Value} {vl vu vs : Value} {lo hi : Option Int} {st : Int} {Q : Value → Shared → Prop} (ht : IsTup s.heap t its.toArray) (hs : s.heap.IsSliceOf sl vl vu vs) (pl : IsPart vl lo) (pu : IsPart vu hi) (ps : IsPart vs (some st)) (h0 : st ≠ 0) (h1 : st ≠ 1)
    (hz : (stepped its (Builtin.Slice.sliceAdjust lo hi st (its.toArray.size : Int)).1 st (Builtin.Slice.slicePlaces (Builtin.Slice.sliceAdjust lo hi st (its.toArray.size : Int)).1 (Builtin.Slice.sliceAdjust lo hi st (its.toArray.size : Int)).2 st)).length ≤ sizeLine)
    (h : Q (.ref s.heap.objs.size) { s with heap := s.heap.push { cls := .type "tuple", data := .seq (stepped its (Builtin.Slice.sliceAdjust lo hi st (its.toArray.size : Int)).1 st (Builtin.Slice.slicePlaces (Builtin.Slice.sliceAdjust lo hi st (its.toArray.size : Int)).1 (Builtin.Slice.sliceAdjust lo hi st (its.toArray.size : Int)).2 st)).toArray } }) :
    wpAny (model prog w) A (getItem (.ref t) (.ref sl)) Q E s := by
  have ok : sizeOk (.seq (stepped its (Builtin.Slice.sliceAdjust lo hi st (its.toArray.size : Int)).1 st (Builtin.Slice.slicePlaces (Builtin.Slice.sliceAdjust lo hi st (its.toArray.size : Int)).1 (Builtin.Slice.sliceAdjust lo hi st (its.toArray.size : Int)).2 st)).toArray) := by
    show (stepped its _ st _).toArray.size ≤ sizeLine
    rw [List.size_toArray]; exact hz
  obtain ⟨ob, hob, hc, hd⟩ := id hs
  have hTs : s.TypeIs (.ref sl) "slice" := ⟨ob, hob, hc⟩
  unfold getItem
  try with_reducible refine wpAny_holding ?_
  first | refine wpAny_bind (wpAny_pure ?_) | skip
  refine wpAny_bind (wpAny_sequenceKey ht.typeIs (by decide) ?_)
  refine wpAny_bind (wpAny_callSpecial?_slot (name := Str.ofString "__getitem__") ht.typeIs slot_tuple_getitem (wpAny_call_entry slot_tuple_getitem ht.typeIs entry_tuple_getitem ?_ (args_tuple_getitem _ _)))
  show wpAny _ _ (Builtin.Tuple.tupleItemsOf (.ref t) >>= _) _ _ s
  refine wpAny_bind (tupleItemsOf_ ht (wpAny_bind (wpAny_typeOf hTs ?_)))
  rw [if_pos (by decide)]
  refine wpAny_bind (g_applied hs pl pu ps h0 ?_)
  generalize (Builtin.Slice.sliceAdjust lo hi st (its.toArray.size : Int)).1 = l0 at *
  generalize Builtin.Slice.slicePlaces l0 (Builtin.Slice.sliceAdjust lo hi st (its.toArray.size : Int)).2 st = n0 at *
  have hno : ¬ ((l0 == 0 && st == 1 && n0 == its.toArray.size) = true) := by
    intro q
    rw [Bool.and_eq_true, Bool.and_eq_true] at q
    exact h1 (eq_of_beq q.1.2)
  show wpAny _ _ (if (l0 == 0 && st == 1 && n0 == its.toArray.size) = true then _ else _) _ _ s
  rw [if_neg hno]
  first
    | exact wpAny_bind (m := Builtin.Tuple.tupleExact _) (wpAny_newObj_type (wpAny_pure ⟨_, rfl, wpAny_pure h⟩) ok)
    | exact wpAny_bind (m := Builtin.Tuple.tupleExact _) (wpAny_newObj_type (wpAny_bind (wpAny_pure (wpAny_pure ⟨_, rfl, wpAny_pure h⟩))) ok)
    | exact wpAny_bind (wpAny_bind (m := Builtin.Tuple.tupleExact _) (wpAny_newObj_type (wpAny_pure (wpAny_pure ⟨_, rfl, wpAny_pure h⟩)) ok))
    | exact wpAny_bind (wpAny_bind (m := Builtin.Tuple.tupleExact _) (wpAny_newObj_type (wpAny_pure ⟨_, rfl, wpAny_pure h⟩) ok))
end
end HT
namespace G
open PySem PySem.Spec PyProof.Rows L2 Evl
/-- every second item from a on -/
def halfL {α : Type} (a : Nat) (xs : List α) : List α := (List.range ((xs.length - a + 1) / 2)).filterMap fun k => xs[a + 2 * k]?
theorem halfL_len {α : Type} (a : Nat) (xs : List α) : (halfL a xs).length ≤ xs.length + 1 := by
  unfold halfL
  refine Nat.le_trans (List.length_filterMap_le _ _) ?_
  rw [List.length_range]; omega
theorem vals_filterMap {f : Nat → Option V} {g : Nat → Option Value} : ∀ {l : List Nat}, (∀ k, k ∈ l → RelO (f k) (g k)) → Vals (l.filterMap f) (l.filterMap g)
  | [], _ => .nil
  | k :: r, h => by
    have hk := h k (List.mem_cons_self ..)
    have ih := vals_filterMap (l := r) fun j hj => h j (List.mem_cons_of_mem _ hj)
    rw [List.filterMap_cons, List.filterMap_cons]
    cases e : f k with
    | none =>
      cases e2 : g k with
      | none => exact ih
      | some u => rw [e, e2] at hk; exact hk.elim
    | some v =>
      cases e2 : g k with
      | none => rw [e, e2] at hk; exact hk.elim
      | some u => rw [e, e2] at hk; exact .cons hk ih
def tHalf (K : PySem.W.Frag) (a : Nat) (te : TE) : TE := fun σ H Q => te σ H fun x H1 => ∃ t xs, x = .ref t ∧ SqT K H1 t xs ∧ xs.length ≤ 100000 ∧ ∀ p, H1 p = none → Q (.ref p) (upd H1 p (.tup (halfL a xs)))
theorem half_places {a n : Nat} (h : a ≤ 1) : (Builtin.Slice.sliceAdjust (some (a : Int)) none 2 (n : Int)).1 = ((min a n : Nat) : Int) ∧
    Builtin.Slice.slicePlaces (Builtin.Slice.sliceAdjust (some (a : Int)) none 2 (n : Int)).1 (Builtin.Slice.sliceAdjust (some (a : Int)) none 2 (n : Int)).2 2 = (n - a + 1) / 2 := by
  have h2 : ¬ ((2 : Int) < 0) := by omega
  have h3 : (2 : Int) > 0 := by omega
  have ha : ¬ ((a : Int) < 0) := by omega
  have e : Builtin.Slice.sliceAdjust (some (a : Int)) none 2 (n : Int) = (((min a n : Nat) : Int), (n : Int)) := by
    unfold Builtin.Slice.sliceAdjust
    simp only [h2, if_false, ha]
    refine Prod.ext ?_ rfl
    show min (a : Int) (n : Int) = ((min a n : Nat) : Int)
    omega
  rw [e]
  refine ⟨rfl, ?_⟩
  show Builtin.Slice.slicePlaces ((min a n : Nat) : Int) (n : Int) 2 = (n - a + 1) / 2
  unfold Builtin.Slice.slicePlaces
  simp only [h3, if_true]
  split <;> omega
section
variable {X : Cx}
theorem pe_half {e : Expr} {te : TE} {a : Nat} {k1 k2 : Nat} {p1 p2 p3 pos : Pos} (ha : a ≤ 1) (he : PE X e te) : PE X (.Subscript e (.Slice (some (.Constant (.int (a : Int)) k1 p1)) none (some (.Constant (.int 2) k2 p2)) p3) pos) (tHalf X.K a te) := by
  refine ⟨fun pins s σ H Q I h => Subscript_ (thn (he.run pins s σ H _ I h) fun v s1 ⟨x, H1, I1, r1, q1⟩ => ?_)⟩
  obtain ⟨t, xs, rfl, hx, hlen, q⟩ := q1
  cases r1
  have hlo : PO X (some (.Constant (.int (a : Int)) k1 p1)) (tPart (tC (.int (a : Int)))) := po_some pe_int
  have hst : PO X (some (.Constant (.int 2) k2 p2)) (tPart (tC (.int 2))) := po_some pe_int
  refine wpAny_Slice (thn (hlo.run pins s1 σ H1 (fun o H2 => o = some (a : Int) ∧ H2 = H1) I1 ⟨_, rfl, rfl, rfl⟩) fun vl s2 ⟨l, H2, I2, pl, el, e2⟩ => ?_)
  subst el e2
  refine thn (po_none.run pins s2 σ H2 (fun o H3 => o = none ∧ H3 = H2) I2 ⟨rfl, rfl⟩) fun vu s3 ⟨u, H3, I3, pu, eu, e3⟩ => ?_
  subst eu e3
  refine thn (hst.run pins s3 σ H3 (fun o H4 => o = some 2 ∧ H4 = H3) I3 ⟨_, rfl, rfl, rfl⟩) fun vs s4 ⟨o, H4, I4, ps, eo, e4⟩ => ?_
  subst eo e4
  have I5 : Inv X pins σ H4 { s4 with heap := s4.heap.push { cls := .type "slice", data := .fields #[vl, vu, vs] } } := I4.kept (t' := s4.toks) fun b ob q => Heap.get?_push_of_some _ q
  obtain ⟨its, r, ht, hz⟩ := I5.tuple hx
  have hl : its.toArray.size = xs.length := by rw [List.size_toArray]; exact r.length.symm
  obtain ⟨hp1, hp2⟩ := half_places (n := xs.length) ha
  have hrel : Vals (halfL a xs) (HT.stepped its ((min a xs.length : Nat) : Int) 2 ((xs.length - a + 1) / 2)) := by
    unfold halfL HT.stepped
    refine vals_filterMap fun k hk => ?_
    have hk' := List.mem_range.mp hk
    have hi : a + 2 * k < xs.length := by omega
    have en : (((min a xs.length : Nat) : Int) + (k : Int) * 2).toNat = a + 2 * k := by omega
    rw [en, List.getElem?_eq_getElem hi]
    obtain ⟨u, hu, ru⟩ := r.get (List.getElem?_eq_getElem hi)
    rw [List.getElem?_toArray, hu]
    exact ru
  have hsz : (halfL a xs).length ≤ sizeLine := sz_of (by
    unfold halfL
    refine Nat.le_trans (List.length_filterMap_le _ _) ?_
    rw [List.length_range]
    omega)
  show wpAny (model X.prog X.w) X.A (subscriptTail e (.Slice (some (.Constant (.int (a : Int)) k1 p1)) none (some (.Constant (.int 2) k2 p2)) p3) (.ref t) (.ref s4.heap.objs.size)) (EP X pins σ Q) X.xe { s4 with heap := s4.heap.push { cls := .type "slice", data := .fields #[vl, vu, vs] } }
  refine tail_any (ops := [.ref t, .ref s4.heap.objs.size]) ht.typeIs PyProof.Rows.slot_tuple_getitem.lookup ?_ (by with_unfolding_all rfl)
  refine HT.g_getStep ht (Heap.IsSliceOf.new _ vl vu vs) pl pu ps (by decide) (by decide) ?_ ?_
  · rw [hl, hp2, hp1, ← hrel.length]; exact hsz
  · rw [hl, hp2, hp1]
    refine ⟨.ref _, _, I5.laid (t' := s4.toks) (o := .tup (halfL a xs)) (fun b ob q => Heap.get?_push_of_some _ q) (Nat.le_refl _) ?_, rfl, q _ (I5.hok.fresh (Nat.le_refl _))⟩
    exact ⟨hsz, _, hrel, ⟨_, Heap.get?_push_size _ rfl, rfl, _, rfl⟩⟩
end
end G
namespace G
open PySem PySem.Spec PyProof.Rows L2 PySem.W
/-! ## sorted(xs), xs a list of tuples of numbers and tuples, of any length -/
mutual
inductive RdV (H : Hp) : V → PyData → Prop
  | int (i : Int) : RdV H (.int i) (.int i)
  | tup {a : Addr} {xs : List V} {ds : List PyData} : H a = some (.tup xs) → RdVs H xs ds → RdV H (.ref a) (.tuple ds)
inductive RdVs (H : Hp) : List V → List PyData → Prop
  | nil : RdVs H [] []
  | cons {x : V} {xs : List V} {d : PyData} {ds : List PyData} : RdV H x d → RdVs H xs ds → RdVs H (x :: xs) (d :: ds)
end
mutual
theorem RdV.te {H H' : Hp} (e : ∀ (b : Addr) (xs : List V), H b = some (.tup xs) → H' b = some (.tup xs)) : ∀ {x : V} {d : PyData}, RdV H x d → RdV H' x d
  | _, _, .int i => .int i
  | _, _, .tup h hs => .tup (e _ _ h) (RdVs.te e hs)
theorem RdVs.te {H H' : Hp} (e : ∀ (b : Addr) (xs : List V), H b = some (.tup xs) → H' b = some (.tup xs)) : ∀ {xs : List V} {ds : List PyData}, RdVs H xs ds → RdVs H' xs ds
  | _, _, .nil => .nil
  | _, _, .cons h t => .cons (h.te e) (t.te e)
end
section
variable {P : Program} {w : World} {H : Hp} {h : Heap}
mutual
theorem RdV.reads (I : HOk P w H h) : ∀ {x : V} {d : PyData}, RdV H x d → ∀ {u : Value}, RelV x u → ∃ as, Reads h u d as
  | _, _, .int i, u, r => by
    obtain ⟨t, rfl⟩ := r
    exact ⟨[], .int i t⟩
  | _, _, .tup e hs, u, r => by
    cases r
    obtain ⟨_, its, rv, o, ho, hc, n, hd⟩ := I _ _ e
    obtain ⟨as, q⟩ := RdVs.reads I hs rv
    exact ⟨as, .tuple ho hc hd q⟩
theorem RdVs.reads (I : HOk P w H h) : ∀ {xs : List V} {ds : List PyData}, RdVs H xs ds → ∀ {us : List Value}, Vals xs us → ∃ as, ReadsAll h us ds as
  | _, _, .nil, us, r => by
    cases r
    exact ⟨[], .nil⟩
  | _, _, .cons hx t, us, r => by
    cases r with
    | cons r1 r2 =>
      obtain ⟨as, q⟩ := hx.reads I r1
      obtain ⟨bs, q2⟩ := t.reads I r2
      exact ⟨as ++ bs, .cons q q2⟩
end
end
theorem each_rel : ∀ {ps : List (V × PyData)} {us : List Value}, Vals (ps.map (·.1)) us → EachIs (fun u (b : V × PyData) => RelV b.1 u) us ps
  | [], us, r => by
    cases r
    exact .nil
  | p :: ps, us, r => by
    cases r with
    | cons r1 r2 => exact .cons r1 (each_rel r2)
theorem each_back : ∀ {ps : List (V × PyData)} {us : List Value}, EachIs (fun u (b : V × PyData) => RelV b.1 u) us ps → Vals (ps.map (·.1)) us
  | [], us, r => by
    cases r
    exact .nil
  | p :: ps, us, r => by
    cases r with
    | cons r1 r2 => exact .cons r1 (each_back r2)
/-- in the order of Python's tuples, equal ones in their order -/
def sortN (ps : List (V × PyData)) : List (V × PyData) := ps.mergeSort (dataLe false fun p : V × PyData => p.2)
def rSortedN (K : PySem.W.Frag) : List V → Hp → VK → Prop := fun vs H Q => ∃ (a : Addr) (ps : List (V × PyData)), vs = [V.ref a] ∧ SqL K H a (ps.map (·.1)) ∧ (∀ p ∈ ps, RdV H p.1 p.2) ∧ AllAlike (ps.map (·.2)) ∧ (∀ p ∈ ps, ∃ x r, p.2 = PyData.tuple (x :: r)) ∧ (∀ p ∈ ps, p.2.depth ≤ 32) ∧
  ∀ q, H q = none → Q (.ref q) (upd H q (.lst ((sortN ps).map (·.1))))
theorem cr_sortedN {X : Cx} (hu : X.A.units + 64 < cLine) : CallR X (.builtin "sorted") (rSortedN X.K) := by
  intro pins s σ H vs us Q I r h
  obtain ⟨a, ps, rfl, hs, hR, hal, htu, hdp, q⟩ := h
  obtain ⟨its, rv, hl, hz⟩ := I.list hs
  obtain ⟨u, rfl, ru⟩ := vals1 r
  obtain rfl : u = Value.ref a := ru
  have e0 := each_rel rv
  have er : EachIs (fun v (b : V × PyData) => ∃ as, Reads s.heap v b.2 as) its ps := (each_mem e0).mono fun v b ⟨h1, h2⟩ => (hR b h2).reads I.hok h1
  refine sorted_data (bs := ps) (enc := fun b : V × PyData => b.2) hl.isList e0 er hal ?_ (by rw [List.length_map] at hz; exact hz) (fun b hb => by have := hdp b hb; omega) fun out hlen hout => ?_
  · refine .inl fun d hd => ?_
    obtain ⟨b, hb, rfl⟩ := List.mem_map.mp hd
    exact htu b hb
  obtain ⟨e, he⟩ := sortedAll_at s.heap its (List.toArray out)
  have hn : H (s.heap.objs.size + 1) = none := I.hok.fresh (Nat.le_succ _)
  refine ⟨.ref (s.heap.objs.size + 1), upd H (s.heap.objs.size + 1) (.lst ((sortN ps).map (·.1))), I.laid (t' := s.toks) (fun _ _ => sortedAll_old) (Nat.le_succ _) ⟨?_, out, e, each_back hout, he⟩, rfl, q _ hn⟩
  rw [List.length_map] at hz ⊢
  unfold sortN
  rw [List.length_mergeSort]; exact hz
theorem kSortedN {X : Cx} {K : PySem.W.Frag} (h : X.K = K) (hu : X.A.units + 64 < cLine) : CallR X (.builtin "sorted") (rSortedN K) := by subst h; exact cr_sortedN hu
end G
namespace G
open PySem PySem.Spec PyProof.Rows L2 Evl TL
theorem perm_pw {α : Type} {R : α → α → Prop} (anti : ∀ x y, R x y → R y x → x = y) : ∀ {a b : List α}, a.Perm b → a.Pairwise R → b.Pairwise R → a = b
  | [], b, p, _, _ => (List.nil_perm.mp p).symm ▸ rfl
  | x :: a, [], p, _, _ => absurd p.length_eq (by simp)
  | x :: a, y :: b, p, ha, hb => by
    obtain ⟨ha1, ha2⟩ := List.pairwise_cons.mp ha
    obtain ⟨hb1, hb2⟩ := List.pairwise_cons.mp hb
    have e : x = y := by
      rcases List.mem_cons.mp (p.mem_iff.mp (List.mem_cons_self ..)) with z | z
      · exact z
      · rcases List.mem_cons.mp (p.mem_iff.mpr (List.mem_cons_self ..)) with w | w
        · exact w.symm
        · exact anti x y (ha1 y w) (hb1 x z)
    subst e
    rw [perm_pw anti (List.Perm.cons_inv p) ha2 hb2]
def leS (x y : Str) : Prop := ltCps y.cps.toList x.cps.toList = false
theorem leS_iff {x y : Str} : leS x y ↔ x.cps.toList ≤ y.cps.toList := by
  unfold leS
  rw [ltCps_eq, decide_eq_false_iff_not]
  exact Iff.rfl
theorem leS_trans {x y z : Str} (h1 : leS x y) (h2 : leS y z) : leS x z := leS_iff.mpr (List.le_trans (leS_iff.mp h1) (leS_iff.mp h2))
theorem leS_anti {x y : Str} (h1 : leS x y) (h2 : leS y x) : x = y := by
  have h := List.le_antisymm (leS_iff.mp h1) (leS_iff.mp h2)
  obtain ⟨⟨a⟩⟩ := x
  obtain ⟨⟨b⟩⟩ := y
  have : a = b := h
  rw [this]
theorem rising_pw : ∀ (l : List Str) (p : Str), risingS p l = true → (p :: l).Pairwise leS
  | [], p, _ => List.pairwise_singleton _ _
  | x :: l, p, h => by
    have h : (!ltCps x.cps.toList p.cps.toList && risingS x l) = true := h
    rw [Bool.and_eq_true, Bool.not_eq_true'] at h
    have ih := rising_pw l x h.2
    refine List.pairwise_cons.mpr ⟨fun y hy => ?_, ih⟩
    rcases List.mem_cons.mp hy with z | z
    · rw [z]; exact h.1
    · exact leS_trans (show leS p x from h.1) ((List.pairwise_cons.mp ih).1 y z)
theorem sorted_pw : ∀ {l : List Str}, sortedS l = true → l.Pairwise leS
  | [], _ => List.Pairwise.nil
  | x :: l, h => rising_pw l x h
theorem perm_mem {a b : List Str} (na : a.Nodup) (nb : b.Nodup) (h : ∀ x, x ∈ a ↔ x ∈ b) : a.Perm b := by
  rw [List.perm_iff_count]
  intro x
  by_cases hx : x ∈ a
  · have h1 := List.nodup_iff_count.mp na x
    have h2 := List.nodup_iff_count.mp nb x
    have h3 := List.count_pos_iff.mpr hx
    have h4 := List.count_pos_iff.mpr ((h x).mp hx)
    omega
  · rw [List.count_eq_zero.mpr hx, List.count_eq_zero.mpr fun z => hx ((h x).mpr z)]
theorem sort_eq {a b : List Str} (na : a.Nodup) (nb : b.Nodup) (h : ∀ x, x ∈ a ↔ x ∈ b) (sa : sortedS a = true) (sb : sortedS b = true) : a = b := perm_pw (fun _ _ => leS_anti) (perm_mem na nb h) (sorted_pw sa) (sorted_pw sb)
end G
namespace HQ
open PySem PySem.Spec PyProof.Rows L2
theorem sift_entry : entryFor table "_heapq.heapify.sift" = some Builtin.«_heapq.heapify.sift» := entryFor_of_tree (by kernel_rfl)
theorem sift_plain : plainId "_heapq.heapify.sift" = true := by decide +kernel
def swapI (l : List Int) (i j : Nat) : List Int := (l.set i (l.getD j 0)).set j (l.getD i 0)
def upF : Nat → List Int → Nat → List Int
  | 0, l, _ => l
  | f + 1, l, pos => if pos > 0 then (if l.getD pos 0 < l.getD ((pos - 1) / 2) 0 then upF f (swapI l ((pos - 1) / 2) pos) ((pos - 1) / 2) else l) else l
def kidI (l : List Int) (pos : Nat) : Nat := if 2 * pos + 1 + 1 < l.length then (if l.getD (2 * pos + 1) 0 < l.getD (2 * pos + 1 + 1) 0 then 2 * pos + 1 else 2 * pos + 1 + 1) else 2 * pos + 1
def downF : Nat → List Int → Nat → List Int
  | 0, l, pos => upF pos l pos
  | f + 1, l, pos => if pos < l.length / 2 then downF f (swapI l (kidI l pos) pos) (kidI l pos) else upF pos l pos
theorem swapI_len (l : List Int) (i j : Nat) : (swapI l i j).length = l.length := by unfold swapI; rw [List.length_set, List.length_set]
abbrev lsO (its : List Value) (n : Nat) : Obj := { cls := .type "list", data := .seq its.toArray n }
theorem map_lsO (f : Array Value → Array Value) {its its' : List Value} (h : f its.toArray = its'.toArray) (n : Nat) : ∃ n', Obj.mapSeq f (lsO its n) = lsO its' n' := by
  have e : Obj.mapSeq f (lsO its n) = { cls := .type "list", data := .seq (f its.toArray) (if ((f its.toArray).size == its.toArray.size) = true then n else n + 1) } := rfl
  rw [e, h]
  exact ⟨_, rfl⟩
theorem val_at {ns : List Int} {its : List Value} (r : Vals (ns.map V.int) its) {i : Nat} (h : i < ns.length) : ∃ t, its.toArray[i]? = some (.int (ns.getD i 0) t) := by
  have e : (ns.map V.int)[i]? = some (.int (ns.getD i 0)) := by rw [List.getElem?_map, List.getD_eq_getElem?_getD, List.getElem?_eq_getElem h]; rfl
  obtain ⟨u, hu, ru⟩ := r.get e
  obtain ⟨t, rfl⟩ := ru
  exact ⟨t, by simpa using hu⟩
theorem vals_size {ns : List Int} {its : List Value} (r : Vals (ns.map V.int) its) : its.toArray.size = ns.length := by
  have := r.length
  rw [List.length_map] at this
  simp [this]
section
variable {prog : Program} {w : World} {A : Around} {E : Value → Shared → Prop} {s : Shared}
theorem rlt {x y : Int} {t u : Tok} {Q : Bool → Shared → Prop} (h : Q (decide (x < y)) s) : wpAny (model prog w) A (do truthOfDropped (← richCompare .Lt (.int x t) (.int y u))) Q E s := by
  refine wpAny_bind (richCompare_gives (op := .Lt) (typeIs_int s _ t) (typeIs_int s _ u) F.slot_int_lt F.entry_int_lt (F.args_int_lt_2 _ _) (gives_int_lt _ _ t u) (fun x => nomatch x) ?_)
  exact wpAny_of_eq (a := decide (x < y)) rfl h
theorem swap_map {ns : List Int} {its : List Value} (r : Vals (ns.map V.int) its) {i j n : Nat} {x y : Value} (hi : i < ns.length) (hj : j < ns.length) (hx : its.toArray[i]? = some x) (hy : its.toArray[j]? = some y) :
    ∃ its', Obj.mapSeq (fun xs => (xs.setIfInBounds i y).setIfInBounds j x) (lsO its n) = lsO its' n ∧ Vals ((swapI ns i j).map V.int) its' := by
  refine ⟨(its.set i y).set j x, by simp [Obj.mapSeq, lsO], ?_⟩
  obtain ⟨t, ht⟩ := val_at r hi
  obtain ⟨u, hu⟩ := val_at r hj
  rw [hx] at ht
  rw [hy] at hu
  cases ht
  cases hu
  unfold swapI
  rw [List.map_set, List.map_set]
  have ri : RelV (.int (ns.getD i 0)) (.int (ns.getD i 0) t) := ⟨_, rfl⟩
  have rj : RelV (.int (ns.getD j 0)) (.int (ns.getD j 0) u) := ⟨_, rfl⟩
  exact (r.set rj i).set ri j
theorem swap_ok {a : Addr} {i j n : Nat} {ns : List Int} {its : List Value} {x y : Value} {Q : Unit → Shared → Prop} (hi : i < ns.length) (hj : j < ns.length) (hz : ns.length ≤ sizeLine) (ho : s.heap.get? a = some (lsO its n)) (r : Vals (ns.map V.int) its) (hx : its.toArray[i]? = some x) (hy : its.toArray[j]? = some y)
    (hQ : ∀ h' its' n', Vals ((swapI ns i j).map V.int) its' → h'.get? a = some (lsO its' n') → (∀ b o, b ≠ a → s.heap.get? b = some o → h'.get? b = some o) → Q () { s with heap := h' }) :
    wpAny (model prog w) A (updateSeq a fun xs => (xs.setIfInBounds i y).setIfInBounds j x) Q E s := by
  obtain ⟨its', e1, r1⟩ := swap_map (n := n) r hi hj hx hy
  have hsz := vals_size r
  refine wpAny_updateSeq ho rfl (hQ _ its' n r1 ?_ fun b o hb e => (Heap.get?_update_other _ _ (Ne.symm hb)).trans e) (by rw [hsz]; exact hz) (by rw [Array.size_setIfInBounds, Array.size_setIfInBounds, hsz]; omega)
  rw [Heap.get?_update_self _ ho (by rw [e1] <;> rfl), e1]
theorem up_loop {a : Addr} {res : Value} {R : Result → Shared → Prop} : ∀ (f pos : Nat) (ns : List Int) (its : List Value) (n : Nat) (h : Heap) (tk : Nat) (t1 t2 t3 : Tok), pos ≤ f → pos < ns.length → ns.length ≤ sizeLine → h.get? a = some (lsO its n) → Vals (ns.map V.int) its →
    (∀ h' its' n' tk', Vals ((upF f ns pos).map V.int) its' → h'.get? a = some (lsO its' n') → (∀ b o, b ≠ a → h.get? b = some o → h'.get? b = some o) → R (.ok (.ret res)) { s with heap := h', toks := tk' }) →
    codeAny (model prog w) A (.builtin "_heapq.heapify.sift" ⟨[.ref a, .bool false, .bool false, .int (pos : Int) t1, .int ((0 : Nat) : Int) t2, res, .int (-1) t3], []⟩) R { s with heap := h, toks := tk } := by
  intro f
  induction f with
  | zero =>
    intro pos ns its n h tk t1 t2 t3 hf hp hz ho r hR
    have h0 : pos = 0 := by omega
    subst h0
    refine codeAny_builtin sift_entry ?_
    rw [Around.under_plainId sift_plain _]
    unfold Builtin.«_heapq.heapify.sift»
    dsimp only
    refine wpAny_bind ?_
    show wpAny _ _ (seqItems? (.ref a) >>= _) _ _ _
    refine wpAny_bind (wpAny_seqItems ho rfl (wpAny_pure ?_))
    rw [if_neg (by decide), if_neg (by decide), if_pos (by decide)]
    exact wpAny_pure (hR h its n tk r ho fun b o _ e => e)
  | succ f ih =>
    intro pos ns its n h tk t1 t2 t3 hf hp hz ho r hR
    refine codeAny_builtin sift_entry ?_
    rw [Around.under_plainId sift_plain _]
    unfold Builtin.«_heapq.heapify.sift»
    dsimp only
    refine wpAny_bind ?_
    show wpAny _ _ (seqItems? (.ref a) >>= _) _ _ _
    refine wpAny_bind (wpAny_seqItems ho rfl (wpAny_pure ?_))
    rw [if_neg (by decide)]
    rw [show ((pos : Int)).toNat = pos from Int.toNat_natCast pos]
    by_cases hp0 : pos > 0
    · rw [if_pos (by exact hp0)]
      have hpar : (pos - 1) / 2 < ns.length := by omega
      obtain ⟨u1, e1⟩ := val_at r hp
      obtain ⟨u2, e2⟩ := val_at r hpar
      refine wpAny_bind ?_
      show wpAny _ _ (match its.toArray[pos]? with | some v => pure v | none => _) _ _ _
      rw [e1]
      refine wpAny_pure (wpAny_bind ?_)
      show wpAny _ _ (match its.toArray[(pos - 1) / 2]? with | some v => pure v | none => _) _ _ _
      rw [e2]
      refine wpAny_pure ?_
      rw [if_neg (by decide)]
      refine wpAny_bind ?_
      show wpAny _ _ (holding _ _ >>= _) _ _ _
      refine wpAny_bind (wpAny_holding (rlt ?_))
      refine wpAny_bind ?_
      show wpAny _ _ (seqItems? (.ref a) >>= _) _ _ _
      refine wpAny_bind (wpAny_seqItems ho rfl (wpAny_pure ?_))
      dsimp only
      rw [if_neg (by simp)]
      refine wpAny_pure ?_
      have eU : upF (f + 1) ns pos = if ns.getD pos 0 < ns.getD ((pos - 1) / 2) 0 then upF f (swapI ns ((pos - 1) / 2) pos) ((pos - 1) / 2) else ns := by
        show (if pos > 0 then _ else _) = _
        rw [if_pos hp0]
      rw [eU] at hR
      by_cases hlt : ns.getD pos 0 < ns.getD ((pos - 1) / 2) 0
      · rw [if_pos hlt] at hR
        rw [if_pos (decide_eq_true hlt)]
        refine wpAny_bind ?_
        show wpAny _ _ (_ >>= _) _ _ _
        refine wpAny_bind ?_
        show wpAny _ _ (seqItems? (.ref a) >>= _) _ _ _
        refine wpAny_bind (wpAny_seqItems ho rfl (wpAny_pure (wpAny_bind ?_)))
        show wpAny _ _ (match its.toArray[(pos - 1) / 2]? with | some v => pure v | none => _) _ _ _
        rw [e2]
        refine wpAny_pure (wpAny_bind ?_)
        show wpAny _ _ (match its.toArray[pos]? with | some v => pure v | none => _) _ _ _
        rw [e1]
        refine wpAny_pure (swap_ok (s := { s with heap := h, toks := tk }) hpar hp hz ho r e2 e1 fun h' its' n' r' ho' hk => ?_)
        · show wpAny _ _ (pure (PySem.Fin.again _)) _ _ _
          refine wpAny_pure ⟨plainId_quiet sift_plain _, ?_⟩
          refine ih ((pos - 1) / 2) (swapI ns ((pos - 1) / 2) pos) its' n' h' tk _ _ _ (by omega) (by rw [swapI_len]; exact hpar) (by rw [swapI_len]; exact hz) ho' r' fun h2 its2 n2 tk2 r2 ho2 hk2 => hR h2 its2 n2 tk2 r2 ho2 fun b o hb e => hk2 b o hb (hk b o hb e)
      · rw [if_neg hlt] at hR
        rw [if_neg (by rw [decide_eq_false hlt]; decide), if_pos (by decide)]
        exact wpAny_pure (hR h its n tk r ho fun b o _ e => e)
    · have h0 : pos = 0 := by omega
      subst h0
      rw [if_neg (by decide), if_pos (by decide)]
      exact wpAny_pure (hR h its n tk r ho fun b o _ e => e)
theorem down_loop {a : Addr} {res : Value} {R : Result → Shared → Prop} : ∀ (f pos : Nat) (ns : List Int) (its : List Value) (n : Nat) (h : Heap) (tk : Nat) (t1 t2 t3 : Tok), ns.length ≤ pos + f → pos < ns.length → ns.length ≤ sizeLine → h.get? a = some (lsO its n) → Vals (ns.map V.int) its →
    (∀ h' its' n' tk', Vals ((downF f ns pos).map V.int) its' → h'.get? a = some (lsO its' n') → (∀ b o, b ≠ a → h.get? b = some o → h'.get? b = some o) → R (.ok (.ret res)) { s with heap := h', toks := tk' }) →
    codeAny (model prog w) A (.builtin "_heapq.heapify.sift" ⟨[.ref a, .bool false, .bool true, .int (pos : Int) t1, .int ((0 : Nat) : Int) t2, res, .int (-1) t3], []⟩) R { s with heap := h, toks := tk } := by
  intro f
  induction f with
  | zero =>
    intro pos ns its n h tk t1 t2 t3 hf hp
    exact absurd hp (by omega)
  | succ f ih =>
    intro pos ns its n h tk t1 t2 t3 hf hp hz ho r hR
    refine codeAny_builtin sift_entry ?_
    rw [Around.under_plainId sift_plain _]
    unfold Builtin.«_heapq.heapify.sift»
    dsimp only
    refine wpAny_bind ?_
    show wpAny _ _ (seqItems? (.ref a) >>= _) _ _ _
    refine wpAny_bind (wpAny_seqItems ho rfl (wpAny_pure ?_))
    have hsz := vals_size r
    rw [if_pos rfl]
    rw [show ((pos : Int)).toNat = pos from Int.toNat_natCast pos]
    by_cases hp0 : pos < ns.length / 2
    · have eD : downF (f + 1) ns pos = downF f (swapI ns (kidI ns pos) pos) (kidI ns pos) := by
        show (if pos < ns.length / 2 then _ else _) = _
        rw [if_pos hp0]
      rw [eD] at hR
      rw [if_pos (by rw [hsz]; exact hp0)]
      have hl : 2 * pos + 1 < ns.length := by omega
      obtain ⟨u0, e0⟩ := val_at r hp
      obtain ⟨u1, e1⟩ := val_at r hl
      have fin : ∀ (c : Nat), kidI ns pos = c → c < ns.length → pos < c → ∀ h' its' n', Vals ((swapI ns c pos).map V.int) its' → h'.get? a = some (lsO its' n') → (∀ b o, b ≠ a → h.get? b = some o → h'.get? b = some o) →
          ∀ t1 t2 t3, codeAny (model prog w) A (.builtin "_heapq.heapify.sift" ⟨[.ref a, .bool false, .bool true, .int (c : Int) t1, .int ((0 : Nat) : Int) t2, res, .int (-1) t3], []⟩) R { s with heap := h', toks := tk } := fun c ec hc hpc h' its' n' r' ho' hk t1 t2 t3 => by
        rw [ec] at hR
        exact ih c (swapI ns c pos) its' n' h' tk t1 t2 t3 (by rw [swapI_len]; omega) (by rw [swapI_len]; exact hc) (by rw [swapI_len]; exact hz) ho' r' fun h2 its2 n2 tk2 r2 ho2 hk2 => hR h2 its2 n2 tk2 r2 ho2 fun b o hb e => hk2 b o hb (hk b o hb e)
      by_cases h2 : 2 * pos + 1 + 1 < ns.length
      · rw [if_pos (by rw [hsz]; exact h2)]
        obtain ⟨u2, e2⟩ := val_at r h2
        refine wpAny_bind ?_
        show wpAny _ _ (match its.toArray[2 * pos + 1]? with | some v => pure v | none => _) _ _ _
        rw [e1]
        refine wpAny_pure (wpAny_bind ?_)
        show wpAny _ _ (match its.toArray[2 * pos + 1 + 1]? with | some v => pure v | none => _) _ _ _
        rw [e2]
        refine wpAny_pure ?_
        rw [if_neg (by decide)]
        refine wpAny_bind ?_
        show wpAny _ _ (holding _ _ >>= _) _ _ _
        refine wpAny_bind (wpAny_holding (rlt ?_))
        refine wpAny_bind ?_
        show wpAny _ _ (seqItems? (.ref a) >>= _) _ _ _
        refine wpAny_bind (wpAny_seqItems ho rfl (wpAny_pure ?_))
        dsimp only
        rw [if_neg (by simp)]
        refine wpAny_pure ?_
        by_cases hlt : ns.getD (2 * pos + 1) 0 < ns.getD (2 * pos + 1 + 1) 0
        · have ek : kidI ns pos = 2 * pos + 1 := by unfold kidI; rw [if_pos h2, if_pos hlt]
          rw [if_neg (by rw [decide_eq_true hlt]; decide)]
          refine wpAny_bind ?_
          show wpAny _ _ (_ >>= _) _ _ _
          refine wpAny_bind ?_
          show wpAny _ _ (seqItems? (.ref a) >>= _) _ _ _
          refine wpAny_bind (wpAny_seqItems ho rfl (wpAny_pure (wpAny_bind ?_)))
          show wpAny _ _ (match its.toArray[2 * pos + 1]? with | some v => pure v | none => _) _ _ _
          rw [e1]
          refine wpAny_pure (wpAny_bind ?_)
          show wpAny _ _ (match its.toArray[pos]? with | some v => pure v | none => _) _ _ _
          rw [e0]
          refine wpAny_pure (swap_ok (s := { s with heap := h, toks := tk }) hl hp hz ho r e1 e0 fun h' its' n' r' ho' hk => ?_)
          show wpAny _ _ (pure (PySem.Fin.again _)) _ _ _
          exact wpAny_pure ⟨plainId_quiet sift_plain _, fin _ ek hl (by omega) h' its' n' r' ho' hk _ _ _⟩
        · have ek : kidI ns pos = 2 * pos + 1 + 1 := by unfold kidI; rw [if_pos h2, if_neg hlt]
          rw [if_pos (by rw [decide_eq_false hlt]; decide)]
          refine wpAny_bind ?_
          show wpAny _ _ (_ >>= _) _ _ _
          refine wpAny_bind ?_
          show wpAny _ _ (seqItems? (.ref a) >>= _) _ _ _
          refine wpAny_bind (wpAny_seqItems ho rfl (wpAny_pure (wpAny_bind ?_)))
          show wpAny _ _ (match its.toArray[2 * pos + 1 + 1]? with | some v => pure v | none => _) _ _ _
          rw [e2]
          refine wpAny_pure (wpAny_bind ?_)
          show wpAny _ _ (match its.toArray[pos]? with | some v => pure v | none => _) _ _ _
          rw [e0]
          refine wpAny_pure (swap_ok (s := { s with heap := h, toks := tk }) h2 hp hz ho r e2 e0 fun h' its' n' r' ho' hk => ?_)
          show wpAny _ _ (pure (PySem.Fin.again _)) _ _ _
          exact wpAny_pure ⟨plainId_quiet sift_plain _, fin _ ek h2 (by omega) h' its' n' r' ho' hk _ _ _⟩
      · have ek : kidI ns pos = 2 * pos + 1 := by unfold kidI; rw [if_neg h2]
        rw [if_neg (by rw [hsz]; exact h2)]
        refine wpAny_bind ?_
        show wpAny _ _ (_ >>= _) _ _ _
        refine wpAny_bind ?_
        show wpAny _ _ (seqItems? (.ref a) >>= _) _ _ _
        refine wpAny_bind (wpAny_seqItems ho rfl (wpAny_pure (wpAny_bind ?_)))
        show wpAny _ _ (match its.toArray[2 * pos + 1]? with | some v => pure v | none => _) _ _ _
        rw [e1]
        refine wpAny_pure (wpAny_bind ?_)
        show wpAny _ _ (match its.toArray[pos]? with | some v => pure v | none => _) _ _ _
        rw [e0]
        refine wpAny_pure (swap_ok (s := { s with heap := h, toks := tk }) hl hp hz ho r e1 e0 fun h' its' n' r' ho' hk => ?_)
        show wpAny _ _ (pure (PySem.Fin.again _)) _ _ _
        exact wpAny_pure ⟨plainId_quiet sift_plain _, fin _ ek hl (by omega) h' its' n' r' ho' hk _ _ _⟩
    · have eD : downF (f + 1) ns pos = upF pos ns pos := by
        show (if pos < ns.length / 2 then _ else _) = _
        rw [if_neg hp0]
      rw [eD] at hR
      rw [if_neg (by rw [hsz]; exact hp0)]
      show wpAny _ _ (pure (PySem.Fin.again _)) _ _ _
      exact wpAny_pure ⟨plainId_quiet sift_plain _, up_loop pos pos ns its n h tk _ _ _ (Nat.le_refl _) hp hz ho r hR⟩
end
theorem push_entry : entryFor table "_heapq.heappush" = some Builtin.«_heapq.heappush» := entryFor_of_tree (by kernel_rfl)
theorem push_plain : plainId "_heapq.heappush" = true := by decide +kernel
theorem push_kind : builtinKind "_heapq.heappush" = none := by decide +kernel
theorem push_args (a b : Value) : argsOk "_heapq.heappush" ⟨[a, b], []⟩ := by unfold argsOk; kernel_rfl
theorem pop_entry : entryFor table "_heapq.heappop" = some Builtin.«_heapq.heappop» := entryFor_of_tree (by kernel_rfl)
theorem pop_plain : plainId "_heapq.heappop" = true := by decide +kernel
theorem pop_kind : builtinKind "_heapq.heappop" = none := by decide +kernel
theorem pop_args (a : Value) : argsOk "_heapq.heappop" ⟨[a], []⟩ := by unfold argsOk; kernel_rfl
/-- the list behind a push, behind a pop -/
def pushI (ns : List Int) (x : Int) : List Int := upF ns.length (ns ++ [x]) ns.length
def popI (ns : List Int) : List Int := if ns.length = 1 then [] else downF (ns.length - 1) (ns.dropLast.set 0 (ns.getD (ns.length - 1) 0)) 0
def rPush : List V → Hp → VK → Prop := fun xs H Q => ∃ (a : Addr) (ns : List Int) (x : Int), xs = [.ref a, .int x] ∧ H a = some (.lst (ns.map V.int)) ∧ ns.length < sizeLine ∧ Q .non (upd H a (.lst ((pushI ns x).map V.int)))
def rPop : List V → Hp → VK → Prop := fun xs H Q => ∃ (a : Addr) (ns : List Int), xs = [.ref a] ∧ H a = some (.lst (ns.map V.int)) ∧ 0 < ns.length ∧ Q (.int (ns.getD 0 0)) (upd H a (.lst ((popI ns).map V.int)))
theorem upF_len : ∀ (f : Nat) (l : List Int) (p : Nat), (upF f l p).length = l.length
  | 0, _, _ => rfl
  | f + 1, l, p => by
    show (if p > 0 then (if _ then _ else _) else _ : List Int).length = _
    by_cases h : p > 0
    · rw [if_pos h]
      by_cases h2 : l.getD p 0 < l.getD ((p - 1) / 2) 0
      · rw [if_pos h2, upF_len f, swapI_len]
      · rw [if_neg h2]
    · rw [if_neg h]
theorem downF_len : ∀ (f : Nat) (l : List Int) (p : Nat), (downF f l p).length = l.length
  | 0, l, p => upF_len _ _ _
  | f + 1, l, p => by
    show (if p < l.length / 2 then _ else _ : List Int).length = _
    by_cases h : p < l.length / 2
    · rw [if_pos h, downF_len f, swapI_len]
    · rw [if_neg h, upF_len]
section
variable {X : Cx}
theorem inv_lst {pins : List (Addr × Obj)} {σ : L2.St} {H : Hp} {s : Shared} {p : Addr} {xs ys : List V} {its' : List Value} {n' : Nat} {h' : Heap} (I : Inv X pins σ H s) (h : H p = some (.lst xs)) (e : h'.get? p = some (lsO its' n')) (hk : ∀ b o, b ≠ p → s.heap.get? b = some o → h'.get? b = some o) (r : Vals ys its') (hz : ys.length ≤ sizeLine) (t : Nat) :
    Inv X pins σ (upd H p (.lst ys)) { s with heap := h', toks := t } :=
  I.write (x := p) (e := p) (by rw [h]; trivial) (.inl rfl) (fun b u hb q => hk b u hb q) ⟨_, e⟩ ⟨hz, its', n', r, e⟩
theorem cr_push (hc : X.calm = true) : CallR X (.builtin "_heapq.heappush") rPush := by
  intro pins s σ H xs us Q I rx h
  obtain ⟨a, ns, x, rfl, ha, hz, hq⟩ := h
  cases rx with
  | cons r1 rr =>
    cases rr with
    | cons r2 rr =>
      cases rr
      cases r1
      obtain ⟨tx, rfl⟩ := r2
      obtain ⟨its, n, r, ho, _⟩ := I.lst ha
      refine PyProof.Rows.kmb_tree push_kind push_plain push_entry (push_args _ _) ?_
      unfold Builtin.«_heapq.heappush»
      refine wpAny_bind ?_
      show wpAny _ _ (noKeywords _ _ >>= _) _ _ _
      refine wpAny_bind (m := noKeywords _ _) (wpAny_pure ?_)
      refine wpAny_bind (m := checkCount _ _ _ _) (wpAny_pure ?_)
      dsimp only
      refine wpAny_bind ?_
      show wpAny _ _ (isInstance _ _ >>= _) _ _ _
      refine wpAny_bind (wpAny_isInstance (T := "list") (b := true) ⟨_, ho, rfl⟩ (by rfl) ?_)
      rw [if_pos rfl]
      refine wpAny_pure (wpAny_pure ?_)
      dsimp only
      have hsz := vals_size r
      obtain ⟨n1, eo⟩ : ∃ n1, Obj.mapSeq (fun xs : Array Value => xs.push (.int x tx)) (lsO its n) = lsO (its ++ [.int x tx]) n1 := map_lsO _ (by simp) n
      have rx : RelV (.int x) (.int x tx) := ⟨_, rfl⟩
      have r' : Vals ((ns ++ [x]).map V.int) (its ++ [.int x tx]) := by rw [List.map_append]; exact r.append (.cons rx .nil)
      have hl : (ns ++ [x]).length = ns.length + 1 := by rw [List.length_append]; rfl
      have hz' : (ns ++ [x]).length ≤ sizeLine := by rw [hl]; exact hz
      refine wpAny_bind (wpAny_updateSeq ho rfl ?_ (by rw [hsz]; exact Nat.le_of_lt hz) (by rw [Array.size_push, hsz]; omega))
      have ho' : (s.heap.update a (Obj.mapSeq fun xs : Array Value => xs.push (.int x tx))).get? a = some (lsO (its ++ [.int x tx]) n1) := by rw [Heap.get?_update_self _ ho (by rw [eo] <;> rfl), eo]
      have hk : ∀ b o, b ≠ a → s.heap.get? b = some o → (s.heap.update a (Obj.mapSeq fun xs : Array Value => xs.push (.int x tx))).get? b = some o := fun b o hb e => (Heap.get?_update_other _ _ (Ne.symm hb)).trans e
      generalize s.heap.update a (Obj.mapSeq fun xs : Array Value => xs.push (.int x tx)) = h1 at *
      refine wpAny_bind ?_
      show wpAny _ _ (seqItems? (.ref a) >>= _) _ _ _
      refine wpAny_bind (wpAny_seqItems (s := { s with heap := h1 }) ho' rfl (wpAny_pure ?_))
      show wpAny _ _ (pure (PySem.Fin.again _)) _ _ _
      refine wpAny_pure ⟨plainId_quiet sift_plain _, ?_⟩
      have hsz' : (its ++ [Value.int x tx]).toArray.size - 1 = ns.length := by rw [vals_size r', hl]; rfl
      rw [hsz']
      exact up_loop (s := s) ns.length ns.length (ns ++ [x]) _ n1 h1 s.toks _ _ _ (Nat.le_refl _) (by omega) hz' ho' r' fun h' its' n' tk' r2 ho2 hk2 => ⟨.non, _, inv_lst I ha ho2 (fun b o hb e => hk2 b o hb (hk b o hb e)) r2 (by rw [List.length_map, upF_len]; exact hz') tk', rfl, hq⟩
theorem cr_pop (hc : X.calm = true) : CallR X (.builtin "_heapq.heappop") rPop := by
  intro pins s σ H xs us Q I rx h
  obtain ⟨a, ns, rfl, ha, hn, hq⟩ := h
  cases rx with
  | cons r1 rr =>
    cases rr
    cases r1
    obtain ⟨its, n, r, ho, hz⟩ := I.lst ha
    rw [List.length_map] at hz
    have hsz := vals_size r
    obtain ⟨tl, el⟩ := val_at r (i := ns.length - 1) (by omega)
    obtain ⟨t0, e0⟩ := val_at r (i := 0) hn
    refine PyProof.Rows.kmb_tree pop_kind pop_plain pop_entry (pop_args _) ?_
    unfold Builtin.«_heapq.heappop»
    show wpAny _ _ (_ >>= _) _ _ _
    refine wpAny_bind ?_
    show wpAny _ _ (oneArg _ _ >>= _) _ _ _
    refine wpAny_bind (m := oneArg _ _) (wpAny_pure ?_)
    refine wpAny_bind ?_
    show wpAny _ _ (isInstance _ _ >>= _) _ _ _
    refine wpAny_bind (wpAny_isInstance (T := "list") (b := true) ⟨_, ho, rfl⟩ (by rfl) ?_)
    dsimp only
    rw [if_pos rfl]
    refine wpAny_pure (wpAny_pure ?_)
    dsimp only
    refine wpAny_bind ?_
    show wpAny _ _ (seqItems? (.ref a) >>= _) _ _ _
    refine wpAny_bind (wpAny_seqItems ho rfl (wpAny_pure ?_))
    have eb : its.toArray.back? = some (.int (ns.getD (ns.length - 1) 0) tl) := by
      rw [← el, Array.back?, hsz]
    rw [eb]
    dsimp only
    obtain ⟨n1, eo⟩ : ∃ n1, Obj.mapSeq (fun xs : Array Value => xs.pop) (lsO its n) = lsO its.dropLast n1 := map_lsO _ (by simp) n
    have r' : Vals (ns.dropLast.map V.int) its.dropLast := by
      have h1 := r.length
      rw [List.length_map] at h1
      have := r.take (ns.length - 1)
      rw [← List.map_take, ← List.dropLast_eq_take, h1, ← List.dropLast_eq_take] at this
      exact this
    refine wpAny_bind (wpAny_updateSeq ho rfl ?_ (by rw [hsz]; exact hz) (by rw [Array.size_pop, hsz]; omega))
    have ho' : (s.heap.update a (Obj.mapSeq fun xs : Array Value => xs.pop)).get? a = some (lsO its.dropLast n1) := by rw [Heap.get?_update_self _ ho (by rw [eo] <;> rfl), eo]
    have hk : ∀ b o, b ≠ a → s.heap.get? b = some o → (s.heap.update a (Obj.mapSeq fun xs : Array Value => xs.pop)).get? b = some o := fun b o hb e => (Heap.get?_update_other _ _ (Ne.symm hb)).trans e
    generalize s.heap.update a (Obj.mapSeq fun xs : Array Value => xs.pop) = h1 at *
    have hdl : ns.dropLast.length = ns.length - 1 := List.length_dropLast
    rw [hsz]
    by_cases h1n : ns.length = 1
    · rw [if_pos (by rw [h1n]; rfl)]
      have e : popI ns = [] := if_pos h1n
      rw [e] at hq
      rw [h1n]
      have r0 : Vals (([] : List Int).map V.int) its.dropLast := by
        have : ns.dropLast = [] := List.eq_nil_of_length_eq_zero (by rw [hdl, h1n])
        rw [this] at r'; exact r'
      exact wpAny_pure ⟨.int (ns.getD 0 0), _, inv_lst I ha ho' hk r0 (Nat.zero_le _) s.toks, ⟨_, rfl⟩, hq⟩
    · rw [if_neg (by intro z; exact h1n (by simpa using z))]
      have e : popI ns = downF (ns.length - 1) (ns.dropLast.set 0 (ns.getD (ns.length - 1) 0)) 0 := if_neg h1n
      rw [e] at hq
      refine wpAny_bind ?_
      show wpAny _ _ (match its.toArray[0]? with | some v => pure v | none => _) _ _ _
      rw [e0]
      refine wpAny_pure ?_
      have rl : RelV (.int (ns.getD (ns.length - 1) 0)) (.int (ns.getD (ns.length - 1) 0) tl) := ⟨_, rfl⟩
      have r2 : Vals ((ns.dropLast.set 0 (ns.getD (ns.length - 1) 0)).map V.int) (its.dropLast.set 0 (.int (ns.getD (ns.length - 1) 0) tl)) := by rw [List.map_set]; exact r'.set rl 0
      obtain ⟨n2, eo2⟩ : ∃ n2, Obj.mapSeq (fun xs : Array Value => xs.setIfInBounds 0 (.int (ns.getD (ns.length - 1) 0) tl)) (lsO its.dropLast n1) = lsO (its.dropLast.set 0 (.int (ns.getD (ns.length - 1) 0) tl)) n2 := map_lsO _ (by simp) n1
      have hsz' := vals_size r'
      have hl2 : (ns.dropLast.set 0 (ns.getD (ns.length - 1) 0)).length = ns.length - 1 := by rw [List.length_set, hdl]
      refine wpAny_bind (wpAny_updateSeq (s := { s with heap := h1 }) ho' rfl ?_ (by rw [hsz', hdl]; omega) (by rw [Array.size_setIfInBounds, hsz', hdl]; omega))
      have ho2 : (h1.update a (Obj.mapSeq fun xs : Array Value => xs.setIfInBounds 0 (.int (ns.getD (ns.length - 1) 0) tl))).get? a = some (lsO (its.dropLast.set 0 (.int (ns.getD (ns.length - 1) 0) tl)) n2) := by rw [Heap.get?_update_self _ ho' (by rw [eo2] <;> rfl), eo2]
      have hk2 : ∀ b o, b ≠ a → h1.get? b = some o → (h1.update a (Obj.mapSeq fun xs : Array Value => xs.setIfInBounds 0 (.int (ns.getD (ns.length - 1) 0) tl))).get? b = some o := fun b o hb e => (Heap.get?_update_other _ _ (Ne.symm hb)).trans e
      dsimp only
      generalize h1.update a (Obj.mapSeq fun xs : Array Value => xs.setIfInBounds 0 (.int (ns.getD (ns.length - 1) 0) tl)) = h2 at *
      show wpAny _ _ (pure (PySem.Fin.again _)) _ _ _
      refine wpAny_pure ⟨plainId_quiet sift_plain _, ?_⟩
      exact down_loop (s := s) (ns.length - 1) 0 _ _ n2 h2 s.toks _ _ _ (by rw [hl2]; omega) (by rw [hl2]; omega) (by rw [hl2]; omega) ho2 r2 fun h' its' n' tk' r3 ho3 hk3 => ⟨.int (ns.getD 0 0), _, inv_lst I ha ho3 (fun b o hb e => hk3 b o hb (hk2 b o hb (hk b o hb e))) r3 (by rw [List.length_map, downF_len, hl2]; omega) tk', ⟨_, rfl⟩, hq⟩
end
end HQ
namespace HQ
open PySem PySem.Spec PyProof.Rows L2
/-! ## heaps as lists: what is in them -/
theorem swap_perm {l : List Int} {i j : Nat} (hi : i < l.length) (hj : j < l.length) : (swapI l i j).Perm l := by
  rw [List.perm_iff_count]
  intro b
  unfold swapI
  have gi : l.getD i 0 = l[i] := by rw [List.getD_eq_getElem?_getD, List.getElem?_eq_getElem hi]; rfl
  have gj : l.getD j 0 = l[j] := by rw [List.getD_eq_getElem?_getD, List.getElem?_eq_getElem hj]; rfl
  rw [gi, gj, List.count_set (by rw [List.length_set]; exact hj), List.count_set hi, List.getElem_set]
  have ci : (if (l[i] == b) = true then 1 else 0) ≤ l.count b := by
    by_cases h : (l[i] == b) = true
    · rw [if_pos h]
      exact List.count_pos_iff.mpr (by rw [← eq_of_beq h]; exact List.getElem_mem hi)
    · rw [if_neg h]; exact Nat.zero_le _
  by_cases e : i = j
  · subst e
    rw [if_pos rfl]
    omega
  · rw [if_neg e]
    have cj : (if (l[j] == b) = true then 1 else 0) ≤ l.count b := by
      by_cases h : (l[j] == b) = true
      · rw [if_pos h]
        exact List.count_pos_iff.mpr (by rw [← eq_of_beq h]; exact List.getElem_mem hj)
      · rw [if_neg h]; exact Nat.zero_le _
    by_cases h1 : (l[i] == b) = true <;> by_cases h2 : (l[j] == b) = true <;> simp only [h1, h2, if_true, if_false, Bool.false_eq_true] at ci cj ⊢ <;> omega
theorem up_perm : ∀ (f : Nat) (l : List Int) (p : Nat), p < l.length → (upF f l p).Perm l
  | 0, _, _, _ => .refl _
  | f + 1, l, p, h => by
    show (if p > 0 then (if _ then _ else _) else _ : List Int).Perm l
    by_cases h0 : p > 0
    · rw [if_pos h0]
      by_cases h2 : l.getD p 0 < l.getD ((p - 1) / 2) 0
      · rw [if_pos h2]
        exact (up_perm f _ _ (by rw [swapI_len]; omega)).trans (swap_perm (by omega) h)
      · rw [if_neg h2]
    · rw [if_neg h0]
theorem kid_lt {l : List Int} {p : Nat} (h : p < l.length / 2) : kidI l p < l.length ∧ p < kidI l p := by
  unfold kidI
  by_cases h2 : 2 * p + 1 + 1 < l.length
  · rw [if_pos h2]
    by_cases h3 : l.getD (2 * p + 1) 0 < l.getD (2 * p + 1 + 1) 0
    · rw [if_pos h3]; omega
    · rw [if_neg h3]; omega
  · rw [if_neg h2]; omega
theorem down_perm : ∀ (f : Nat) (l : List Int) (p : Nat), p < l.length → (downF f l p).Perm l
  | 0, l, p, h => up_perm p l p h
  | f + 1, l, p, h => by
    show (if p < l.length / 2 then _ else _ : List Int).Perm l
    by_cases h0 : p < l.length / 2
    · rw [if_pos h0]
      have hk := kid_lt h0
      exact (down_perm f _ _ (by rw [swapI_len]; exact hk.1)).trans (swap_perm hk.1 h)
    · rw [if_neg h0]
      exact up_perm p l p h
theorem push_perm (ns : List Int) (x : Int) : (pushI ns x).Perm (x :: ns) := (up_perm _ _ _ (by rw [List.length_append]; show _ < _ + 1; omega)).trans (List.perm_append_comm.trans (List.Perm.refl _))
theorem pop_perm {ns : List Int} (h : 0 < ns.length) : (ns.getD 0 0 :: popI ns).Perm ns := by
  obtain ⟨x, rest, rfl⟩ : ∃ x rest, ns = x :: rest := by
    cases ns with
    | nil => cases h
    | cons x rest => exact ⟨x, rest, rfl⟩
  show (x :: popI (x :: rest)).Perm (x :: rest)
  refine .cons x ?_
  unfold popI
  by_cases h1 : (x :: rest).length = 1
  · rw [if_pos h1]
    have : rest = [] := List.eq_nil_of_length_eq_zero (by rw [List.length_cons] at h1; omega)
    rw [this]
  · rw [if_neg h1]
    obtain ⟨y, r2, rfl⟩ : ∃ y r2, rest = y :: r2 := by
      cases rest with
      | nil => exact absurd rfl h1
      | cons y r2 => exact ⟨y, r2, rfl⟩
    have hl : (x :: y :: r2).dropLast = x :: (y :: r2).dropLast := rfl
    refine (down_perm _ _ _ (by rw [List.length_set, hl]; exact Nat.succ_pos _)).trans ?_
    rw [hl]
    show ((x :: y :: r2).getD (r2.length + 1) 0 :: (y :: r2).dropLast).Perm _
    have hg : (x :: y :: r2).getD (r2.length + 1) 0 = (y :: r2).getLast (by simp) := by
      show (y :: r2).getD r2.length 0 = _
      rw [List.getD_eq_getElem?_getD, List.getLast_eq_getElem, List.getElem?_eq_getElem (show r2.length < (y :: r2).length by simp)]; rfl
    rw [hg]
    have := List.dropLast_concat_getLast (l := y :: r2) (by simp)
    exact (List.perm_append_comm (l₁ := [(y :: r2).getLast (by simp)]) (l₂ := (y :: r2).dropLast)).trans (by rw [this])
end HQ
/-! a dict comprehension whose keys are tuples of ints and texts -/
namespace L2
open PySem PySem.Spec PyProof.Rows
theorem put_tup {X : Cx} {ps : List (Addr × Obj)} {σ : St} {H : Hp} {s : Shared} {E : Value → Shared → Prop} {b D : Addr} {es : List (List Key × V)} {k : List Key} {v : V} {r : Value} {Q : Unit → Shared → Prop}
    (hu : X.A.units < cLine) (J : Inv X ps σ H s) (hb : H b = some (.tup (k.map kV))) (hD : H D = some (.dT es)) (hn : es.length < sizeLine) (hv : RelV v r)
    (go : ∀ s2, Inv X ps σ (upd H D (.dT (putK es k v))) s2 → Q () s2) : wpAny (model X.prog X.w) X.A (dictSet D (.ref b) r) Q E s := by
  obtain ⟨le, low, xs, rel, at_⟩ := dt_of J.hok hD
  have l1 : xs.length ≤ sizeLine := Paired.length rel ▸ le
  have l2 : (putK es k v).length ≤ sizeLine := Nat.le_trans (length_putK es k v) hn
  refine wpAny_dictSet_heap (hsz := l1) hu (key_of J.hok hb) at_ fun h2 d2 sb => go _ ?_
  obtain ⟨o2, e2, ep2, c1, c2, c3, c4, _, c6⟩ := d2
  refine d_write J (by rw [hD]; exact True.intro) sb ⟨o2, c1⟩ ⟨l2, low, _, (rel.put k hb hv).keeps fun c ys hc => ?_, o2, e2, ep2, c1, c2, c3, c4, c6⟩
  exact (upd_ne (ne_of hc hD (fun z => nomatch z))).trans hc
section
variable {X : Cx}
/-- one turn: the target, the test, the key, the value, the store -/
def dctTurn (D : Addr) (g : TG) (tt : TT) (tk tv : TE) (vs : List Nat) (σ : St) (Nx : Hp → Prop) (x : V) (H : Hp) : Prop :=
  g x (wipe σ vs) H fun τ G1 => wipe τ vs = wipe σ vs ∧ tt τ G1 fun b G2 => if b = true then tk τ G2 fun y G3 => tv τ G3 fun z G4 =>
    ∃ (es : List (List Key × V)) (k : List Key) (c : Addr), y = .ref c ∧ G4 c = some (.tup (k.map kV)) ∧ G4 D = some (.dT es) ∧ es.length < sizeLine ∧ Nx (upd G4 D (.dT (putK es k z))) else Nx G2
def tDct (wi : TI) (g : TG) (tt : TT) (tk tv : TE) (vs : List Nat) : TE := fun σ H Q => wi σ H fun J H1 => ∀ D, H1 D = none → ∃ W : Nat → Nat → Hp → Prop, (∃ m, W 0 m (upd H1 D (.dT []))) ∧
  ∀ i m G, W i m G → (J.stop i G ∧ Q (.ref D) G) ∨ (J.go i G ∧ ∃ Nx : Hp → Prop, (∀ G2, Nx G2 → ∃ m2, m2 < m ∧ W (i + 1) m2 G2) ∧ ∀ x G2, J.yld i G x G2 → dctTurn D g tt tk tv vs σ Nx x G2)
abbrev InBlk (X : Cx) (scope : Scope) (F : Cx → Prop) : Prop := ∀ (s : Shared) (H : Hp) (C : Addr) (cl : List (Str × Addr)) (fp : List Addr), F (X.blk s H scope (compEnvC scope cl C X.env) fp)
theorem pe_dct {kx vx tg iter : Expr} {ifs : List Expr} {scope : Scope} {own : List (Str × Nat)} {pos : Pos} {wi : TI} {g : TG} {tt : TT} {tk tv : TE} (calm : X.calm = true) (nd : X.N.Nodup) (hu : X.A.units < cLine)
    (walk : PI X tg iter wi) (ok : BlkOk X.N X.env.scope scope own) (bg : InBlk X scope fun Y => PG Y tg g) (bt : InBlk X scope fun Y => PTs Y ifs tt) (bk : InBlk X scope fun Y => PE Y kx tk) (bv : InBlk X scope fun Y => PE Y vx tv)
    (plain : ∀ x, foldedSetIterable iter X.env x = pure x := by intro _; rfl) : PE X (.DictComp kx vx [⟨tg, iter, ifs, 0⟩] scope pos) (tDct wi g tt tk tv (own.map (·.2))) := by
  refine ⟨fun ps s σ H Q I hyp => ?_⟩
  rw [arm_eval_DictComp]
  have clo := closure_ok (env := X.env) (scope := scope) fun y hy e => (ok.free y hy e).elim (fun k => I.ok.has _ (.inl k)) (fun k => I.ok.has _ (.inr k))
  refine wpAny_comprehension_free (use := none) rfl plain clo ok.kind (fun y hy e => (ok.uniq y hy).trans (congrArg some e)) (thn (walk.run ps s σ H _ I hyp) fun _ s1 got => thn got fun _ s2 more => ?_)
  obtain ⟨it, fp, tn, J, H2, rfl, I2, T, here, fpok, rest⟩ := more
  refine wpAny_newObj_type (newEnv_comp ?_)
  let D : Addr := s2.heap.objs.size
  have free : H2 D = none := I2.hok.fresh (Nat.le_refl _)
  obtain ⟨W, ⟨m0, start⟩, turn⟩ := rest D free
  let s3 : Shared := { s2 with heap := s2.heap.push { cls := .type "dict", data := .dict #[] } }
  have old : ∀ b o, s2.heap.get? b = some o → s3.heap.get? b = some o := fun b o e => Heap.get?_push_of_some _ e
  have I3 : Inv X ps σ (upd H2 D (.dT [])) s3 := I2.laid (t' := s2.toks) old (Nat.le_refl _) (dt_empty s2.heap I2.big)
  have small : ∀ b ∈ fp, b < s2.heap.objs.size := fun b hb => (T.obj _ _ here b hb).elim fun _ e => Heap.lt_size e.1
  have fp3 : ∀ b ∈ fp, FpOk X ps (upd H2 D (.dT [])) b ∧ b < s3.heap.objs.size := fun b hb =>
    ⟨⟨(upd_ne (Nat.ne_of_lt (small b hb))).trans (fpok b hb).1, (fpok b hb).2⟩, Nat.lt_of_lt_of_eq (Nat.lt_succ_of_lt (small b hb)) (Heap.size_push ..).symm⟩
  have here3 : tn 0 s3.heap := T.keep _ _ _ here fun b _ o e => old b o e
  have I4 := block_start I3 ok nd fp3
  generalize hH3 : upd H2 D (.dT []) = H3 at I3 I4 fp3 start
  generalize hC : s3.heap.objs.size = C at I4 ⊢
  generalize hce : compEnvC scope (cellsFrom (C + 1) scope.names (cloFrom X.env.cells scope.names [])) C X.env = ce at I4
  have locC : ce.locals = C := by rw [← hce]; rfl
  have at_ : ∀ F : Cx → Prop, InBlk X scope F → F (X.blk s3 H3 scope ce fp) := fun F hF => by rw [← hce]; exact hF ..
  have pg := at_ _ bg
  have pt := at_ _ bt
  have pk := at_ _ bk
  have pv := at_ _ bv
  let B : Cx := X.blk s3 H3 scope ce fp
  let s4 : Shared := { s3 with heap := pushCells (s3.heap.push { cls := .type "dict", data := .dict #[] }) scope.names }
  show codeAny _ _ (.compStart (.DictComp kx vx [⟨tg, iter, ifs, 0⟩] scope pos) 0 (.ref it) (.ref D) (compEnvC scope (cellsFrom (C + 1) scope.names (cloFrom X.env.cells scope.names [])) C X.env)) _ s4
  rw [hce]
  have here4 : tn 0 s4.heap := T.keep _ _ _ here3 fun b _ o e => pushCells_keeps _ _ _ _ (Heap.get?_push_of_some _ e)
  have away : ∀ {τ : St} {G : Hp} {t : Shared}, Inv B [] τ G t → (∀ b ∈ fp, G b = none) → ∀ b ∈ fp, FpOk B [] G b := fun {τ G t} J hn b hb =>
    ⟨hn b hb, (J.ok.exf b hb).1, J.ok.exfs b hb, .inl hb, fun x c e => (J.ok.exf b hb).2 x c e, fun p hp => nomatch (show p ∈ ([] : List (Addr × Obj)) ++ [] from hp)⟩
  let Iv : Nat → Shared → Prop := fun n t => ∃ i G, Inv B [] (wipe σ (own.map (·.2))) G t ∧ tn i t.heap ∧ (∀ b ∈ fp, G b = none) ∧ W i n G
  refine codeAny_compStart_dict ?loop (T.self X.A 0 _ _ _ here4 ?loop)
  refine compLoop_anyD Iv ?_ m0 ⟨0, H3, I4, here4, fun b hb => (fp3 b hb).1.1, start⟩
  rintro n t ⟨i, G, J, st, no, w⟩
  rcases turn i n G w with ⟨stop, fin⟩ | ⟨go, Nx, hNx, step⟩
  · -- the walk is over
    refine thnF (T.done B rfl rfl rfl calm i [] t _ G (fun _ _ => False) J (away J no) st stop) fun r t2 ⟨er, J2⟩ => ?_
    subst er
    have back : Inv X ps σ G t2 := I3.call' (ch := fp) J2.os J2.base J2.hok J2.bare fun b hb => ⟨(fp3 b hb).1.2.2.2.1, (fp3 b hb).1.2.1, (fp3 b hb).1.2.2.2.2.1, (fp3 b hb).1.2.2.2.2.2⟩
    have noC : G C = none := locC ▸ (show G ce.locals = none from J2.free)
    obtain ⟨m, hm, _⟩ := J2.loc
    have fo := I3.fpOk (Nat.le_of_eq hC) noC
    refine ⟨m, locC ▸ (show t2.heap.Ns ce.locals m from hm), fun h3 sb => ?_⟩
    obtain ⟨f0, f1, f2, f3, f4, f5⟩ := fo
    exact ⟨.ref D, G, back.turned (t' := t2.toks) (fun b o hb e => (sb.2 b hb).trans e) f0 f1 f3 f4 f5, rfl, fin⟩
  · refine thnF (T.item B rfl rfl rfl calm i [] t _ G (fun _ _ => False) J (away J no) st go) fun r t2 ⟨u, er, more⟩ => ?_
    subst er
    refine thnF more fun _ t3 ⟨x, G3, J3, rx, hy, st3, no3⟩ => ?_
    have J3p := J3.pinned (away J3 no3) (T.obj _ _ st3)
    refine thnF (pg.run _ t3 _ G3 x u _ J3p rx (step x G3 hy)) fun _ t4 ⟨τ, G4, J4, hw, q4⟩ => ?_
    refine thnF (pt.run _ t4 τ G4 _ J4 q4) fun b t5 ⟨G5, J5, q5⟩ => ?_
    have again : ∀ {t' : Shared} {G' : Hp}, Inv B ([] ++ pinsAt fp t3.heap) τ G' t' → Nx G' → ∃ m, m < n ∧ Iv m t' := fun {t' G'} J' nx => by
      obtain ⟨m2, lt, w2⟩ := hNx G' nx
      have kept : ∀ c ∈ fp, ∀ o, t3.heap.get? c = some o → t'.heap.get? c = some o ∧ G' c = none := fun c hc o e =>
        let z := J'.pin (c, o) (List.mem_append_right _ (List.mem_append_right _ (mem_pinsAt hc e)))
        ⟨z.1, z.2.1⟩
      have len : (wipe σ (own.map (·.2))).length = τ.length := by rw [← hw, wipe_length]
      exact ⟨m2, lt, i + 1, G', (J'.unpinned (pins := [])).weak len (fun j v e => (wipe_some (hw ▸ e)).1), T.keep _ _ _ st3 fun c hc o e => (kept c hc o e).1,
        fun c hc => (T.obj _ _ st3 c hc).elim fun o e => (kept c hc o e.1).2, w2⟩
    cases b with
    | false =>
      simp only [Bool.false_eq_true, if_false] at q5 ⊢
      exact again J5 q5
    | true =>
      simp only [if_true] at q5 ⊢
      refine thnF (pk.run _ t5 τ G5 _ J5 q5) fun kv t6 ⟨y, G6, J6, ry, q6⟩ => ?_
      refine thnF (pv.run _ t6 τ G6 _ J6 q6) fun vv t7 ⟨z, G7, J7, rz, es, k, c, ey, hc, hD, hl, nx⟩ => ?_
      subst ey
      obtain rfl : kv = Value.ref c := ry
      exact put_tup (X := B) hu J7 hc hD hl rz fun t8 J8 => again J8 nx
end
end L2
/-! y = {k: v for ..}, y a plain local: the value goes straight to its name -/
namespace L2
open PySem PySem.Spec PyProof.Rows
section
variable {X : Cx}
theorem sw_trueD {kx vx : Expr} {gs : List Comprehension} {scope : Scope} {pos py : Pos} {y : Str} {l : Nat} {env : Env} (hk : env.scope.kind = .function) (hy : env.scope.names.lookup y = some .local) (hl : (py.line == pos.line) = true)
    (ha : (scope.names.any fun (n, k) => n == y && (k == .local || k == .cell)) = false) : swapsWith (.DictComp kx vx gs scope pos) (some (.Name y py)) l env = pure true := by
  have e1 : env.kindOf y = some .local := hy
  have e2 : env.blockKind = .function := by unfold Env.blockKind; rw [hk]; rfl
  unfold swapsWith
  simp only [e1, e2, ha, hl, Expr.pos]
  rfl
theorem ps_setDc {i : Nat} {y : Str} {py : Pos} {kx vx tg iter : Expr} {ifs : List Expr} {scope : Scope} {own : List (Str × Nat)} {pos spos : Pos} {wi : TI} {g : TG} {tt : TT} {tk tv : TE} (calm : X.calm = true) (nd : X.N.Nodup) (at_ : X.N[i]? = some y) (loc : X.env.scope.names.lookup y = some .local)
    (sw : swapsWith (.DictComp kx vx [⟨tg, iter, ifs, 0⟩] scope pos) (some (.Name y py)) spos.line X.env = pure true) (walk : PI X tg iter wi) (ok : BlkOk X.N X.env.scope scope own)
    (bg : InBlk X scope fun Y => PG Y tg g) (bt : InBlk X scope fun Y => PTs Y ifs tt) (bk : InBlk X scope fun Y => PE Y kx tk) (bv : InBlk X scope fun Y => PE Y vx tv) (plain : ∀ x, foldedSetIterable iter X.env x = pure x := by intro _; rfl) :
    PS X (.Assign [.Name y py] (.DictComp kx vx [⟨tg, iter, ifs, 0⟩] scope pos) spos) (tAsg (tDc wi g tt tk tv (own.map (·.2))) (gName i)) := by
  refine ⟨fun ps s σ H D I hyp => ?_⟩
  rw [exec_Assign_Name_used _ _ _ _ sw]
  refine wpAny_bind (wpAny_standAt (wpAny_bind ?_))
  show wpAny _ X.A (do let _ ← comprehension (.DictComp kx vx [⟨tg, iter, ifs, 0⟩] scope pos) scope X.env (firstIterPos [⟨tg, iter, ifs, 0⟩] pos) newDict false (eval iter X.env) (some (assign (.Name y py) X.env))) _ _ s
  have hyp2 : tDc wi g tt tk tv (own.map (·.2)) σ H (fun x G => gName i x σ G D.nx) := hyp
  refine wpAny_bind (thn (dc_core (Qf := fun _ t => SP X ps D .next t) calm nd I walk ok bg bt bk bv plain hyp2 fun L C t m G J fin hn fo => ?_) fun _ t ht => wpAny_pure (wpAny_pure ht))
  show wpAny _ _ (assign (.Name y py) X.env (.ref L)) _ _ _
  refine wpAny_assign_Name (store_ok2 (v := V.ref L) J nd at_ (.inl loc) rfl (fun t2 J2 ⟨b, sb, hb⟩ => ?_) (.inr loc))
  obtain ⟨f0, f1, f2, f3, f4, f5⟩ := fo
  have away : C ≠ b := by
    rcases hb with z | z
    · exact z ▸ f1
    · exact fun e => f4 y b z e.symm
  exact ⟨m, hn.sameBut sb away, fun h3 sb3 => ⟨_, G, J2.turned (t' := t2.toks) (fun c o hc e => (sb3.2 c hc).trans e) f0 f1 f3 f4 f5, fin⟩⟩
end
end L2
namespace XS
open PySem PySem.Spec PyProof.Rows L2 PySem.Froz
/-! sets of texts: set(xs), len, in, sorted, add -/
structure TxAt (P : Program) (w : World) (h : Heap) (a : Addr) (l : List Str) : Prop where
  ex : ∃ D : SD, h.get? a = some (sObj "set" D) ∧ TxOk P w D l ∧ Ris D.2.2.place.toList ∧ (w.params.followText "set-order" = true ∨ D.2.2.led = true)
  one : l.Nodup
  few : l.length < 64
theorem tail_ris {ep : Nat} {es : Array (Int × Value)} {t : SetTable} {d : Bool} (r : Ris t.place.toList) : Ris (tailTx ep es t d).2.2.place.toList ∧ (tailTx ep es t d).2.2.led = t.led := by
  unfold tailTx
  split
  · exact ⟨relayAll_ris _ _ _, relayAll_led _ _ _⟩
  · exact ⟨r, rfl⟩
theorem add_ris {D : SD} {h : Int} {v : Value} (r : Ris D.2.2.place.toList) : Ris (addTx h v D).2.2.place.toList ∧ (addTx h v D).2.2.led = D.2.2.led := by
  have r1 := layNew_ris D.2.2 D.1 h v r
  have e1 := layNew_led D.2.2 D.1 h v
  unfold addTx
  refine (fun z => ⟨(tail_ris z.1).1, (tail_ris z.1).2.trans z.2⟩) (?_ : Ris (SetTable.place _).toList ∧ SetTable.led _ = D.2.2.led)
  split
  · exact ⟨r1, e1⟩
  · exact ⟨r1, e1⟩
section
variable {P : Program} {w : World} {A : Around} {E : Value → Shared → Prop} {s : Shared} {a : Addr} {l : List Str}
theorem TxAt.at {h h' : Heap} (R : TxAt P w h a l) (k : ∀ o, h.get? a = some o → h'.get? a = some o) : TxAt P w h' a l := by
  obtain ⟨⟨D, ho, r⟩, x, y⟩ := R
  exact ⟨⟨D, k _ ho, r⟩, x, y⟩
theorem TxAt.setOf {h : Heap} (R : TxAt P w h a l) : h.SetOf (strKind P w) a (fun k => decide (k ∈ l)) l.length := by
  obtain ⟨⟨D, ho, F, _⟩, _, f⟩ := R
  exact ⟨_, D.1, D.2.1, D.2.2, ho, ⟨rfl, rfl, rfl⟩, rfl, F.el, (fun k => by rw [decide_eq_true_eq]; exact F.mem k), by rw [F.sz]; unfold scanBound; omega, F.fit, F.sz⟩
/-- a member added -/
theorem add_at {k : Str} {u : Tok} {Q : Bool → Shared → Prop} (R : TxAt P w s.heap a l) (hb : l.length + 1 < 64)
    (hQ : ∀ h' l' b, Heap.SameBut a s.heap h' → TxAt P w h' a l' → (k ∈ l ∧ l' = l ∨ k ∉ l ∧ l' = k :: l) → Q b { s with heap := h' }) : wpAny (model P w) A (setAddHashed a (.str k u) (hashStr w k)) Q E s := by
  by_cases hk : k ∈ l
  · have R' := R
    obtain ⟨⟨D, ho, F, hr, hl⟩, ho1, hf1⟩ := R
    obtain ⟨es, ep, t⟩ := D
    have hs : es.size = l.length := F.sz
    have hel : ElemsOf (strKind P w) es.toList := F.el
    have hd : (sObj "set" (es, ep, t)).data = .set es ep t := rfl
    unfold setAddHashed setAddHashedIn
    refine wpAny_holding (wpAny_bind (wpAny_setState_of ho hd F.fit ?_))
    dsimp only
    rw [byScan_of rfl (by rw [hs]; unfold scanBound; omega) hel]
    simp only [↓reduceIte]
    unfold setAddByScan
    refine wpAny_bind (wpAny_bind (wpAny_rule (wpAny_bind (wpAny_setScan_of (knd := strKind P w) (k := k) (is_str k u) ho hd F.fit hel ?_))))
    cases hfi : List.findIdx? (fun e => (strKind P w).is k e.2) es.toList with
    | none =>
      obtain ⟨e, he, q⟩ := (F.mem k).mp hk
      have c := List.findIdx?_eq_none_iff.mp hfi e he
      rw [q] at c
      cases c
    | some j =>
      dsimp only
      exact wpAny_pure (wpAny_pure (hQ s.heap l _ (Heap.SameBut.refl a s.heap) R' (.inl ⟨hk, rfl⟩)))
  · obtain ⟨⟨D, ho, F, hr, hl⟩, ho1, hf1⟩ := R
    refine add_x (u := u) ho F hk (by unfold scanBound; omega) (hQ _ (k :: l) _ ⟨Heap.size_update _ _ _, fun b hb => Heap.get?_update_other _ _ (Ne.symm hb)⟩ ⟨⟨_, get_upd _ ho rfl, add_ok u F, (add_ris hr).1, hl.imp id fun z => (add_ris hr).2.trans z⟩, List.nodup_cons.mpr ⟨hk, ho1⟩, hb⟩ (.inr ⟨hk, rfl⟩))
/-- set.add -/
theorem add_call {k : Str} {u : Tok} {Q : Value → Shared → Prop} (R : TxAt P w s.heap a l) (hb : l.length + 1 < 64)
    (hQ : ∀ h' l', Heap.SameBut a s.heap h' → TxAt P w h' a l' → (k ∈ l ∧ l' = l ∨ k ∉ l ∧ l' = k :: l) → Q .none { s with heap := h', toks := s.toks + 1 }) :
    wpAny (model P w) A (call (.builtin "set.add") [.ref a, .str k u]) Q E s := by
  refine wpAny_call_entry F.slot_set_add R.setOf.typeIs F.entry_set_add ?_ (F.args_set_add_2 _ _)
  unfold Builtin.«set.add» Builtin.Frozenset.oneOther
  simp only [List.isEmpty_nil, bind_assoc]
  unfold Builtin.Frozenset.addrOf setAdd
  refine wpAny_bind (wpAny_pure ?_)
  try dsimp only
  refine wpAny_bind (wpAny_pure ?_)
  try dsimp only
  refine wpAny_bind (wpAny_holding (wpAny_bind ((strKind P w).pyHash (strKind_is P w k u) ?_)))
  refine add_at (s := { s with toks := s.toks + 1 }) R hb fun h' l' b sb r z => ?_
  show wpAny _ _ (ret Value.none) _ _ _
  exact wpAny_pure ⟨_, rfl, hQ h' l' sb r z⟩
theorem tx_fresh {h : Heap} (ho : h.get? a = some { cls := .type "set", dict := none, data := .set #[] 0 (.fresh 0 0 (!w.params.followText "set-order")) }) : TxAt P w h a [] where
  ex := ⟨(#[], 0, .fresh 0 0 (!w.params.followText "set-order")), ho, TxOk.nil rfl, List.Pairwise.nil, by
    show _ ∨ (!w.params.followText "set-order") = true
    cases w.params.followText "set-order"
    · exact .inr rfl
    · exact .inl rfl⟩
  one := List.nodup_nil
  few := by show 0 < 64; decide
/-- the first i of xs, each once -/
structure Part (xs : List Str) (i : Nat) (l : List Str) : Prop where
  mem : ∀ x, x ∈ l ↔ x ∈ xs.take i
  len : l.length ≤ i
theorem Part.next {xs : List Str} {i : Nat} {l l' : List Str} {k : Str} (p : Part xs i l) (hk : xs[i]? = some k) (z : k ∈ l ∧ l' = l ∨ k ∉ l ∧ l' = k :: l) : Part xs (i + 1) l' := by
  have e : ∀ x, x ∈ xs.take (i + 1) ↔ x ∈ xs.take i ∨ x = k := fun x => by rw [List.take_add_one, hk]; simp
  rcases z with ⟨h, rfl⟩ | ⟨h, rfl⟩
  · exact ⟨fun x => by rw [e, p.mem]; exact ⟨.inl, fun z => z.elim id fun q => q ▸ (p.mem k).mp h⟩, Nat.le_succ_of_le p.len⟩
  · exact ⟨fun x => by rw [e, List.mem_cons, p.mem]; exact Or.comm, Nat.succ_le_succ p.len⟩
end

section
variable {P : Program} {w : World} {A : Around} {E : Value → Shared → Prop} {s : Shared} {R : Result → Shared → Prop} {I : Addr} {fp wr : List Addr} {G : Array GenState → Array GenState → Prop} {n : Nat} {Pv : Nat → Value → Prop} {St : Nat → Shared → Prop}
theorem upd_loop (W : WalksS P w A.in1 I fp wr G n Pv St) (a : Addr) (ha : a ∉ fp) (xs : List Str) (hn : n = xs.length) (few : xs.length < 64) (hv : ∀ i v, Pv i v → ∃ k u, xs[i]? = some k ∧ v = .str k u) :
    ∀ (m i : Nat) (s : Shared) (l : List Str), n - i = m → i ≤ n → St i s → TxAt P w s.heap a l → Part xs i l →
      (∀ s' l', Moved (a :: wr) G s s' → TxAt P w s'.heap a l' → Part xs n l' → R (.ok (.ret .none)) s') →
      codeAny (model P w) A (.builtin "set.update.loop" ⟨[.ref a, .ref I], []⟩) R s := by
  have aw : a ∉ wr := fun h => ha (W.sub _ h)
  have up : ∀ b ∈ wr, b ∈ a :: wr := fun b hb => List.mem_cons_of_mem _ hb
  intro m
  induction m with
  | zero =>
    intro i s l hm hi st T p hR
    obtain rfl : i = n := by omega
    refine codeAny_builtin F.entry_set_update_loop ?_
    rw [Around.under_plainId F.plain_set_update_loop _]
    show wpAny _ A.in1 (pyNext (.ref I) >>= _) _ _ s
    refine wpAny_bind (W.done s _ _ st fun s' mv => ?_)
    show wpAny _ A.in1 (ret Value.none) _ _ s'
    exact wpAny_pure (hR s' l (mv.mono up) (T.at fun o e => mv.heap a o aw e) p)
  | succ m ih =>
    intro i s l hm hi st T p hR
    have lt : i < n := by omega
    refine codeAny_builtin F.entry_set_update_loop ?_
    rw [Around.under_plainId F.plain_set_update_loop _]
    show wpAny _ A.in1 (pyNext (.ref I) >>= _) _ _ s
    refine wpAny_bind (W.item i s _ _ lt st fun v s' hP st' mv => ?_)
    obtain ⟨k, u, hk, rfl⟩ := hv i v hP
    have T1 : TxAt P w s'.heap a l := T.at fun o e => mv.heap a o aw e
    show wpAny _ A.in1 (holding [Value.str k u] (setAdd a (.str k u)) >>= _) _ _ s'
    refine wpAny_bind (wpAny_holding ?_)
    unfold setAdd
    refine wpAny_holding (wpAny_bind ((strKind P w).pyHash (strKind_is P w k u) ?_))
    refine add_at (s := { s' with toks := s'.toks + 1 }) T1 (by have := p.len; omega) fun h' l' b sb T2 z => ?_
    refine wpAny_pure ⟨plainId_quiet F.plain_set_update_loop _, ih (i + 1) _ l' (by omega) lt (W.frame _ s' _ _ st' (Nat.le_succ _) fun b hb o e => ?_) T2 (p.next hk z) fun s2 l2 mv2 T3 p3 => ?_⟩
    · rw [sb.2 b fun q => ha (q ▸ hb)]; exact e
    · refine hR s2 l2 (Moved.trans W.gtrans ((mv.mono up).then_heap (Nat.le_succ _) fun b o hb e => ?_) mv2) T3 p3
      rw [sb.2 b fun q => hb (q ▸ List.mem_cons_self)]; exact e
end

section
variable {P : Program} {w : World} {A : Around} {E : Value → Shared → Prop} {s : Shared}
/-- an empty set's object -/
def eO (w : World) : Obj := { cls := .type "set", dict := none, data := .set #[] 0 (.fresh 0 0 (!w.params.followText "set-order")) }
set_option maxRecDepth 100000 in
set_option maxHeartbeats 3200000 in
theorem set_list {l : Addr} {items : Array Value} (xs : List Str) {Q : Value → Shared → Prop} (hh : A.handled = none) (hl : s.heap.IsList l items) (hit : StrsAre items.toList xs) (few : xs.length < 64)
    (h : ∀ (h' : Heap) (tk : Nat) (m : List Str), TxAt P w h' s.heap.objs.size m → Part xs xs.length m → (∀ b o, s.heap.get? b = some o → h'.get? b = some o) → Q (.ref s.heap.objs.size) { s with heap := h', toks := tk }) :
    wpAny (model P w) A (call (.type "set") [.ref l]) Q E s := by
  have isz : items.size = xs.length := by rw [← StrsAre.len_eq hit, Array.length_toList]
  obtain ⟨c, tl, hmro⟩ := F.called_set.mro
  have g1 := F.called_set.made
  have g2 := F.called_set.sub
  have g3 := F.called_set.notType
  have g4 := F.called_set.canCreate
  have g5 := F.typeCall_set_1 (.ref l)
  refine wpAny_call (codeAny_of_tree ?_)
  show wpAny _ _ (callAny (.type "set") _) _ _ _
  refine wpAny_pure ⟨Code.quiet_builtin _ (by decide +kernel), codeAny_builtin F.entry_type_call ?_⟩
  rw [Around.under_plain (weight_type_call_type "set" [.ref l] []) rfl]
  repeat (any_goals (first | assumption | wp_step))
  refine codeAny_mono (code_set_led1 (.ref l) (E := E) (Q₁ := fun ob s1 => ob = .ref s.heap.objs.size ∧ s1 = { s with heap := s.heap.push (eO w) }) ⟨rfl, rfl⟩) fun r s1 hr => ?_
  cases r with
  | error e => exact hr
  | ok fl =>
    cases fl with
    | ret ob =>
      obtain ⟨rfl, rfl⟩ := hr
      have hS : (s.heap.push (eO w)).get? s.heap.objs.size = some (eO w) := Heap.get?_push_size _ rfl
      have hT : Shared.TypeIs { s with heap := s.heap.push (eO w) } (.ref s.heap.objs.size) "set" := ⟨_, hS, rfl⟩
      have g6 := F.called_set.init.lookup
      have g7 := F.called_set.init.bind (.ref s.heap.objs.size)
      repeat (any_goals (first | assumption | wp_step))
      refine codeAny_mono (codeAny_call_builtin (R := wants (fun r s2 => r = .none ∧ ∃ h' tk m, s2 = { s with heap := h', toks := tk } ∧ TxAt P w h' s.heap.objs.size m ∧ Part xs xs.length m ∧
          (∀ b o, s.heap.get? b = some o → h'.get? b = some o)) E) F.called_set.init.plain F.entry_set_init (check_set_init_1 hT ?_)) fun r2 s2 hr2 => ?_
      · obtain ⟨⟨ocls, odict, odata, oslots⟩, hol, hcl, nl, hdl⟩ := hl
        simp only at hcl hdl
        subst hcl; subst hdl
        have hol' : (s.heap.push (eO w)).get? l = some { cls := .type "list", dict := odict, data := .seq items nl, slots := oslots } := Heap.get?_push_of_some _ hol
        have g8 := F.sub_list_set
        have g9 := F.sub_list_frozenset
        have g10 : (Value.type "list" == Value.type "dict") = false := by decide
        have hl1 : (s.heap.push (eO w)).IsList l items := ⟨_, hol', rfl, nl, rfl⟩
        unfold Builtin.«set.__init__» noKeywords Builtin.Frozenset.updateFrom
        generalize hPI : pyIter = PI
        wp_walk
        subst hPI
        refine wpAny_pyIter_list hl1 (wpAny_bind (wpAny_runValue ?_))
        have lS : l < s.heap.objs.size := Heap.lt_size hol
        have hh3 : A.in1.in1.in1.handled = none := by simp [hh]
        have nI : l ≠ (s.heap.push (eO w)).objs.size := by rw [Heap.size_push]; exact Nat.ne_of_lt (Nat.lt_succ_of_lt lS)
        have nf : s.heap.objs.size ∉ [(s.heap.push (eO w)).objs.size, l] := by
          rw [Heap.size_push]; simp only [List.mem_cons, List.mem_singleton, List.not_mem_nil, or_false, not_or]
          exact ⟨Nat.ne_of_lt (Nat.lt_succ_self _), Nat.ne_of_gt lS⟩
        refine upd_loop ((Walks.list hh3 _ l nI items).toS) s.heap.objs.size nf xs isz few (fun i v e => ?_) (items.size - 0) 0 _ [] (by omega) (Nat.zero_le _)
          ⟨⟨_, Heap.get?_push_size _ rfl, rfl, rfl⟩, (hl1.push _)⟩ (tx_fresh (Heap.get?_push_of_some _ hS)) ⟨fun x => by simp, Nat.le_refl _⟩ fun s' m mv T p => ?_
        · have q : items.toList[i]? = some v := by rw [Array.getElem?_toList]; exact e
          obtain ⟨t, rfl⟩ := SS.strs_at hit i v q
          have hi : i < xs.length := by rw [← StrsAre.len_eq hit]; exact (List.getElem?_eq_some_iff.mp q).1
          exact ⟨xs[i], t, List.getElem?_eq_getElem hi, by rw [List.getD_eq_getElem?_getD, List.getElem?_eq_getElem hi]; rfl⟩
        · obtain ⟨h', g', d', tk', os'⟩ := s'
          have e1 : g' = s.gens := mv.gens
          have e2 : d' = s.drawn := mv.drawn
          have e3 : os' = s.os := mv.os
          subst e1; subst e2; subst e3
          show wpAny _ _ _ _ _ _
          refine wpAny_pure ?_
          show wpAny _ _ (ret Value.none) _ _ _
          rw [isz] at p
          refine wpAny_pure ⟨rfl, h', tk', m, rfl, T, p, fun b o e => ?_⟩
          have hb : b < s.heap.objs.size := Heap.lt_size e
          refine mv.heap b o ?_ (Heap.get?_push_of_some _ (Heap.get?_push_of_some _ e))
          rw [Heap.size_push]; simp only [List.mem_cons, List.mem_singleton, List.not_mem_nil, or_false, not_or]
          exact ⟨Nat.ne_of_lt hb, Nat.ne_of_lt (Nat.lt_succ_of_lt hb)⟩
      · cases r2 with
        | error e => exact hr2
        | ok f2 =>
          cases f2 with
          | ret r =>
            obtain ⟨rfl, h', tk, m, rfl, T, p, k⟩ := hr2
            repeat (any_goals (first | assumption | wp_step))
            exact h _ _ _ T p k
          | _ => exact hr2.elim
    | _ => exact hr.elim
end

section
variable {P : Program} {w : World} {A : Around} {E : Value → Shared → Prop} {s : Shared}
set_option maxRecDepth 100000 in
set_option maxHeartbeats 3200000 in
theorem set_tuple {l : Addr} {items : Array Value} (xs : List Str) {Q : Value → Shared → Prop} (hh : A.handled = none) (hl : s.heap.IsTuple l items) (hit : StrsAre items.toList xs) (few : xs.length < 64)
    (h : ∀ (h' : Heap) (tk : Nat) (m : List Str), TxAt P w h' s.heap.objs.size m → Part xs xs.length m → (∀ b o, s.heap.get? b = some o → h'.get? b = some o) → Q (.ref s.heap.objs.size) { s with heap := h', toks := tk }) :
    wpAny (model P w) A (call (.type "set") [.ref l]) Q E s := by
  have isz : items.size = xs.length := by rw [← StrsAre.len_eq hit, Array.length_toList]
  obtain ⟨c, tl, hmro⟩ := F.called_set.mro
  have g1 := F.called_set.made
  have g2 := F.called_set.sub
  have g3 := F.called_set.notType
  have g4 := F.called_set.canCreate
  have g5 := F.typeCall_set_1 (.ref l)
  refine wpAny_call (codeAny_of_tree ?_)
  show wpAny _ _ (callAny (.type "set") _) _ _ _
  refine wpAny_pure ⟨Code.quiet_builtin _ (by decide +kernel), codeAny_builtin F.entry_type_call ?_⟩
  rw [Around.under_plain (weight_type_call_type "set" [.ref l] []) rfl]
  repeat (any_goals (first | assumption | wp_step))
  refine codeAny_mono (code_set_led1 (.ref l) (E := E) (Q₁ := fun ob s1 => ob = .ref s.heap.objs.size ∧ s1 = { s with heap := s.heap.push (eO w) }) ⟨rfl, rfl⟩) fun r s1 hr => ?_
  cases r with
  | error e => exact hr
  | ok fl =>
    cases fl with
    | ret ob =>
      obtain ⟨rfl, rfl⟩ := hr
      have hS : (s.heap.push (eO w)).get? s.heap.objs.size = some (eO w) := Heap.get?_push_size _ rfl
      have hT : Shared.TypeIs { s with heap := s.heap.push (eO w) } (.ref s.heap.objs.size) "set" := ⟨_, hS, rfl⟩
      have g6 := F.called_set.init.lookup
      have g7 := F.called_set.init.bind (.ref s.heap.objs.size)
      repeat (any_goals (first | assumption | wp_step))
      refine codeAny_mono (codeAny_call_builtin (R := wants (fun r s2 => r = .none ∧ ∃ h' tk m, s2 = { s with heap := h', toks := tk } ∧ TxAt P w h' s.heap.objs.size m ∧ Part xs xs.length m ∧
          (∀ b o, s.heap.get? b = some o → h'.get? b = some o)) E) F.called_set.init.plain F.entry_set_init (check_set_init_1 hT ?_)) fun r2 s2 hr2 => ?_
      · obtain ⟨⟨ocls, odict, odata, oslots⟩, hol, hcl, nl, hdl⟩ := hl
        simp only at hcl hdl
        subst hcl; subst hdl
        have hol' : (s.heap.push (eO w)).get? l = some { cls := .type "tuple", dict := odict, data := .seq items nl, slots := oslots } := Heap.get?_push_of_some _ hol
        have g8 := F.sub_tuple_set
        have g9 := F.sub_tuple_frozenset
        have g10 : (Value.type "tuple" == Value.type "dict") = false := by decide
        have hl1 : (s.heap.push (eO w)).IsTuple l items := ⟨_, hol', rfl, nl, rfl⟩
        unfold Builtin.«set.__init__» noKeywords Builtin.Frozenset.updateFrom
        generalize hPI : pyIter = PI
        wp_walk
        subst hPI
        refine wpAny_pyIter_tuple hl1 (wpAny_bind (wpAny_runValue ?_))
        have lS : l < s.heap.objs.size := Heap.lt_size hol
        have hh3 : A.in1.in1.in1.handled = none := by simp [hh]
        have nI : l ≠ (s.heap.push (eO w)).objs.size := by rw [Heap.size_push]; exact Nat.ne_of_lt (Nat.lt_succ_of_lt lS)
        have nf : s.heap.objs.size ∉ [(s.heap.push (eO w)).objs.size, l] := by
          rw [Heap.size_push]; simp only [List.mem_cons, List.mem_singleton, List.not_mem_nil, or_false, not_or]
          exact ⟨Nat.ne_of_lt (Nat.lt_succ_self _), Nat.ne_of_gt lS⟩
        refine upd_loop ((Walks.tuple hh3 _ l nI items).toS) s.heap.objs.size nf xs isz few (fun i v e => ?_) (items.size - 0) 0 _ [] (by omega) (Nat.zero_le _)
          ⟨⟨_, Heap.get?_push_size _ rfl, rfl, rfl⟩, (hl1.push _)⟩ (tx_fresh (Heap.get?_push_of_some _ hS)) ⟨fun x => by simp, Nat.le_refl _⟩ fun s' m mv T p => ?_
        · have q : items.toList[i]? = some v := by rw [Array.getElem?_toList]; exact e
          obtain ⟨t, rfl⟩ := SS.strs_at hit i v q
          have hi : i < xs.length := by rw [← StrsAre.len_eq hit]; exact (List.getElem?_eq_some_iff.mp q).1
          exact ⟨xs[i], t, List.getElem?_eq_getElem hi, by rw [List.getD_eq_getElem?_getD, List.getElem?_eq_getElem hi]; rfl⟩
        · obtain ⟨h', g', d', tk', os'⟩ := s'
          have e1 : g' = s.gens := mv.gens
          have e2 : d' = s.drawn := mv.drawn
          have e3 : os' = s.os := mv.os
          subst e1; subst e2; subst e3
          show wpAny _ _ _ _ _ _
          refine wpAny_pure ?_
          show wpAny _ _ (ret Value.none) _ _ _
          rw [isz] at p
          refine wpAny_pure ⟨rfl, h', tk', m, rfl, T, p, fun b o e => ?_⟩
          have hb : b < s.heap.objs.size := Heap.lt_size e
          refine mv.heap b o ?_ (Heap.get?_push_of_some _ (Heap.get?_push_of_some _ e))
          rw [Heap.size_push]; simp only [List.mem_cons, List.mem_singleton, List.not_mem_nil, or_false, not_or]
          exact ⟨Nat.ne_of_lt hb, Nat.ne_of_lt (Nat.lt_succ_of_lt hb)⟩
      · cases r2 with
        | error e => exact hr2
        | ok f2 =>
          cases f2 with
          | ret r =>
            obtain ⟨rfl, h', tk, m, rfl, T, p, k⟩ := hr2
            repeat (any_goals (first | assumption | wp_step))
            exact h _ _ _ T p k
          | _ => exact hr2.elim
    | _ => exact hr.elim
end
end XS
namespace XS
open PySem PySem.Spec PyProof.Rows L2
def TxO (P : Program) (w : World) (a : Addr) (l : List Str) : HO := .ext fun h => TxAt P w h a l
section
variable {X : Cx}
theorem tx_new {w : World} {P : Program} {H : Hp} {h : Heap} {a : Addr} {l : List Str} (R : TxAt P w h a l) : ObjOk P w H h a (TxO P w a l) := by
  have ⟨⟨D, ho, _⟩, _, _⟩ := R
  exact ⟨R, ⟨_, ho⟩, fun h1 h2 p k => TxAt.at p k⟩
theorem tx_get {pins : List (Addr × Obj)} {σ : L2.St} {H : Hp} {s : Shared} {a : Addr} {l : List Str} (I : Inv X pins σ H s) (ha : H a = some (TxO X.prog X.w a l)) : TxAt X.prog X.w s.heap a l := (I.hok a _ ha).1
/-- set(xs) of a list or tuple of texts -/
def rSetX (P : Program) (w : World) (K : PySem.W.Frag) : List V → Hp → VK → Prop := fun vs H Q => ∃ (b : Addr) (xs : List Str), vs = [V.ref b] ∧ (SqL K H b (xs.map V.str) ∨ SqT K H b (xs.map V.str)) ∧ xs.length < 64 ∧
  ∀ (p : Addr) (l : List Str), l.Nodup → (∀ x, x ∈ l ↔ x ∈ xs) → l.length ≤ xs.length → H p = none → Q (.ref p) (upd H p (TxO P w p l))
theorem cr_setX (hc : X.calm = true) : CallR X (.type "set") (rSetX X.prog X.w X.K) := by
  intro pins s σ H vs us Q I r h
  obtain ⟨b, xs, rfl, hq, few, q⟩ := h
  rw [Vals.ref1 r]
  have fin : ∀ (h' : Heap) (tk : Nat) (m : List Str), TxAt X.prog X.w h' s.heap.objs.size m → Part xs xs.length m → (∀ b o, s.heap.get? b = some o → h'.get? b = some o) → EP X pins σ Q (.ref s.heap.objs.size) { s with heap := h', toks := tk } := fun h' tk m T p k =>
    ⟨.ref s.heap.objs.size, upd H s.heap.objs.size (TxO X.prog X.w s.heap.objs.size m), I.laid (t' := tk) k (Nat.le_refl _) (tx_new T), rfl, q _ m T.one (fun x => by rw [p.mem, List.take_length]) p.len (I.hok.fresh (Nat.le_refl _))⟩
  rcases hq with hq | hq
  · obtain ⟨its, r, pl, hz⟩ := I.list hq
    exact set_list xs (I.ok.hd hc) pl.isList (by simpa using strsAre_of r) few fin
  · obtain ⟨its, r, pl, hz⟩ := I.tuple hq
    exact set_tuple xs (I.ok.hd hc) pl (by simpa using strsAre_of r) few fin
/-- len of a set of texts -/
def rLenX (P : Program) (w : World) : List V → Hp → VK → Prop := fun vs H Q => ∃ (a : Addr) (l : List Str), vs = [V.ref a] ∧ H a = some (TxO P w a l) ∧ Q (.int l.length) H
theorem cr_lenX : CallR X (.builtin "len") (rLenX X.prog X.w) := by
  intro pins s σ H vs us Q I r h
  obtain ⟨a, l, rfl, ha, q⟩ := h
  rw [Vals.ref1 r]
  obtain ⟨⟨D, ho, F, _⟩, _, few⟩ := tx_get I ha
  refine call_len_set (es := D.1) (ep := D.2.1) (t := D.2.2) ho ⟨rfl, rfl, rfl⟩ rfl F.fit (by rw [F.sz]; omega) ⟨.int l.length, H, I.tok _, ⟨_, by rw [F.sz]⟩, q⟩
/-- sorted(a set of texts) -/
def rSortX (P : Program) (w : World) : List V → Hp → VK → Prop := fun vs H Q => ∃ (a : Addr) (l : List Str), vs = [V.ref a] ∧ H a = some (TxO P w a l) ∧ ∀ ys p, ys.Perm l → sortedS ys = true → H p = none → Q (.ref p) (upd H p (.lst (ys.map V.str)))
theorem texts_of : ∀ (vs : List Value), (∀ v ∈ vs, ∃ k u, v = Value.str k u) → ∃ ks, StrsAre vs ks
  | [], _ => ⟨[], .nil⟩
  | v :: vs, h => by
    obtain ⟨k, u, rfl⟩ := h v List.mem_cons_self
    obtain ⟨ks, r⟩ := texts_of vs fun x hx => h x (List.mem_cons_of_mem _ hx)
    exact ⟨k :: ks, .cons k u r⟩
theorem texts_mem : ∀ {vs : List Value} {ks : List Str}, StrsAre vs ks → ∀ k, k ∈ ks ↔ ∃ u, Value.str k u ∈ vs
  | _, _, .nil, k => by simp
  | _, _, .cons n t r, k => by
    rw [List.mem_cons, texts_mem r k]
    constructor
    · rintro (rfl | ⟨u, h⟩)
      · exact ⟨t, List.mem_cons_self⟩
      · exact ⟨u, List.mem_cons_of_mem _ h⟩
    · rintro ⟨u, h⟩
      rcases List.mem_cons.mp h with z | z
      · cases z; exact .inl rfl
      · exact .inr ⟨u, z⟩
theorem perm_sub : ∀ {l ks : List Str}, l.Nodup → (∀ x ∈ l, x ∈ ks) → ks.length = l.length → ks.Perm l
  | [], ks, _, _, h => by rw [List.length_eq_zero_iff.mp h]
  | x :: l, ks, d, m, h => by
    obtain ⟨d1, d2⟩ := List.nodup_cons.mp d
    have hx := m x List.mem_cons_self
    refine (List.perm_cons_erase hx).trans ((perm_sub d2 (fun y hy => (List.mem_erase_of_ne fun e : y = x => d1 (e ▸ hy)).mpr (m y (List.mem_cons_of_mem _ hy))) ?_).cons x)
    rw [List.length_erase_of_mem hx, h]; rfl
theorem cr_sortX (hc : X.calm = true) : CallR X (.builtin "sorted") (rSortX X.prog X.w) := by
  intro pins s σ H vs us Q I r h
  obtain ⟨a, l, rfl, ha, q⟩ := h
  rw [Vals.ref1 r]
  obtain ⟨⟨D, ho, F, hr, hl⟩, one, few⟩ := tx_get I ha
  have h64 : D.1.size < 64 := by rw [F.sz]; exact few
  refine Calls.call_function_entry kind_sorted plain_sorted entry_sorted (args_sorted1 _) ?_
  unfold Builtin.«sorted»
  refine wpAny_bind (m := checkCount "sorted" 1 1 _) (wpAny_pure ?_)
  refine wpAny_bind (collect_set (A := X.A.in1) (es := D.1) (ep := D.2.1) (t := D.2.2) (I.ok.hd hc) ⟨_, ho, rfl, rfl⟩ F.fit (by unfold scanBound; omega) hr hl fun s1 vs k1 hz g1 o1 pm => ?_)
  have hvl : vs.length = l.length := by rw [pm.length_eq, List.length_map, Array.length_toList]; exact F.sz
  obtain ⟨ks, hS⟩ := texts_of vs fun v hv => by
    obtain ⟨e, he, q⟩ := List.mem_map.mp (pm.mem_iff.mp hv)
    obtain ⟨⟨k, h1, _⟩, _⟩ := F.el e he
    obtain ⟨tk, e1⟩ := Value.isStrOf_shape (x := k) (v := e.2) h1
    exact ⟨k, tk, by rw [← q]; exact e1⟩
  have hkl : ks.length = l.length := by rw [← StrsAre.len_eq hS]; exact hvl
  have mem : ∀ k, k ∈ ks ↔ k ∈ l := fun k => by
    rw [texts_mem hS k, F.mem k]
    constructor
    · rintro ⟨u, hu⟩
      obtain ⟨e, he, q⟩ := List.mem_map.mp (pm.mem_iff.mp hu)
      exact ⟨e, he, by rw [q]; exact strKind_is _ _ _ _⟩
    · rintro ⟨e, he, q⟩
      obtain ⟨tk, e1⟩ := Value.isStrOf_shape (x := k) (v := e.2) q
      exact ⟨tk, pm.mem_iff.mpr (List.mem_map.mpr ⟨e, he, e1⟩)⟩
  refine wpAny_bind (wpAny_newList ?_ (by rw [hvl, sizeLine_eq]; omega))
  have hoL : (s1.heap.push (seqObj "list" vs.toArray 0)).get? s1.heap.objs.size = some (seqObj "list" vs.toArray 0) := Heap.get?_push_size _ rfl
  refine wpAny_bind (wpAny_holding (wpAny_call_entry slot_list_sort ⟨_, hoL, rfl⟩ entry_list_sort
    (list_sort_treeK strKind_oneLt (s := { s1 with heap := s1.heap.push (seqObj "list" vs.toArray 0) }) hoL hS.keysOf (fun v₁ v₂ rest e => keyKind_strs (by rw [← e]; exact hS)) (by rw [hvl]; exact few) fun st' hp hs => ⟨_, rfl, ?_⟩) (args_list_sort _)))
  obtain ⟨ys, y1, y2, y3⟩ := sorted_out_str hS hp hs
  obtain ⟨c, hcc⟩ := sortedHeap_at (vs := vs) (out := (arrOf st').map (·.2)) hoL
  have hlen : (ys.map V.str).length ≤ sizeLine := by
    rw [List.length_map, y2.length_eq, hkl, sizeLine_eq]; omega
  have hn : H s1.heap.objs.size = none := I.hok.fresh hz
  have pk : ks.Perm l := perm_sub one (fun x hx => (mem x).mpr hx) hkl
  refine wpAny_pure ⟨_, rfl, ?_⟩
  have k2 : ∀ b o, s.heap.get? b = some o → (sortedHeap (s1.heap.push (seqObj "list" vs.toArray 0)) s1.heap.objs.size vs ((arrOf st').map (·.2))).get? b = some o := fun b o e => by
    have q := k1 b o e
    have hlt := Heap.lt_size q
    rw [sortedHeap_old (Nat.ne_of_lt hlt) (by rw [size_push']; exact Nat.lt_succ_of_lt hlt)]
    exact Heap.get?_push_of_some _ q
  have ob : ObjOk X.prog X.w (upd H s1.heap.objs.size (.lst (ys.map V.str))) (sortedHeap (s1.heap.push (seqObj "list" vs.toArray 0)) s1.heap.objs.size vs ((arrOf st').map (·.2))) s1.heap.objs.size (.lst (ys.map V.str)) :=
    ⟨hlen, ((arrOf st').map (·.2)).toList, c, vals_of_strs y1, by rw [Array.toArray_toList]; exact hcc⟩
  have J := I.call (g' := s1.gens) (t' := s1.toks) (d' := s1.drawn) (ch := []) (Un.laid (o := .lst (ys.map V.str)) k2 hz hn) (I.hok.laid k2 hz ob) (by rw [g1]; exact I.bare) (fun _ z => nomatch z)
  obtain ⟨a1, a2, a3, a4, a5⟩ := s1
  have e5 : a5 = s.os := o1
  subst e5
  exact ⟨.ref _, _, J, rfl, q ys _ (y2.trans pk) y3 hn⟩
/-- x in / not in a set of texts -/
def rInX (P : Program) (w : World) (f : Bool → Bool) : R2 := fun x y H Q => ∃ (k : Str) (a : Addr) (l : List Str), x = .str k ∧ y = .ref a ∧ H a = some (TxO P w a l) ∧ Q (.bl (f (decide (k ∈ l)))) H
theorem op_inX : OpR X (compareOp .In) (rInX X.prog X.w fun b => b) := by
  intro pins s σ H x y v u Q I rx ry h
  obtain ⟨k, a, l, rfl, rfl, ha, q⟩ := h
  obtain ⟨tk, rfl⟩ := rx
  cases ry
  exact wpAny_inSet_of (strKind_is _ _ _ _) rfl (tx_get I ha).setOf ⟨.bl _, H, I.tok _, rfl, q⟩
theorem op_notinX : OpR X (compareOp .NotIn) (rInX X.prog X.w fun b => !b) := by
  intro pins s σ H x y v u Q I rx ry h
  obtain ⟨k, a, l, rfl, rfl, ha, q⟩ := h
  obtain ⟨tk, rfl⟩ := rx
  cases ry
  exact wpAny_notInSet_of (strKind_is _ _ _ _) rfl (tx_get I ha).setOf ⟨.bl _, H, I.tok _, rfl, q⟩
end

section
variable {X : Cx}
/-- one text put into the set at D -/
def tAddX (P : Program) (w : World) (D : Addr) (y : V) (H : Hp) (Nx : Hp → Prop) : Prop := ∃ (k : Str) (l : List Str), y = .str k ∧ H D = some (TxO P w D l) ∧ l.length + 1 < 64 ∧ ∀ l', (k ∈ l ∧ l' = l ∨ k ∉ l ∧ l' = k :: l) → Nx (upd H D (TxO P w D l'))
theorem add_run {pins : List (Addr × Obj)} {σ : L2.St} {H : Hp} {s : Shared} {E : Value → Shared → Prop} {D : Addr} {y : V} {u : Value} {Nx : Hp → Prop} {Q : Value → Shared → Prop} (I : Inv X pins σ H s) (ry : RelV y u) (h : tAddX X.prog X.w D y H Nx)
    (hQ : ∀ r s' H', Inv X pins σ H' s' → Nx H' → Q r s') : wpAny (model X.prog X.w) X.A (call (.builtin "set.add") [.ref D, u]) Q E s := by
  obtain ⟨k, l, rfl, hD, few, nx⟩ := h
  obtain ⟨t, rfl⟩ := ry
  refine add_call (tx_get I hD) few fun h' l' sb T z => hQ _ _ (upd H D (TxO X.prog X.w D l')) (I.write (e := D) (t' := s.toks + 1) (by rw [hD]; trivial) (.inl rfl) (fun b u hb e => (sb.2 b hb).trans e) ?_ (tx_new T)) (nx l' z)
  have ⟨⟨_, ho, _⟩, _, _⟩ := T
  exact ⟨_, ho⟩
/-- {v for target in iter if ..} of texts: D the new set -/
def tSc (P : Program) (w : World) (wi : TI) (g : TG) (tt : TT) (tv : TE) (vs : List Nat) : TE := fun σ H Q => wi σ H fun J H1 => ∀ D, H1 D = none → ∃ W : Nat → Nat → Hp → Prop, (∃ m, W 0 m (upd H1 D (TxO P w D []))) ∧ ∀ i m H, W i m H →
  (J.stop i H ∧ Q (.ref D) H) ∨ (J.go i H ∧ ∃ Nx : Hp → Prop, (∀ H', Nx H' → ∃ m', m' < m ∧ W (i + 1) m' H') ∧ ∀ x H', J.yld i H x H' → g x (wipe σ vs) H' fun σ2 H2 => wipe σ2 vs = wipe σ vs ∧ tt σ2 H2 fun b H3 =>
    if b = true then tv σ2 H3 fun y H4 => tAddX P w D y H4 Nx else Nx H3)
theorem pe_sc {ev tg iter : Expr} {ifs : List Expr} {scope : Scope} {own : List (Str × Nat)} {pos : Pos} {wi : TI} {g : TG} {tt : TT} {tv : TE} (hc : X.calm = true) (hN : X.N.Nodup) (hi : PI X tg iter wi) (ok : BlkOk X.N X.env.scope scope own)
    (hg : ∀ (s : Shared) (H : Hp) (C : Addr) (cl : List (Str × Addr)) (fp : List Addr), PG (X.blk s H scope (compEnvC scope cl C X.env) fp) tg g) (ht : ∀ (s : Shared) (H : Hp) (C : Addr) (cl : List (Str × Addr)) (fp : List Addr), PTs (X.blk s H scope (compEnvC scope cl C X.env) fp) ifs tt)
    (he : ∀ (s : Shared) (H : Hp) (C : Addr) (cl : List (Str × Addr)) (fp : List Addr), PE (X.blk s H scope (compEnvC scope cl C X.env) fp) ev tv) (hs : ∀ x, foldedSetIterable iter X.env x = pure x := by intro _; rfl) :
    PE X (.SetComp ev [⟨tg, iter, ifs, 0⟩] scope pos) (tSc X.prog X.w wi g tt tv (own.map (·.2))) := by
  refine ⟨fun pins s σ H Q I h => ?_⟩
  rw [arm_eval_SetComp]
  have hfree : ∀ y ∈ scope.names, y.2 = .free → ∃ c, X.env.cells.lookup y.1 = some c := fun y hy e => (ok.free y hy e).elim (fun k => I.ok.has _ (.inl k)) fun k => I.ok.has _ (.inr k)
  refine wpAny_comprehension_free (use := none) rfl hs (closure_ok hfree) ok.kind (fun y hy e => by rw [ok.uniq y hy, e]) (thn (hi.run pins s σ H _ I h) fun xv s1 hx => thn hx fun itv s2 h2 => ?_)
  obtain ⟨it, fp, tn, J, H2, rfl, I2, T, st2, f2, q⟩ := h2
  refine wpAny_newSet_raw fun led hled => newEnv_comp ?_
  subst hled
  have hDn : H2 s2.heap.objs.size = none := I2.hok.fresh (Nat.le_refl _)
  obtain ⟨W, ⟨m0, w0⟩, turn⟩ := q s2.heap.objs.size hDn
  generalize hD : s2.heap.objs.size = D at *
  generalize hs3 : ({ s2 with heap := s2.heap.push { cls := .type "set", dict := none, data := .set #[] 0 (.fresh 0 0 (!(X.w.params.followText "set-order"))) } } : Shared) = s3
  have h3 : s3.heap = s2.heap.push (eO X.w) := by rw [← hs3]; rfl
  have oldk : ∀ b o, s2.heap.get? b = some o → s3.heap.get? b = some o := fun b o e => by rw [h3]; exact Heap.get?_push_of_some _ e
  have I3 : Inv X pins σ (upd H2 D (TxO X.prog X.w D [])) s3 := by
    rw [← hs3]
    refine I2.laid (t' := s2.toks) (fun b o e => Heap.get?_push_of_some _ e) (Nat.le_of_eq hD) (tx_new (tx_fresh ?_))
    rw [← hD]
    exact Heap.get?_push_size _ rfl
  have sz : ∀ b ∈ fp, b < s2.heap.objs.size := fun b hb => by
    obtain ⟨o, e, _⟩ := T.obj _ _ st2 b hb
    exact Heap.lt_size e
  generalize hH3 : upd H2 D (TxO X.prog X.w D []) = H3 at I3 w0
  have f3 : ∀ b ∈ fp, FpOk X pins H3 b ∧ b < s3.heap.objs.size := fun b hb => by
    have lt := sz b hb
    refine ⟨⟨?_, (f2 b hb).2⟩, by rw [h3, Heap.size_push]; exact Nat.lt_succ_of_lt lt⟩
    rw [← hH3, upd_ne (by rw [← hD]; exact Nat.ne_of_lt lt)]
    exact (f2 b hb).1
  have st3 : tn 0 s3.heap := T.keep _ _ _ st2 fun b _ o e => oldk b o e
  have I4 := block_start I3 ok hN f3
  have pg := hg s3 H3 s3.heap.objs.size (cellsFrom (s3.heap.objs.size + 1) scope.names (cloFrom X.env.cells scope.names [])) fp
  have pt := ht s3 H3 s3.heap.objs.size (cellsFrom (s3.heap.objs.size + 1) scope.names (cloFrom X.env.cells scope.names [])) fp
  have pe := he s3 H3 s3.heap.objs.size (cellsFrom (s3.heap.objs.size + 1) scope.names (cloFrom X.env.cells scope.names [])) fp
  show codeAny _ _ (.compStart (.SetComp ev [⟨tg, iter, ifs, 0⟩] scope pos) 0 (.ref it) (.ref D) (compEnvC scope (cellsFrom (s3.heap.objs.size + 1) scope.names (cloFrom X.env.cells scope.names [])) s3.heap.objs.size X.env)) (compPost (model X.prog X.w) X.A X.xe none (EP X pins σ Q) (.ref D) s3.heap.objs.size) { s3 with heap := pushCells (s3.heap.push { cls := .type "dict", data := .dict #[] }) scope.names }
  have nfp : ∀ b ∈ fp, H3 b = none := fun b hb => (f3 b hb).1.1
  generalize hce : compEnvC scope (cellsFrom (s3.heap.objs.size + 1) scope.names (cloFrom X.env.cells scope.names [])) s3.heap.objs.size X.env = ce at I4 pg pt pe ⊢
  have cL : ce.locals = s3.heap.objs.size := by subst hce; rfl
  generalize hs4 : ({ s3 with heap := pushCells (s3.heap.push { cls := .type "dict", data := .dict #[] }) scope.names } : Shared) = s4 at I4 ⊢
  have st4 : tn 0 s4.heap := T.keep _ _ _ st3 fun b _ o e => by rw [← hs4]; exact pushCells_keeps _ _ _ _ (Heap.get?_push_of_some _ e)
  have stat : ∀ {σ' : L2.St} {H' : Hp} {s' : Shared}, Inv (X.blk s3 H3 scope ce fp) [] σ' H' s' → (∀ b ∈ fp, H' b = none) → ∀ b ∈ fp, FpOk (X.blk s3 H3 scope ce fp) [] H' b := fun {σ' H' s'} I' hn b hb =>
    ⟨hn b hb, (I'.ok.exf b hb).1, I'.ok.exfs b hb, .inl hb, fun x c e => (I'.ok.exf b hb).2 x c e, fun p hp => absurd (show p ∈ ([] : List (Addr × Obj)) ++ [] from hp) (by simp)⟩
  have loop : codeAny (model X.prog X.w) X.A (.compLoop (.SetComp ev [⟨tg, iter, ifs, 0⟩] scope pos) 0 (.ref it) (.ref D) ce) (compPost (model X.prog X.w) X.A X.xe none (EP X pins σ Q) (.ref D) s3.heap.objs.size) s4 := by
    refine compLoop_set_any (fun n s' => ∃ i H', Inv (X.blk s3 H3 scope ce fp) [] (wipe σ (own.map (·.2))) H' s' ∧ tn i s'.heap ∧ (∀ b ∈ fp, H' b = none) ∧ W i n H') ?_ m0 ⟨0, H3, I4, st4, nfp, w0⟩
    rintro n s5 ⟨i, H5, I5, st5, n5, w5⟩
    rcases turn i n H5 w5 with ⟨stop, qq⟩ | ⟨go, Nx, hNx, step⟩
    · refine thnF (T.done (X.blk s3 H3 scope ce fp) rfl rfl rfl hc i [] s5 _ H5 (fun _ _ => False) I5 (stat I5 n5) st5 stop) fun r s6 ⟨hr, I6⟩ => ?_
      subst hr
      have I7 : Inv X pins σ H5 s6 := I3.call' (ch := fp) I6.os I6.base I6.hok I6.bare fun b hb => ⟨(f3 b hb).1.2.2.2.1, (f3 b hb).1.2.1, (f3 b hb).1.2.2.2.2.1, (f3 b hb).1.2.2.2.2.2⟩
      have nC : H5 s3.heap.objs.size = none := by
        have z : H5 ce.locals = none := I6.free
        rw [cL] at z
        exact z
      obtain ⟨m, hn, _⟩ := I6.loc
      have hn : s6.heap.Ns ce.locals m := hn
      rw [cL] at hn
      obtain ⟨f0, f1, f2, f3, f4, f5⟩ := I3.fpOk (Nat.le_refl _) nC
      exact ⟨m, hn, fun h'' sb => ⟨.ref D, H5, I7.turned (t' := s6.toks) (fun b o hb e => (sb.2 b hb).trans e) f0 f1 f3 f4 f5, rfl, qq⟩⟩
    · refine thnF (T.item (X.blk s3 H3 scope ce fp) rfl rfl rfl hc i [] s5 _ H5 (fun _ _ => False) I5 (stat I5 n5) st5 go) fun r s6 ⟨u, hr, h6⟩ => ?_
      subst hr
      refine thnF h6 fun _ s7 ⟨x, H7, I7, r7, y7, st7, n7⟩ => ?_
      have I7' := I7.pinned (stat I7 n7) (T.obj _ _ st7)
      refine thnF (pg.run _ s7 _ H7 x u _ I7' r7 (step x H7 y7)) fun _ s8 ⟨σ8, H8, I8, hw8, q8⟩ => ?_
      refine thnF (pt.run _ s8 σ8 H8 _ I8 q8) fun b s9 ⟨H9, I9, q9⟩ => ?_
      have fin : ∀ {s' : Shared} {H' : Hp}, Inv (X.blk s3 H3 scope ce fp) ([] ++ pinsAt fp s7.heap) σ8 H' s' → Nx H' → ∃ m, m < n ∧ ∃ i H', Inv (X.blk s3 H3 scope ce fp) [] (wipe σ (own.map (·.2))) H' s' ∧ tn i s'.heap ∧ (∀ b ∈ fp, H' b = none) ∧ W i m H' := fun {s' H'} I' nx => by
        obtain ⟨m', hm, w'⟩ := hNx H' nx
        have pin' : ∀ b ∈ fp, ∀ o, s7.heap.get? b = some o → s'.heap.get? b = some o ∧ H' b = none := fun b hb o e =>
          let z := I'.pin (b, o) (List.mem_append_right _ (List.mem_append_right _ (mem_pinsAt hb e)))
          ⟨z.1, z.2.1⟩
        refine ⟨m', hm, i + 1, H', (I'.unpinned (pins := [])).weak (by rw [← hw8, wipe_length]) (fun j v e => ?_), T.keep _ _ _ st7 fun b hb o e => (pin' b hb o e).1, fun b hb => ?_, w'⟩
        · rw [← hw8] at e
          exact (wipe_some e).1
        · obtain ⟨o, e, _⟩ := T.obj _ _ st7 b hb
          exact (pin' b hb o e).2
      cases b with
      | false =>
        simp only [Bool.false_eq_true, if_false] at q9 ⊢
        exact fin I9 q9
      | true =>
        simp only [if_true] at q9 ⊢
        refine thnF (pe.run _ s9 σ8 H9 _ I9 q9) fun z s10 ⟨y, H10, I10, r10, q10⟩ => ?_
        exact add_run (X := X.blk s3 H3 scope ce fp) I10 r10 q10 fun r s11 H11 I11 nx => fin I11 nx
  exact codeAny_compStart_set loop (T.self X.A 0 _ _ _ st4 loop)
end
end XS
namespace G
open PySem PySem.Spec PyProof.Rows L2 Evl
/-! ## two lists side by side -/
def All2 {α β : Type} (R : α → β → Prop) (as : List α) (bs : List β) : Prop := as.length = bs.length ∧ ∀ (i : Nat) (a : α) (b : β), as[i]? = some a → bs[i]? = some b → R a b
theorem All2.nil {α β : Type} {R : α → β → Prop} : All2 R [] [] := ⟨rfl, fun _ _ _ h => nomatch h⟩
theorem All2.imp {α β : Type} {R S : α → β → Prop} {as : List α} {bs : List β} (h : All2 R as bs) (f : ∀ a b, R a b → S a b) : All2 S as bs := ⟨h.1, fun i a b h1 h2 => f _ _ (h.2 i a b h1 h2)⟩
theorem All2.snoc {α β : Type} {R : α → β → Prop} {as : List α} {bs : List β} {a : α} {b : β} (h : All2 R as bs) (r : R a b) : All2 R (as ++ [a]) (bs ++ [b]) := by
  refine ⟨by rw [List.length_append, List.length_append, h.1]; rfl, fun i x y h1 h2 => ?_⟩
  by_cases hi : i < as.length
  · rw [List.getElem?_append_left hi] at h1
    rw [List.getElem?_append_left (h.1 ▸ hi)] at h2
    exact h.2 i x y h1 h2
  · rw [List.getElem?_append_right (by omega)] at h1
    rw [List.getElem?_append_right (by rw [← h.1]; omega), ← h.1] at h2
    cases e : i - as.length with
    | zero =>
      rw [e] at h1 h2
      cases h1; cases h2; exact r
    | succ n => rw [e] at h1; exact nomatch h1
theorem All2.at_ {α β : Type} {R : α → β → Prop} {as : List α} {bs : List β} (h : All2 R as bs) {i : Nat} {a : α} (e : as[i]? = some a) : ∃ b, bs[i]? = some b ∧ R a b := by
  have hi : i < bs.length := by rw [← h.1]; exact (List.getElem?_eq_some_iff.mp e).1
  exact ⟨bs[i], List.getElem?_eq_getElem hi, h.2 i a _ e (List.getElem?_eq_getElem hi)⟩
theorem All2.of {α β : Type} {R : α → β → Prop} {as : List α} {bs : List β} (h : All2 R as bs) {i : Nat} {b : β} (e : bs[i]? = some b) : ∃ a, as[i]? = some a ∧ R a b := by
  have hi : i < as.length := by rw [h.1]; exact (List.getElem?_eq_some_iff.mp e).1
  exact ⟨as[i], List.getElem?_eq_getElem hi, h.2 i _ b (List.getElem?_eq_getElem hi) e⟩
theorem All2.cons {α β : Type} {R : α → β → Prop} {as : List α} {bs : List β} {a : α} {b : β} (r : R a b) (h : All2 R as bs) : All2 R (a :: as) (b :: bs) := by
  refine ⟨by rw [List.length_cons, List.length_cons, h.1], fun i x y h1 h2 => ?_⟩
  cases i with
  | zero => cases h1; cases h2; exact r
  | succ i => exact h.2 i x y h1 h2
theorem take_snoc1 {α : Type} {l : List α} {j : Nat} {x : α} (h : l[j]? = some x) : l.take (j + 1) = l.take j ++ [x] := by rw [List.take_add_one, h]; rfl
theorem refs_get {as : List Addr} {k : Nat} {x : V} (hx : (as.map V.ref)[k]? = some x) : ∃ a, as[k]? = some a ∧ x = .ref a := by
  rw [List.getElem?_map] at hx
  cases e : as[k]? with
  | none => rw [e] at hx; cases hx
  | some a => rw [e] at hx; cases hx; exact ⟨a, rfl, rfl⟩
/-! ## walks: any body -/
theorem wk_list {K : PySem.W.Frag} {a : Addr} {xs : List V} {body : (Hp → Prop) → V → Hp → Prop} {H0 : Hp} {Qd : Hp → Prop} (Pv : Nat → Hp → Prop) (h0 : Pv 0 H0) (hl : ∀ i H, i ≤ xs.length → Pv i H → SqL K H a xs)
    (hs : ∀ i x H, xs[i]? = some x → Pv i H → body (Pv (i + 1)) x H) (hd : ∀ H, Pv xs.length H → Qd H) :
    ∃ W : Nat → Nat → Hp → Prop, (∃ m, W 0 m H0) ∧ ∀ i m H, W i m H → ((Itl K a).stop i H ∧ Qd H) ∨ ((Itl K a).go i H ∧ ∃ Nx : Hp → Prop, (∀ H', Nx H' → ∃ m', m' < m ∧ W (i + 1) m' H') ∧ ∀ x H', (Itl K a).yld i H x H' → body Nx x H') := by
  refine ⟨fun i m H => m = xs.length - i ∧ i ≤ xs.length ∧ Pv i H, ⟨xs.length, by simp, Nat.zero_le _, h0⟩, ?_⟩
  rintro i m H ⟨rfl, hi, p⟩
  have q := hl i H hi p
  rcases Nat.lt_or_ge i xs.length with lt | ge
  · have e : xs[i]? = some xs[i] := List.getElem?_eq_getElem lt
    refine .inr ⟨⟨xs, xs[i], q, e⟩, Pv (i + 1), fun H' p' => ⟨xs.length - (i + 1), by omega, rfl, lt, p'⟩, fun x H' y => ?_⟩
    obtain ⟨rfl, y⟩ := y
    exact hs i x _ (y xs q) p
  · have e : i = xs.length := by omega
    subst e
    exact .inl ⟨⟨xs, q, Nat.le_refl _⟩, hd H p⟩
theorem wk_tup {K : PySem.W.Frag} {a : Addr} {xs : List V} {body : (Hp → Prop) → V → Hp → Prop} {H0 : Hp} {Qd : Hp → Prop} (Pv : Nat → Hp → Prop) (h0 : Pv 0 H0) (hl : ∀ i H, i ≤ xs.length → Pv i H → SqT K H a xs)
    (hs : ∀ i x H, xs[i]? = some x → Pv i H → body (Pv (i + 1)) x H) (hd : ∀ H, Pv xs.length H → Qd H) :
    ∃ W : Nat → Nat → Hp → Prop, (∃ m, W 0 m H0) ∧ ∀ i m H, W i m H → ((Itt K a).stop i H ∧ Qd H) ∨ ((Itt K a).go i H ∧ ∃ Nx : Hp → Prop, (∀ H', Nx H' → ∃ m', m' < m ∧ W (i + 1) m' H') ∧ ∀ x H', (Itt K a).yld i H x H' → body Nx x H') := by
  refine ⟨fun i m H => m = xs.length - i ∧ i ≤ xs.length ∧ Pv i H, ⟨xs.length, by simp, Nat.zero_le _, h0⟩, ?_⟩
  rintro i m H ⟨rfl, hi, p⟩
  have q := hl i H hi p
  rcases Nat.lt_or_ge i xs.length with lt | ge
  · have e : xs[i]? = some xs[i] := List.getElem?_eq_getElem lt
    refine .inr ⟨⟨xs, xs[i], q, e⟩, Pv (i + 1), fun H' p' => ⟨xs.length - (i + 1), by omega, rfl, lt, p'⟩, fun x H' y => ?_⟩
    obtain ⟨rfl, y⟩ := y
    exact hs i x _ (y xs q) p
  · have e : i = xs.length := by omega
    subst e
    exact .inl ⟨⟨xs, q, Nat.le_refl _⟩, hd H p⟩
theorem wk_it {J : It} {n : Nat} {Gd : Hp → Prop} {Y : Nat → Hp → V → Hp → Prop} (w : Walk J n Gd Y) {body : (Hp → Prop) → V → Hp → Prop} {H0 : Hp} {Qd : Hp → Prop} (Pv : Nat → Hp → Prop) (h0 : Pv 0 H0) (hG : ∀ i H, i ≤ n → Pv i H → Gd H)
    (hs : ∀ i x H H', i < n → Pv i H → Y i H x H' → body (Pv (i + 1)) x H') (hd : ∀ H, Pv n H → Qd H) :
    ∃ W : Nat → Nat → Hp → Prop, (∃ m, W 0 m H0) ∧ ∀ i m H, W i m H → (J.stop i H ∧ Qd H) ∨ (J.go i H ∧ ∃ Nx : Hp → Prop, (∀ H', Nx H' → ∃ m', m' < m ∧ W (i + 1) m' H') ∧ ∀ x H', J.yld i H x H' → body Nx x H') := by
  refine ⟨fun i m H => m = n - i ∧ i ≤ n ∧ Pv i H, ⟨n, by simp, Nat.zero_le _, h0⟩, ?_⟩
  rintro i m H ⟨rfl, hi, p⟩
  rcases Nat.lt_or_ge i n with lt | ge
  · exact .inr ⟨w.goes i H lt (hG i H hi p), Pv (i + 1), fun H' p' => ⟨n - (i + 1), by omega, rfl, lt, p'⟩, fun x H' y => hs i x H H' lt p (w.yields i H x H' lt (hG i H hi p) y)⟩
  · have e : i = n := by omega
    subst e
    exact .inl ⟨w.stops H (hG i H hi p), hd H p⟩
/-! ## tuples joined and cut, whatever object that is -/
theorem cat_tup {K : PySem.W.Frag} {H : Hp} {a b : Addr} {xs ys : List V} {Q : VK} (ha : H a = some (.tup xs)) (hb : H b = some (.tup ys)) (hl : xs.length + ys.length ≤ sizeLine) (q : ∀ c H', Ex H H' → H' c = some (.tup (xs ++ ys)) → Q (.ref c) H') : rCatA K (.ref a) (.ref b) H Q := by
  refine ⟨a, b, xs, ys, rfl, rfl, SqT.of ha, SqT.of hb, hl, fun e => ?_, fun _ e => ?_, fun _ _ p np => ?_⟩
  · subst e; exact q b H (Ex.refl _) hb
  · subst e; exact q a H (Ex.refl _) (by rw [List.append_nil]; exact ha)
  · exact q p _ (Ex.new np) upd_same
theorem cut_tup {K : PySem.W.Frag} {H : Hp} {a : Addr} {xs : List V} {lo hi : Option Int} {Q : VK} (ha : H a = some (.tup xs)) (q : ∀ c H', Ex H H' → H' c = some (.tup (cutV xs lo hi)) → Q (.ref c) H') : rSlA K (.ref a) lo hi H Q := by
  refine ⟨a, xs, rfl, SqT.of ha, fun e => ?_, fun _ p np => q p _ (Ex.new np) upd_same⟩
  refine q a H (Ex.refl _) ?_
  rw [ha]
  unfold cutV
  rw [e.1, e.2, List.drop_zero, Nat.sub_zero, List.take_length]
theorem cutV_head {xs : List V} {k : Nat} (h : k ≤ xs.length) : cutV xs none (some (k : Int)) = xs.take k := by
  unfold cutV
  rw [HT.sIx_none, HT.sIx_nat, List.drop_zero, Nat.sub_zero, Nat.min_eq_left h]
theorem cutV_tail {xs : List V} {k : Nat} (h : k ≤ xs.length) : cutV xs (some (k : Int)) none = xs.drop k := by
  unfold cutV
  rw [HT.sIx_none, HT.sIx_nat, Nat.min_eq_left h, List.take_of_length_le]
  rw [List.length_drop]; exact Nat.le_refl _
end G
namespace G
open PySem PySem.Spec PyProof.Rows L2 Evl
theorem tYes_in {σ : L2.St} {H : Hp} {A B : Hp → Prop} (h : A H) : tYes σ H (fun b H3 => if b = true then A H3 else B H3) := by
  show if true = true then A H else B H
  exact iteT h
def tabV (bs : List Bool) : HO := .tup (bs.map V.bl)
theorem inV_ints {k : Int} {l : List Int} : inV (.int k) (l.map V.int) = l.contains k := by
  unfold inV
  rw [List.any_map, List.contains_eq_any_beq]
  congr 1
  funext y
  show (y == k) = (k == y)
  rw [Bool.eq_iff_iff]; simp; exact eq_comm
theorem inV_bls {k : Bool} {l : List Bool} : inV (.bl k) (l.map V.bl) = l.contains k := by
  unfold inV
  rw [List.any_map, List.contains_eq_any_beq]
  congr 1
  funext y
  show (y == k) = (k == y)
  cases y <;> cases k <;> rfl
theorem flat_map {α : Type} {f : α → V} (h : ∀ x, flatV (f x) = true) (l : List α) : (l.map f).all flatV = true := by
  rw [List.all_map]
  exact List.all_eq_true.mpr fun x _ => h x
theorem tif_by {tt : TE} {σ : L2.St} {H : Hp} {Q : VK} (R : V → Hp → Prop) (h : ∀ Q' : VK, (∀ v H', R v H' → Q' v H') → tt σ H Q') (rest : ∀ v H', R v H' → Q v H') : tt σ H Q := h Q rest
theorem bl_eq (a b : Bool) : decide (V.bl a = V.bl b) = decide (a = b) := by cases a <;> cases b <;> rfl
end G
namespace G
open PySem PySem.Spec PyProof.Rows L2
def topS (i : Nat) : Stmt := PySem.Challenge.pw_signoff_k45_required_times_and_slacks.main.body.getD i (.Pass ⟨0, 0, 0, 0⟩)
abbrev s_wall : Stmt := topS 1
abbrev s_sources : Stmt := topS 9
abbrev s_gate_order : Stmt := topS 10
abbrev s_check_nets : Stmt := topS 11
abbrev s_with_ranges : Stmt := topS 12
abbrev s_least_order : Stmt := topS 13
abbrev s_all_names : Stmt := topS 14
abbrev s_gates_read : Stmt := topS 15
abbrev s_Arrivals_init : Stmt := inClass (topS 17) 0
abbrev s_Arrivals_touched : Stmt := inClass (topS 17) 1
abbrev s_Arrivals_early : Stmt := inClass (topS 17) 2
abbrev s_Arrivals_late : Stmt := inClass (topS 17) 3
abbrev s_Arrivals_paths : Stmt := inClass (topS 17) 4
abbrev s_Arrivals_worst_paths : Stmt := inClass (topS 17) 5
abbrev s_Arrivals_count_paths : Stmt := inClass (topS 17) 6
abbrev s_Arrivals_required : Stmt := inClass (topS 17) 7
abbrev s_Arrivals_slack : Stmt := inClass (topS 17) 8
abbrev s_Arrivals_set_range : Stmt := inClass (topS 17) 9
abbrev s_Arrivals_set_start : Stmt := inClass (topS 17) 10
abbrev s_Arrivals_present : Stmt := inClass (topS 17) 11
abbrev s_Arrivals_starts : Stmt := inClass (topS 17) 12
abbrev s_Arrivals_check_net : Stmt := inClass (topS 17) 13
abbrev s_Arrivals_computed : Stmt := inClass (topS 17) 14
abbrev s_Arrivals_compute_again : Stmt := inClass (topS 17) 15
abbrev s_Arrivals_ahead : Stmt := inClass (topS 17) 16
abbrev s_Arrivals_steps : Stmt := inClass (topS 17) 17
abbrev s_check_start : Stmt := topS 18
abbrev s_gates_by_net : Stmt := topS 19
abbrev s_law_same : Stmt := topS 21
abbrev s_law_pool : Stmt := topS 22
abbrev s_law_spread : Stmt := topS 23
abbrev s_law_draw : Stmt := topS 24
abbrev s_law_names : Stmt := topS 25
abbrev s_law_span : Stmt := topS 26
abbrev s_law_gate : Stmt := topS 27
abbrev s_law_times : Stmt := topS 28
abbrev s_law_circuit : Stmt := topS 29
abbrev s_law_sources : Stmt := topS 30
abbrev s_law_nets : Stmt := topS 31
abbrev s_law_sorted_gates : Stmt := topS 32
abbrev s_law_settle : Stmt := topS 33
abbrev s_law_vector : Stmt := topS 34
abbrev s_law_all_vectors : Stmt := topS 35
abbrev s_law_starts : Stmt := topS 36
abbrev s_law_arrivals : Stmt := topS 37
abbrev s_law_paths : Stmt := topS 38
abbrev s_law_ahead : Stmt := topS 39
abbrev s_law : Stmt := topS 40
end G
namespace G
open PySem PySem.Spec PyProof.Rows L2 Evl
structure TxtL (mg : Str → Option Value) : Prop where
  int : mg "int" = none
  len : mg "len" = none
  list : mg "list" = none
  range : mg "range" = none
section
variable {P : Program} {w : World} {K : PySem.W.Frag} {mg : Str → Option Value} {base : Heap}
def spSpread : Sp := fun vs H Q _ => ∃ (c : Int), vs = [.int c] ∧ ∀ v : Int, Q (.int v) H
theorem sc_law_spread : FnScope ["cell", "mixed", "total", "k"] ["cell"] (defScope s_law_spread) := ⟨rfl, rfl, rfl, by decide +kernel, rfl, by decide +kernel, by decide +kernel⟩
theorem ok_law_spread (D : Dfd K mg "_law_spread" s_law_spread ["cell"]) (T : TxtL mg) : Has P w K mg base 1 "_law_spread" ["cell"] spSpread := by
  refine D.has fun f fd F => F.ok sc_law_spread (fun vs H Q E h => ?_) (fun cdv A outer s H vs Q E hr h => ?_)
  · obtain ⟨c, rfl, _⟩ := h
    rfl
  · obtain ⟨c, rfl, q⟩ := h
    refine ⟨_, (pss_cons (ps_set (i := 1) sc_law_spread.nd rfl (.inl rfl) (pe_op op_mod (pe_callTy call_int1 (by rfl) T.int (by decide +kernel) (pa_cons (pv 0) pa_nil)) pe_int))
      (pss_cons (ps_set (i := 2) sc_law_spread.nd rfl (.inl rfl) pe_int)
      (pss_cons (ps_for PassesOwn.never rfl (pi_range1 rfl T.range (pa_cons pe_int pa_nil)) (pg_name (i := 3) sc_law_spread.nd rfl (.inl rfl))
        (pss_cons (ps_set (i := 1) sc_law_spread.nd rfl (.inl rfl) (pe_op op_mod (pe_callTy call_int1 (by rfl) T.int (by decide +kernel) (pa_cons (pe_op op_add (pe_op op_add (pe_op op_mul (pv 1) pe_int) pe_int) (pv 3)) pa_nil)) pe_int))
        (pss_one (ps_set (i := 2) sc_law_spread.nd rfl (.inl rfl) (pe_op op_add (pe_op op_mul (pv 2) pe_int) (pv 1))))))
      (pss_one (ps_ret (pv 2)))))), ?_⟩
    refine ⟨_, rfl, .inl ⟨_, rfl, _, _, rfl, rfl, (by show (0 : Int) < 2147483647; decide), 4, rfl, by decide, by decide, for_range (n := 4) (fun _ σ H' => H' = H ∧ ∃ (x y : Int) (z : Option V), σ = [some (.int c), some (.int x), some (.int y), z]) ⟨rfl, _, _, _, rfl⟩ ?_ ?_⟩⟩
    · rintro i σ H' hi ⟨rfl, x, y, z, rfl⟩
      refine ⟨_, rfl, _, _, rfl, rfl, .inr ⟨by decide, by decide⟩, _, _, rfl, rfl, _, rfl, _, _, rfl, rfl, .inl ⟨_, rfl, _, _, rfl, rfl, (by show (0 : Int) < 2147483647; decide), _, rfl, _, _, rfl, rfl, .inr ⟨by decide, by decide⟩, _, rfl, _, _, rfl, rfl, rfl, _, _, _, rfl⟩⟩
    · rintro σ H' ⟨rfl, x, y, z, rfl⟩
      exact ⟨_, rfl, q y⟩
/-- a draw below n -/
def spDraw : Sp := fun vs H Q _ => ∃ (p a : Addr) (n : Int), vs = [.ref p, .int n] ∧ 0 < n ∧ n.natAbs.log2 < 9000 ∧ PoolOk p a H ∧ ∀ (v : Int) (o : HO), 0 ≤ v → v < n → PoolOk p a (upd H p o) → Q (.int v) (upd H p o)
theorem sc_law_draw : FnScope ["pool", "many", "cell", "mixed", "value"] ["pool", "many"] (defScope s_law_draw) := ⟨rfl, rfl, rfl, by decide +kernel, rfl, by decide +kernel, by decide +kernel⟩
theorem ok_law_draw (D : Dfd K mg "_law_draw" s_law_draw ["pool", "many"]) (T : TxtL mg) (C : Has P w K mg base 1 "_law_spread" ["cell"] spSpread) : Has P w K mg base 2 "_law_draw" ["pool", "many"] spDraw := by
  obtain ⟨f_law_spread, d_law_spread, G_law_spread, g_law_spread, k_law_spread, b_law_spread⟩ := C
  refine D.has fun f fd F => F.ok sc_law_draw (fun vs H Q E h => ?_) (fun cdv A outer s H vs Q E hr h => ?_)
  · obtain ⟨p, a, n, rfl, _⟩ := h
    rfl
  · obtain ⟨p, a, n, rfl, n0, n9, hp, q⟩ := h
    refine ⟨_, (pss_cut (ps_if (PW.pt (pw_and (pt_cmpR op_le (pe_ix ix_list (pv 0) pe_int (fun _ _ => rfl)) pe_int (nomark _)) (pw_and1 (pt_cmpR op_lt (pe_ix ix_list (pv 0) pe_int (fun _ _ => rfl)) (pe_callB call_len_seq (by rfl) T.len (by decide +kernel) (pa_cons (pe_ix ix_list (pv 0) pe_int (fun _ _ => rfl)) pa_nil)) (nomark _)))))
      (pss_cons (ps_set (i := 2) sc_law_draw.nd rfl (.inl rfl) (pe_ix ix_list (pe_ix ix_list (pv 0) pe_int (fun _ _ => rfl)) (pe_ix ix_list (pv 0) pe_int (fun _ _ => rfl)) (fun _ _ => rfl)))
      (pss_cons (ps_asg (pe_op op_add (pe_ix ix_list (pv 0) pe_int (fun _ _ => rfl)) pe_int) (pg_sub (pv 0) pe_int set_list))
      (pss_cons (ps_asg (pv 2) (pg_sub (pv 0) pe_int set_list))
      (pss_one (ps_if (pt_cmpR op_lt (pv 2) pe_int (nomark _))
        (pss_one (ps_asg (pe_call G_law_spread hr (by rfl) g_law_spread k_law_spread b_law_spread .nil pass0 (pa_cons (pv 2) pa_nil)) (pg_sub (pv 0) pe_int set_list)))
        pss_nil)))))
      pss_nil)
    (pss_cons (ps_asg (pe_op op_add (pe_ix ix_list (pv 0) pe_int (fun _ _ => rfl)) pe_int) (pg_sub (pv 0) pe_int set_list))
    (pss_cons (ps_if (pt_cmpR op_le (pe_ix ix_list (pv 0) pe_int (fun _ _ => rfl)) pe_int (nomark _))
      (pss_cons (ps_set (i := 3) sc_law_draw.nd rfl (.inl rfl) (pe_op op_mod (pe_callTy call_int1 (by rfl) T.int (by decide +kernel) (pa_cons (pe_op op_add (pe_op op_add (pe_op op_mul (pe_ix ix_list (pv 0) pe_int (fun _ _ => rfl)) pe_int) (pe_op op_mul (pe_ix ix_list (pv 0) pe_int (fun _ _ => rfl)) pe_int)) pe_int) pa_nil)) pe_int))
      (pss_cons (ps_set (i := 3) sc_law_draw.nd rfl (.inl rfl) (pe_op op_mod (pe_callTy call_int1 (by rfl) T.int (by decide +kernel) (pa_cons (pe_op op_add (pe_op op_mul (pv 3) pe_int) (pe_ix ix_list (pv 0) pe_int (fun _ _ => rfl))) pa_nil)) pe_int))
      (pss_one (ps_ret (pe_op op_mod (pe_op op_fdiv (pv 3) pe_int) (pv 1))))))
      pss_nil)
    (pss_cons (ps_set (i := 4) sc_law_draw.nd rfl (.inl rfl) (pe_op op_mod (pe_callTy call_int1 (by rfl) T.int (by decide +kernel) (pa_cons (pe_ix ix_list (pv 0) pe_int (fun _ _ => rfl)) pa_nil)) (pv 1)))
    (pss_cons (ps_asg (pe_op op_fdivW (pe_ix ix_list (pv 0) pe_int (fun _ _ => rfl)) (pv 1)) (pg_sub (pv 0) pe_int set_list))
    (pss_one (ps_ret (pv 4)))))))), ?_⟩
    obtain ⟨ns, i, c, k, s5, hl, ha, hn⟩ := hp
    have hap : a ≠ p := hid_neq ha
    have haH := hid_get ha
    -- the pool as it stands after writes
    have pk : ∀ (i' : Nat) (c' k' s' : Int), PoolOk p a (upd H p (.lst [.ref a, .int i', .int c', .int k', .int s'])) := fun i' c' k' s' =>
      ⟨ns, i', c', k', s', upd_same, by rw [hid_upd]; exact ha, hn⟩
    refine ⟨fun σ H' => ∃ (i' : Nat) (c' k' s' : Int) (o1 : Option V), σ = [some (.ref p), some (.int n), o1, none, none] ∧ H' p = some (.lst [.ref a, .int i', .int c', .int k', .int s']) ∧ (∀ o, upd H' p o = upd H p o), ?_, ?_⟩
    · refine ⟨_, rfl, _, _, _, _, rfl, rfl, SqL.of hl, atI_nat (j := 2) rfl, _, _, rfl, rfl, _, rfl, ite2 (fun e1 => ?_) (fun e1 => ?_)⟩
      · refine ⟨_, rfl, _, _, _, _, rfl, rfl, SqL.of hl, atI_nat (j := 1) rfl, _, rfl, _, _, _, _, rfl, rfl, SqL.of hl, atI_nat (j := 0) rfl, _, _, rfl, .inl (SqL.of haH), _, _, rfl, rfl, _, rfl, ite2 (fun e2 => ?_) (fun e2 => ?_)⟩
        · have hi : i < (ns.map V.int).length := by have := of_decide_eq_true e2; omega
          have hi' : i < ns.length := by rw [List.length_map] at hi; exact hi
          have gi : (ns.map V.int)[i]? = some (.int ns[i]) := by rw [List.getElem?_map, List.getElem?_eq_getElem hi']; rfl
          refine ⟨_, rfl, _, _, _, _, rfl, rfl, SqL.of hl, atI_nat (j := 0) rfl, _, rfl, _, _, _, _, rfl, rfl, SqL.of hl, atI_nat (j := 1) rfl, _, _, _, _, rfl, rfl, SqL.of haH, atI_nat gi, ?_⟩
          refine ⟨_, rfl, _, _, _, _, rfl, rfl, SqL.of hl, atI_nat (j := 1) rfl, _, _, rfl, rfl, _, rfl, _, _, _, 1, rfl, rfl, hl, rfl, ?_⟩
          refine ⟨_, rfl, _, rfl, _, _, _, 2, rfl, rfl, upd_same, rfl, ?_⟩
          refine ⟨_, rfl, _, _, rfl, rfl, _, rfl, ite2 (fun e3 => ?_) (fun e3 => ?_)⟩
          · refine ⟨_, rfl, _, rfl, fun v => ⟨_, rfl, _, _, _, 2, rfl, rfl, upd_same, rfl, ?_⟩⟩
            exact ⟨i + 1, v, k, s5, _, rfl, upd_same, fun o => by rw [upd_upd, upd_upd, upd_upd]⟩
          · exact ⟨i + 1, ns[i], k, s5, _, rfl, upd_same, fun o => by rw [upd_upd, upd_upd]⟩
        · exact ⟨i, c, k, s5, _, rfl, hl, fun _ => rfl⟩
      · exact iteF ⟨i, c, k, s5, _, rfl, hl, fun _ => rfl⟩
    · rintro σ H' ⟨i, c, k, s5, o1, rfl, hl', hu⟩
      refine ⟨_, rfl, _, _, _, _, rfl, rfl, SqL.of hl', atI_nat (j := 3) rfl, _, _, rfl, rfl, _, rfl, _, _, _, 3, rfl, rfl, hl', rfl, ?_⟩
      refine ⟨_, rfl, _, _, _, _, rfl, rfl, SqL.of upd_same, atI_nat (j := 2) rfl, _, _, rfl, rfl, _, rfl, ite2 (fun e1 => ?_) (fun e1 => ?_)⟩
      · refine ⟨_, rfl, _, _, _, _, rfl, rfl, SqL.of upd_same, atI_nat (j := 4) rfl, _, _, rfl, rfl, .inr ⟨by decide, by decide⟩, _, rfl, _, _, _, _, rfl, rfl, SqL.of upd_same, atI_nat (j := 3) rfl, _, _, rfl, rfl, .inr ⟨by decide, by decide⟩, _, _, rfl, rfl, _, _, rfl, rfl, .inl ⟨_, rfl, _, _, rfl, rfl, (by show (0 : Int) < 2147483647; decide), ?_⟩⟩
        refine ⟨_, rfl, _, _, rfl, rfl, .inr ⟨by decide, by decide⟩, _, rfl, _, _, _, _, rfl, rfl, SqL.of upd_same, atI_nat (j := 3) rfl, _, _, rfl, rfl, .inl ⟨_, rfl, _, _, rfl, rfl, (by show (0 : Int) < 2147483629; decide), ?_⟩⟩
        refine ⟨_, rfl, _, _, rfl, rfl, ⟨by decide, by decide⟩, _, rfl, _, _, rfl, rfl, n0, ?_⟩
        show Q _ _
        rw [hu]
        exact q _ _ (Int.emod_nonneg _ (by omega)) (Int.emod_lt_of_pos _ n0) (pk i c (k + 1) s5)
      · refine ⟨_, rfl, _, _, _, _, rfl, rfl, SqL.of upd_same, atI_nat (j := 2) rfl, .inl ⟨_, rfl, _, rfl, _, _, rfl, rfl, n0, ?_⟩⟩
        refine ⟨_, rfl, _, _, _, _, rfl, rfl, SqL.of upd_same, atI_nat (j := 2) rfl, _, rfl, _, _, rfl, rfl, ⟨n0, n9⟩, _, rfl, _, _, _, 2, rfl, rfl, upd_same, rfl, _, rfl, ?_⟩
        show Q _ _
        rw [upd_upd, hu]
        exact q _ _ (Int.emod_nonneg _ (by omega)) (Int.emod_lt_of_pos _ n0) (pk i (c / n) (k + 1) s5)
/-- the same, the heap behind it a letter -/
def spDrawX : Sp := fun vs H Q _ => ∃ (p a : Addr) (n : Int), vs = [.ref p, .int n] ∧ 0 < n ∧ n ≤ 2 ^ 70 ∧ PoolOk p a H ∧ ∀ (v : Nat) (H' : Hp), (v : Int) < n → Px p a H H' → (∀ b, b ≠ p → H' b = H b) → Q (.int v) H'
theorem log2_small {n : Int} (h0 : 0 < n) (h : n ≤ 2 ^ 70) : n.natAbs.log2 < 9000 := by
  have h1 : n.natAbs < 2 ^ 71 := by omega
  have := PySem.Flt.log2_lt_of (by decide : 0 < 71) h1
  omega
theorem drawX (C : Has P w K mg base 2 "_law_draw" ["pool", "many"] spDraw) : Has P w K mg base 2 "_law_draw" ["pool", "many"] spDrawX :=
  C.imp fun vs H Q E h => by
    obtain ⟨p, a, n, rfl, h0, h1, hp, q⟩ := h
    refine ⟨p, a, n, rfl, h0, log2_small h0 h1, hp, fun v o v0 v1 hq => ?_⟩
    have e : v = ((v.toNat : Nat) : Int) := by omega
    rw [e]
    exact q v.toNat _ (by omega) (Px.draw hp hq) fun b hb => upd_ne hb
end
end G
namespace G
open PySem PySem.Spec PyProof.Rows L2 Evl
section
variable {P : Program} {w : World} {K : PySem.W.Frag} {mg : Str → Option Value} {base : Heap}
theorem cutV_mem {xs : List V} {lo hi : Option Int} {i : Nat} {x : V} (h : (cutV xs lo hi)[i]? = some x) : x ∈ xs := by
  unfold cutV at h
  exact List.mem_of_mem_drop (List.mem_of_mem_take (List.mem_of_getElem? h))
theorem int_of {ns : List Int} {x : V} (h : x ∈ ns.map V.int) : ∃ z, x = .int z := by
  obtain ⟨z, _, e⟩ := List.mem_map.mp h
  exact ⟨z, e.symm⟩
def spPool (K : PySem.W.Frag) : Sp := fun vs H Q _ => ∃ (s : Addr) (ns : List Int), vs = [.ref s] ∧ SqL K H s (ns.map V.int) ∧ ns.length ≤ 1000 ∧ ∀ (p a : Addr) (H' : Hp), PoolOk p a H' → Ex H H' → H p = none → Q (.ref p) H'
theorem sc_law_pool : FnScope ["script", "salt", "cell"] ["script"] (defScope s_law_pool) := ⟨rfl, rfl, rfl, by decide +kernel, rfl, by decide +kernel, by decide +kernel⟩
theorem ok_law_pool (D : Dfd K mg "_law_pool" s_law_pool ["script"]) (T : TxtL mg) : Has P w K mg base 1 "_law_pool" ["script"] (spPool K) := by
  refine D.has fun f fd F => F.ok sc_law_pool (fun vs H Q E h => ?_) (fun cdv A outer s H vs Q E hr h => ?_)
  · obtain ⟨c, _, rfl, _⟩ := h
    rfl
  · obtain ⟨sa, ns, rfl, hs, hn, q⟩ := h
    refine ⟨_, (pss_cons (ps_set (i := 1) sc_law_pool.nd rfl (.inl rfl) pe_int)
      (pss_cons (ps_for PassesOwn.never rfl (pi_list (pe_slice sl_list (pv 0) po_none (po_some pe_int))) (pg_name (i := 2) sc_law_pool.nd rfl (.inl rfl))
        (pss_one (ps_set (i := 1) sc_law_pool.nd rfl (.inl rfl) (pe_op op_mod (pe_callTy call_int1 (by rfl) T.int (by decide +kernel) (pa_cons (pe_op op_add (pe_op op_mul (pv 1) pe_int) (pv 2)) pa_nil)) pe_int))))
      (pss_one (ps_ret (pe_lst (pa_cons (pe_callTy call_list_of (by rfl) T.list (by decide +kernel) (pa_cons (pv 0) pa_nil)) (pa_cons pe_int (pa_cons pe_int (pa_cons pe_int (pa_cons (pv 1) pa_nil)))))))))), ?_⟩
    refine ⟨_, rfl, _, rfl, sa, _, rfl, hs, fun c nc => ⟨c, rfl, ⟨_, SqL.of upd_same⟩, for_list (K := K) (a := c) (xs := cutV (ns.map V.int) none (some 63)) (fun _ σ H' => H' = upd H c (.lst (cutV (ns.map V.int) none (some 63))) ∧ ∃ (x : Int) (z : Option V), σ = [some (.ref sa), some (.int x), z]) ⟨rfl, _, _, rfl⟩ ?_ ?_ ?_⟩⟩
    · rintro i σ H' _ ⟨rfl, _⟩
      exact SqL.of upd_same
    · rintro i x σ H' hi ⟨rfl, y, z, rfl⟩
      obtain ⟨m, rfl⟩ := int_of (cutV_mem hi)
      exact ⟨_, rfl, _, _, rfl, rfl, .inr ⟨by decide, by decide⟩, _, rfl, _, _, rfl, rfl, .inl ⟨_, rfl, _, _, rfl, rfl, (by show (0 : Int) < 1000003; decide), rfl, _, _, rfl⟩⟩
    · rintro σ H' ⟨rfl, y, z, rfl⟩
      have e1 : Ex H (upd H c (.lst (cutV (ns.map V.int) none (some 63)))) := Ex.new nc
      refine ⟨_, rfl, _, _, rfl, .inl (ex_l e1 hs), fun l nl => ⟨_, rfl, (by show 5 ≤ sizeLine; decide), fun p np => ?_⟩⟩
      have e2 := e1.trans (Ex.new (o := .lst (ns.map V.int)) nl)
      have npl : l ≠ p := ne_of_none upd_same np
      exact q p l _ ⟨ns, 0, 0, 0, y, upd_same, by rw [hid_ne npl, upd_ne npl]; exact upd_same, hn⟩ (e2.trans (Ex.new np)) (fresh_back e2 np)
end
end G
namespace G
open PySem PySem.Spec PyProof.Rows L2 Evl
/-! ## data -/
inductive D where
  | non | bl (b : Bool) | int (i : Int) | str (s : Str) | tup (l : List D) | lst (l : List D)
def okD : Nat → D → Prop
  | 0, .tup _ => False
  | 0, .lst _ => False
  | n + 1, .tup l => l.length < 2 ^ 61 ∧ ∀ d ∈ l, okD n d
  | n + 1, .lst l => l.length < 2 ^ 61 ∧ ∀ d ∈ l, okD n d
  | _, _ => True
inductive Rep (H : Hp) : V → D → Prop where
  | non : Rep H .non .non
  | bl (b : Bool) : Rep H (.bl b) (.bl b)
  | int (i : Int) : Rep H (.int i) (.int i)
  | str (s : Str) : Rep H (.str s) (.str s)
  | tup {a : Addr} {xs : List V} {ds : List D} (h : H a = some (.tup xs)) (hl : xs.length = ds.length) (hr : ∀ (i : Nat) (x : V) (d : D), xs[i]? = some x → ds[i]? = some d → Rep H x d) : Rep H (.ref a) (.tup ds)
  | lst {a : Addr} {xs : List V} {ds : List D} (h : H a = some (.lst xs)) (hl : xs.length = ds.length) (hr : ∀ (i : Nat) (x : V) (d : D), xs[i]? = some x → ds[i]? = some d → Rep H x d) : Rep H (.ref a) (.lst ds)
theorem Rep.ex {H H' : Hp} (e : Ex H H') {x : V} {d : D} (r : Rep H x d) : Rep H' x d := by
  induction r with
  | non => exact .non
  | bl b => exact .bl b
  | int i => exact .int i
  | str s => exact .str s
  | tup h hl _ ih => exact .tup (e _ _ h) hl ih
  | lst h hl _ ih => exact .lst (e _ _ h) hl ih
theorem okD.mono : ∀ {n m : Nat} {d : D}, n ≤ m → okD n d → okD m d
  | 0, 0, d, _, h => h
  | 0, m + 1, .non, _, _ => trivial
  | 0, m + 1, .bl _, _, _ => trivial
  | 0, m + 1, .int _, _, _ => trivial
  | 0, m + 1, .str _, _, _ => trivial
  | 0, m + 1, .tup _, _, h => h.elim
  | 0, m + 1, .lst _, _, h => h.elim
  | n + 1, m + 1, .non, _, _ => trivial
  | n + 1, m + 1, .bl _, _, _ => trivial
  | n + 1, m + 1, .int _, _, _ => trivial
  | n + 1, m + 1, .str _, _, _ => trivial
  | n + 1, m + 1, .tup l, le, h => ⟨h.1, fun d hd => okD.mono (Nat.le_of_succ_le_succ le) (h.2 d hd)⟩
  | n + 1, m + 1, .lst l, le, h => ⟨h.1, fun d hd => okD.mono (Nat.le_of_succ_le_succ le) (h.2 d hd)⟩
structure TxtS (mg : Str → Option Value) : Prop where
  isinstance : mg "isinstance" = none
  tuple : mg "tuple" = none
  list : mg "list" = none
  len : mg "len" = none
  range : mg "range" = none
  bool : mg "bool" = none
  int : mg "int" = none
  str : mg "str" = none
section
variable {P : Program} {w : World} {K : PySem.W.Frag} {mg : Str → Option Value} {base : Heap}
/-- equal data: the answer is True -/
def spSame : Nat → Sp
  | 0 => fun _ _ _ _ => False
  | n + 1 => fun vs H Q _ => ∃ (x y : V) (d : D), vs = [x, y] ∧ Rep H x d ∧ Rep H y d ∧ okD n d ∧ Q (.bl true) H
theorem sc_law_same : FnScope ["actual", "due", "k"] ["actual", "due"] (defScope s_law_same) := ⟨rfl, rfl, rfl, by decide +kernel, rfl, by decide +kernel, by decide +kernel⟩
theorem fn_law_same {f : Addr} {fd : FuncData} (F : Fun K "_law_same" "_law_same" s_law_same f fd) (g_law_same : mg "_law_same" = some (.ref f)) (b_law_same : Binds K fd ["actual", "due"] []) (T : TxtS mg) : ∀ n, FnOk P w K mg base CX0 n f fd ["actual", "due"] (spSame n)
  | 0 => ⟨fun _ _ _ _ h => h.elim, fun _ _ _ _ _ _ _ _ _ _ _ _ _ h => h.elim⟩
  | n + 1 => by
    have G_law_same := fn_law_same F g_law_same b_law_same T n
    have k_law_same := F.kp
    refine F.ok sc_law_same (fun vs H Q E h => ?_) (fun cdv A outer s H vs Q E hr h => ?_)
    · obtain ⟨x, y, d, rfl, _⟩ := h
      rfl
    · obtain ⟨x, y, d, rfl, rx, ry, hd, q⟩ := h
      refine ⟨_, (pss_cons (ps_if (PW.pt (pw_or (pt_val (pe_callB call_isi (by rfl) T.isinstance (by decide +kernel) (pa_cons (pv 1) (pa_cons (pe_bltn (v := .ty "tuple") (by rfl) T.tuple (by decide +kernel) rfl) pa_nil)))) (pw_or1 (pt_val (pe_callB call_isi (by rfl) T.isinstance (by decide +kernel) (pa_cons (pv 1) (pa_cons (pe_bltn (v := .ty "list") (by rfl) T.list (by decide +kernel) rfl) pa_nil)))))))
      (pss_cons (ps_if (PW.pt (pw_or (pt_cmpR op_ne (pe_callB call_isi (by rfl) T.isinstance (by decide +kernel) (pa_cons (pv 1) (pa_cons (pe_bltn (v := .ty "tuple") (by rfl) T.tuple (by decide +kernel) rfl) pa_nil))) (pe_callB call_isi (by rfl) T.isinstance (by decide +kernel) (pa_cons (pv 0) (pa_cons (pe_bltn (v := .ty "tuple") (by rfl) T.tuple (by decide +kernel) rfl) pa_nil))) (nomark _)) (pw_or1 (pt_cmpR op_ne (pe_callB call_isi (by rfl) T.isinstance (by decide +kernel) (pa_cons (pv 1) (pa_cons (pe_bltn (v := .ty "list") (by rfl) T.list (by decide +kernel) rfl) pa_nil))) (pe_callB call_isi (by rfl) T.isinstance (by decide +kernel) (pa_cons (pv 0) (pa_cons (pe_bltn (v := .ty "list") (by rfl) T.list (by decide +kernel) rfl) pa_nil))) (nomark _)))))
        (pss_one (ps_ret pe_bl))
        pss_nil)
      (pss_cons (ps_if (pt_cmpR op_ne (pe_callB call_len_seq (by rfl) T.len (by decide +kernel) (pa_cons (pv 0) pa_nil)) (pe_callB call_len_seq (by rfl) T.len (by decide +kernel) (pa_cons (pv 1) pa_nil)) (nomark _))
        (pss_one (ps_ret pe_bl))
        pss_nil)
      (pss_cons (ps_for PassesOwn.never rfl (pi_range1 rfl T.range (pa_cons (pe_callB call_len_seq (by rfl) T.len (by decide +kernel) (pa_cons (pv 1) pa_nil)) pa_nil)) (pg_name (i := 2) sc_law_same.nd rfl (.inl rfl))
        (pss_one (ps_if (pt_not (pt_val (pe_call G_law_same hr (by rfl) g_law_same k_law_same b_law_same .nil pass0 (pa_cons (pe_ix ix_seq (pv 0) (pv 2) (fun _ _ => rfl)) (pa_cons (pe_ix ix_seq (pv 1) (pv 2) (fun _ _ => rfl)) pa_nil)))))
          (pss_one (ps_ret pe_bl))
          pss_nil)))
      (pss_one (ps_ret pe_bl)))))
      pss_nil)
    (pss_cons (ps_if (pt_cmpR op_isN (pv 1) pe_non (nomark _))
      (pss_one (ps_ret (pe_cmpR op_isN (pv 0) pe_non (nomark _))))
      pss_nil)
    (pss_cons (ps_if (pt_val (pe_callB call_isi (by rfl) T.isinstance (by decide +kernel) (pa_cons (pv 1) (pa_cons (pe_bltn (v := .ty "bool") (by rfl) T.bool (by decide +kernel) rfl) pa_nil))))
      (pss_one (ps_ret (pe_and (pe_callB call_isi (by rfl) T.isinstance (by decide +kernel) (pa_cons (pv 0) (pa_cons (pe_bltn (v := .ty "bool") (by rfl) T.bool (by decide +kernel) rfl) pa_nil))) (pe_one (pe_cmpR op_eq (pv 0) (pv 1) (nomark _))))))
      pss_nil)
    (pss_cons (ps_if (pt_val (pe_callB call_isi (by rfl) T.isinstance (by decide +kernel) (pa_cons (pv 1) (pa_cons (pe_bltn (v := .ty "int") (by rfl) T.int (by decide +kernel) rfl) pa_nil))))
      (pss_one (ps_ret (pe_and (pe_callB call_isi (by rfl) T.isinstance (by decide +kernel) (pa_cons (pv 0) (pa_cons (pe_bltn (v := .ty "int") (by rfl) T.int (by decide +kernel) rfl) pa_nil))) (pe_and (pe_not (pe_callB call_isi (by rfl) T.isinstance (by decide +kernel) (pa_cons (pv 0) (pa_cons (pe_bltn (v := .ty "bool") (by rfl) T.bool (by decide +kernel) rfl) pa_nil)))) (pe_one (pe_cmpR op_eq (pv 0) (pv 1) (nomark _)))))))
      pss_nil)
    (pss_one (ps_ret (pe_and (pe_callB call_isi (by rfl) T.isinstance (by decide +kernel) (pa_cons (pv 0) (pa_cons (pe_bltn (v := .ty "str") (by rfl) T.str (by decide +kernel) rfl) pa_nil))) (pe_one (pe_cmpR op_eq (pv 0) (pv 1) (nomark _)))))))))), ?_⟩
      cases rx with
      | non =>
        cases ry
        refine ⟨_, rfl, _, _, _, _, _, rfl, .ty "tuple", .base .non, kit_ty (a := "NoneType") (r := false) (by decide +kernel), _, rfl, iteF ⟨_, rfl, _, _, _, _, _, rfl, .ty "list", .base .non, kit_ty (a := "NoneType") (r := false) (by decide +kernel), _, rfl, iteF ⟨_, rfl, rfl, _, rfl, iteT ⟨_, rfl, rfl, ?_⟩⟩⟩⟩
        exact q
      | bl b =>
        cases ry
        refine ⟨_, rfl, _, _, _, _, _, rfl, .ty "tuple", .base (.bl _), kit_ty (a := "bool") (r := false) (by decide +kernel), _, rfl, iteF ⟨_, rfl, _, _, _, _, _, rfl, .ty "list", .base (.bl _), kit_ty (a := "bool") (r := false) (by decide +kernel), _, rfl, iteF ⟨_, rfl, rfl, _, rfl, iteF ⟨_, rfl, _, _, _, _, _, rfl, .ty "bool", .base (.bl _), kit_ty (a := "bool") (r := true) (by decide +kernel), _, rfl, iteT ⟨_, rfl, _, _, _, _, _, rfl, .ty "bool", .base (.bl _), kit_ty (a := "bool") (r := true) (by decide +kernel), _, rfl, iteT ⟨_, rfl, _, rfl, rfl, ?_⟩⟩⟩⟩⟩⟩
        rw [decide_eq_true rfl]
        exact q
      | int b =>
        cases ry
        refine ⟨_, rfl, _, _, _, _, _, rfl, .ty "tuple", .base (.int _), kit_ty (a := "int") (r := false) (by decide +kernel), _, rfl, iteF ⟨_, rfl, _, _, _, _, _, rfl, .ty "list", .base (.int _), kit_ty (a := "int") (r := false) (by decide +kernel), _, rfl, iteF ⟨_, rfl, rfl, _, rfl, iteF ⟨_, rfl, _, _, _, _, _, rfl, .ty "bool", .base (.int _), kit_ty (a := "int") (r := false) (by decide +kernel), _, rfl, iteF ⟨_, rfl, _, _, _, _, _, rfl, .ty "int", .base (.int _), kit_ty (a := "int") (r := true) (by decide +kernel), _, rfl, iteT ⟨_, rfl, _, _, _, _, _, rfl, .ty "int", .base (.int _), kit_ty (a := "int") (r := true) (by decide +kernel), _, rfl, iteT ⟨_, rfl, _, _, _, _, _, rfl, .ty "bool", .base (.int _), kit_ty (a := "int") (r := false) (by decide +kernel), _, rfl, _, rfl, iteT ⟨_, rfl, _, rfl, rfl, ?_⟩⟩⟩⟩⟩⟩⟩⟩
        rw [decide_eq_true rfl]
        exact q
      | str b =>
        cases ry
        refine ⟨_, rfl, _, _, _, _, _, rfl, .ty "tuple", .base (.str _), kit_ty (a := "str") (r := false) (by decide +kernel), _, rfl, iteF ⟨_, rfl, _, _, _, _, _, rfl, .ty "list", .base (.str _), kit_ty (a := "str") (r := false) (by decide +kernel), _, rfl, iteF ⟨_, rfl, rfl, _, rfl, iteF ⟨_, rfl, _, _, _, _, _, rfl, .ty "bool", .base (.str _), kit_ty (a := "str") (r := false) (by decide +kernel), _, rfl, iteF ⟨_, rfl, _, _, _, _, _, rfl, .ty "int", .base (.str _), kit_ty (a := "str") (r := false) (by decide +kernel), _, rfl, iteF ⟨_, rfl, _, _, _, _, _, rfl, .ty "str", .base (.str _), kit_ty (a := "str") (r := true) (by decide +kernel), _, rfl, iteT ⟨_, rfl, _, rfl, rfl, ?_⟩⟩⟩⟩⟩⟩⟩
        rw [decide_eq_true rfl]
        exact q
      | @tup a xs ds hx lx rx =>
        cases ry with
        | @tup b ys _ hy ly ry =>
          cases n with
          | zero => exact hd.elim
          | succ m =>
            obtain ⟨hlen, hall⟩ := hd
            refine ⟨_, rfl, _, _, _, _, _, rfl, .ty "tuple", .base (.tup hy), kit_ty (a := "tuple") (r := true) (by decide +kernel), _, rfl, iteT (iteT ⟨_, rfl, _, _, _, _, _, rfl, .ty "tuple", .base (.tup hy), kit_ty (a := "tuple") (r := true) (by decide +kernel), _, rfl, _, _, _, _, _, rfl, .ty "tuple", .base (.tup hx), kit_ty (a := "tuple") (r := true) (by decide +kernel), rfl, _, rfl, iteF ⟨_, rfl, _, _, _, _, _, rfl, .ty "list", .base (.tup hy), kit_ty (a := "tuple") (r := false) (by decide +kernel), _, rfl, _, _, _, _, _, rfl, .ty "list", .base (.tup hx), kit_ty (a := "tuple") (r := false) (by decide +kernel), rfl, _, rfl, iteF ⟨_, rfl, _, _, rfl, .inr (SqT.of hx), _, rfl, _, _, rfl, .inr (SqT.of hy), rfl, _, rfl, ?_⟩⟩⟩)⟩
            have el : decide (V.int (xs.length : Int) = V.int (ys.length : Int)) = true := decide_eq_true (by rw [lx, ly])
            rw [el]
            refine ⟨_, rfl, _, _, rfl, .inr (SqT.of hy), _, rfl, by omega, by omega, for_range (n := (ys.length : Int).toNat) (fun _ σ H' => H' = H ∧ ∃ z : Option V, σ = [some (.ref a), some (.ref b), z]) ⟨rfl, _, rfl⟩ ?_ ?_⟩
            · rintro i σ H' hi ⟨rfl, z, rfl⟩
              have hi' : i < ds.length := by omega
              have e0 : (0 : Int) + (i : Int) = (i : Int) := Int.zero_add _
              have g1 : xs[i]? = some xs[i] := List.getElem?_eq_getElem (by omega)
              have g2 : ys[i]? = some ys[i] := List.getElem?_eq_getElem (by omega)
              have g3 : ds[i]? = some ds[i] := List.getElem?_eq_getElem hi'
              rw [e0]
              refine ⟨_, rfl, _, rfl, .inr (.inl ⟨_, _, _, _, rfl, rfl, SqT.of hx, atI_nat g1, _, rfl, _, rfl, .inr (.inl ⟨_, _, _, _, rfl, rfl, SqT.of hy, atI_nat g2, ?_⟩)⟩)⟩
              exact ⟨_, _, ds[i], rfl, rx i _ _ g1 g3, ry i _ _ g2 g3, hall _ (List.getElem_mem hi'), _, rfl, rfl, _, rfl⟩
            · rintro σ H' ⟨rfl, z, rfl⟩
              exact q
      | @lst a xs ds hx lx rx =>
        cases ry with
        | @lst b ys _ hy ly ry =>
          cases n with
          | zero => exact hd.elim
          | succ m =>
            obtain ⟨hlen, hall⟩ := hd
            refine ⟨_, rfl, _, _, _, _, _, rfl, .ty "tuple", .base (.lst hy), kit_ty (a := "list") (r := false) (by decide +kernel), _, rfl, iteF ⟨_, rfl, _, _, _, _, _, rfl, .ty "list", .base (.lst hy), kit_ty (a := "list") (r := true) (by decide +kernel), _, rfl, iteT ⟨_, rfl, _, _, _, _, _, rfl, .ty "tuple", .base (.lst hy), kit_ty (a := "list") (r := false) (by decide +kernel), _, rfl, _, _, _, _, _, rfl, .ty "tuple", .base (.lst hx), kit_ty (a := "list") (r := false) (by decide +kernel), rfl, _, rfl, iteF ⟨_, rfl, _, _, _, _, _, rfl, .ty "list", .base (.lst hy), kit_ty (a := "list") (r := true) (by decide +kernel), _, rfl, _, _, _, _, _, rfl, .ty "list", .base (.lst hx), kit_ty (a := "list") (r := true) (by decide +kernel), rfl, _, rfl, iteF ⟨_, rfl, _, _, rfl, .inl (SqL.of hx), _, rfl, _, _, rfl, .inl (SqL.of hy), rfl, _, rfl, ?_⟩⟩⟩⟩⟩
            have el : decide (V.int (xs.length : Int) = V.int (ys.length : Int)) = true := decide_eq_true (by rw [lx, ly])
            rw [el]
            refine ⟨_, rfl, _, _, rfl, .inl (SqL.of hy), _, rfl, by omega, by omega, for_range (n := (ys.length : Int).toNat) (fun _ σ H' => H' = H ∧ ∃ z : Option V, σ = [some (.ref a), some (.ref b), z]) ⟨rfl, _, rfl⟩ ?_ ?_⟩
            · rintro i σ H' hi ⟨rfl, z, rfl⟩
              have hi' : i < ds.length := by omega
              have e0 : (0 : Int) + (i : Int) = (i : Int) := Int.zero_add _
              have g1 : xs[i]? = some xs[i] := List.getElem?_eq_getElem (by omega)
              have g2 : ys[i]? = some ys[i] := List.getElem?_eq_getElem (by omega)
              have g3 : ds[i]? = some ds[i] := List.getElem?_eq_getElem hi'
              rw [e0]
              refine ⟨_, rfl, _, rfl, .inl ⟨_, _, _, _, rfl, rfl, SqL.of hx, atI_nat g1, _, rfl, _, rfl, .inl ⟨_, _, _, _, rfl, rfl, SqL.of hy, atI_nat g2, ?_⟩⟩⟩
              exact ⟨_, _, ds[i], rfl, rx i _ _ g1 g3, ry i _ _ g2 g3, hall _ (List.getElem_mem hi'), _, rfl, rfl, _, rfl⟩
            · rintro σ H' ⟨rfl, z, rfl⟩
              exact q
theorem ok_law_same (D : Dfd K mg "_law_same" s_law_same ["actual", "due"]) (T : TxtS mg) (n : Nat) : Has P w K mg base n "_law_same" ["actual", "due"] (spSame n) := by
  obtain ⟨f, fd, F, g, b⟩ := D
  exact ⟨f, fd, fn_law_same F g b T n, g, F.kp, b⟩
end
/-! ## data made of flat lists -/
theorem rep_map {H : Hp} {α : Type} {f : α → V} {g : α → D} {l : List α} (h : ∀ x, Rep H (f x) (g x)) : (l.map f).length = (l.map g).length ∧ ∀ (i : Nat) (x : V) (d : D), (l.map f)[i]? = some x → (l.map g)[i]? = some d → Rep H x d := by
  refine ⟨by rw [List.length_map, List.length_map], fun i x d hx hd => ?_⟩
  rw [List.getElem?_map] at hx hd
  cases e : l[i]? with
  | none => rw [e] at hx; cases hx
  | some y =>
    rw [e] at hx hd
    have e1 : f y = x := Option.some.inj hx
    have e2 : g y = d := Option.some.inj hd
    rw [← e1, ← e2]
    exact h y
theorem rep_ints {H : Hp} {a : Addr} {l : List Int} (h : H a = some (.lst (l.map V.int))) : Rep H (.ref a) (.lst (l.map D.int)) :=
  let r := rep_map (H := H) (f := V.int) (g := D.int) (l := l) fun i => .int i
  .lst h r.1 r.2
theorem rep_bls {H : Hp} {a : Addr} {l : List Bool} (h : H a = some (.tup (l.map V.bl))) : Rep H (.ref a) (.tup (l.map D.bl)) :=
  let r := rep_map (H := H) (f := V.bl) (g := D.bl) (l := l) fun i => .bl i
  .tup h r.1 r.2
theorem okD_ints {l : List Int} (h : l.length < 2 ^ 61) : okD 1 (.lst (l.map D.int)) := ⟨by rw [List.length_map]; exact h, fun d hd => by obtain ⟨_, _, rfl⟩ := List.mem_map.mp hd; trivial⟩
end G
namespace G
open PySem PySem.Spec PyProof.Rows L2 Evl
/-! ## tuples never change -/
def TEx (H H' : Hp) : Prop := ∀ (b : Addr) (xs : List V), H b = some (.tup xs) → H' b = some (.tup xs)
theorem TEx.refl (H : Hp) : TEx H H := fun _ _ h => h
theorem TEx.trans {H H1 H2 : Hp} (a : TEx H H1) (b : TEx H1 H2) : TEx H H2 := fun c xs h => b c xs (a c xs h)
theorem TEx.of {H H' : Hp} (e : Ex H H') : TEx H H' := fun b xs h => e b _ h
theorem TEx.px {p a : Addr} {H H' : Hp} (x : Px p a H H') : TEx H H' := fun b xs h => by
  obtain ⟨_, _, _, _, _, e, _⟩ := x.was
  exact x.at_ (b := b) (o := .tup xs) (by rw [hid_ne (ne_of h e (by intro z; cases z))]; exact h)
theorem TEx.new {H : Hp} {b : Addr} {o : HO} (n : H b = none) : TEx H (upd H b o) := .of (Ex.new n)
theorem TEx.mut {H : Hp} {b : Addr} {l : List V} {o : HO} (h : H b = some (.lst l)) : TEx H (upd H b o) := fun c xs hc => by
  rw [upd_ne (ne_of hc h (by intro z; cases z))]; exact hc
/-! ## circuits -/
structure GateD where
  name : Str
  tab : List Bool
  pins : List Str
  rng : List (Int × Int)
structure RegD where
  name : Str
  net : Str
  edge : Int × Int
  out : Int × Int
  setup : Int
  hold : Int
  start : Bool
structure CircD where
  ins : List Str
  gates : List GateD
  regs : List RegD
  outs : List (Str × Str)
def IntsAt (H : Hp) (a : Addr) (p : Int × Int) : Prop := H a = some (.tup [.int p.1, .int p.2])
def GateAt (H : Hp) (a : Addr) (g : GateD) : Prop := ∃ (t pt rt : Addr) (ra : List Addr), H a = some (.tup [.str g.name, .ref t, .ref pt, .ref rt]) ∧ H t = some (.tup (g.tab.map V.bl)) ∧ H pt = some (.tup (g.pins.map V.str)) ∧ H rt = some (.tup (ra.map V.ref)) ∧ All2 (IntsAt H) ra g.rng
def RegAt (H : Hp) (a : Addr) (r : RegD) : Prop := ∃ ea oa : Addr, H a = some (.tup [.str r.name, .str r.net, .ref ea, .ref oa, .int r.setup, .int r.hold, .bl r.start]) ∧ IntsAt H ea r.edge ∧ IntsAt H oa r.out
def OutAt (H : Hp) (a : Addr) (o : Str × Str) : Prop := H a = some (.tup [.str o.1, .str o.2])
structure CircAt (H : Hp) (c : Addr) (d : CircD) (it gt rt ot : Addr) (ga ra oa : List Addr) : Prop where
  top : H c = some (.tup [.ref it, .ref gt, .ref rt, .ref ot])
  ins : H it = some (.tup (d.ins.map V.str))
  gts : H gt = some (.tup (ga.map V.ref))
  rgs : H rt = some (.tup (ra.map V.ref))
  ots : H ot = some (.tup (oa.map V.ref))
  gates : All2 (GateAt H) ga d.gates
  regs : All2 (RegAt H) ra d.regs
  outs : All2 (OutAt H) oa d.outs
section
variable {H H' : Hp} {a c it gt rt ot : Addr} {g : GateD} {r : RegD} {d : CircD} {ga ra oa : List Addr}
theorem IntsAt.te {p : Int × Int} (e : TEx H H') (h : IntsAt H a p) : IntsAt H' a p := e _ _ h
theorem GateAt.te (e : TEx H H') (h : GateAt H a g) : GateAt H' a g := by
  obtain ⟨t, pt, rt, ra, h1, h2, h3, h4, h5⟩ := h
  exact ⟨t, pt, rt, ra, e _ _ h1, e _ _ h2, e _ _ h3, e _ _ h4, h5.imp fun _ _ z => z.te e⟩
theorem RegAt.te (e : TEx H H') (h : RegAt H a r) : RegAt H' a r := by
  obtain ⟨ea, oa, h1, h2, h3⟩ := h
  exact ⟨ea, oa, e _ _ h1, h2.te e, h3.te e⟩
theorem CircAt.te (e : TEx H H') (h : CircAt H c d it gt rt ot ga ra oa) : CircAt H' c d it gt rt ot ga ra oa :=
  ⟨e _ _ h.top, e _ _ h.ins, e _ _ h.gts, e _ _ h.rgs, e _ _ h.ots, h.gates.imp fun _ _ z => z.te e, h.regs.imp fun _ _ z => z.te e, h.outs.imp fun _ _ z => e _ _ z⟩
end
/-! ### the names that are given -/
def nm (c : Str) (k : Nat) : Str := c ++ Str.ofString (toString ((k : Nat) : Int))
structure RegWf (r : RegD) : Prop where
  e0 : 0 ≤ r.edge.1 ∧ r.edge.1 ≤ 2
  e1 : r.edge.1 ≤ r.edge.2 ∧ r.edge.2 ≤ r.edge.1 + 2
  o0 : 0 ≤ r.out.1 ∧ r.out.1 ≤ 3
  o1 : r.out.1 + 1 ≤ r.out.2 ∧ r.out.2 ≤ r.out.1 + 4
  su : 0 ≤ r.setup ∧ r.setup ≤ 3
  ho : 0 ≤ r.hold ∧ r.hold < r.out.2
structure GateWf (ns : List Str) (k : Nat) (g : GateD) : Prop where
  name : g.name = nm "g" k
  few : g.pins.length ≤ 3
  pins : ∀ x ∈ g.pins, x ∈ ns
  tab : g.tab.length = 2 ^ g.pins.length
  many : g.rng.length = g.pins.length
  rng : ∀ r ∈ g.rng, 0 ≤ r.1 ∧ r.1 ≤ 4 ∧ r.1 + 2 ≤ r.2 ∧ r.2 ≤ r.1 + 6
/-- the gates in the order of their making: each reads what stood before it -/
structure CircWf (most : Nat) (d : CircD) (G : List GateD) : Prop where
  ins : ∃ n, 1 ≤ n ∧ n ≤ 3 ∧ d.ins = (List.range n).map (nm "i")
  regs : ∃ n, n ≤ 3 ∧ d.regs.map (·.name) = (List.range n).map (nm "r")
  few : G.length ≤ most
  gates : ∀ k g, G[k]? = some g → GateWf (d.ins ++ d.regs.map (·.name) ++ (List.range k).map (nm "g")) k g
  perm : d.gates.Perm G
  rwf : ∀ r ∈ d.regs, RegWf r ∧ r.net ∈ d.ins ++ d.regs.map (·.name) ++ (List.range G.length).map (nm "g")
  outs : ∃ n, n ≤ 3 ∧ d.outs.map (·.1) = (List.range n).map (nm "p")
  onet : ∀ o ∈ d.outs, o.2 ∈ d.ins ++ d.regs.map (·.name) ++ (List.range G.length).map (nm "g")
theorem nm_small : ∀ c ∈ (["i", "r", "g", "p"] : List Str), ∀ k, k < 20 → c.length + (Str.ofString (toString ((k : Nat) : Int))).length ≤ 1000 ∧ ((k : Nat) : Int).natAbs.log2 < 1920 := by decide +kernel
/-- 'x' + str(k), read -/
theorem nm_read {c : Str} {k : Nat} (hc : c ∈ (["i", "r", "g", "p"] : List Str)) (hk : k < 20) : ((k : Nat) : Int).natAbs.log2 < 1920 ∧ c.length + (Str.ofString (toString ((k : Nat) : Int))).length ≤ sizeLine :=
  ⟨(nm_small c hc k hk).2, sz_of (Nat.le_trans (nm_small c hc k hk).1 (by decide))⟩
theorem keep1 {p M x : Addr} {H : Hp} {o o' : HO} (e : hid p H x = some o) (hx : x ≠ M) (hM : M ≠ p) : hid p (upd H M o') x = some o := by
  rw [hid_upd_ne hM, upd_ne hx]; exact e
theorem hid_new {p M : Addr} {H : Hp} {o : HO} (hM : M ≠ p) : hid p (upd H M o) M = some o := by
  rw [hid_ne hM]; exact upd_same
theorem erase_perm {α : Type} : ∀ (l : List α) (v : Nat) (h : v < l.length), (l[v] :: l.eraseIdx v).Perm l
  | [], v, h => absurd h (Nat.not_lt_zero _)
  | a :: r, 0, _ => .refl _
  | a :: r, v + 1, h => by
    have h' : v < r.length := Nat.lt_of_succ_lt_succ h
    have ih := erase_perm r v h'
    show (r[v] :: a :: r.eraseIdx v).Perm (a :: r)
    exact (List.Perm.swap ..).trans (ih.cons a)
theorem nmi_str : ("i" : Str) ∈ (["i", "r", "g", "p"] : List Str) := by decide
theorem nmr_str : ("r" : Str) ∈ (["i", "r", "g", "p"] : List Str) := by decide
theorem nmg_str : ("g" : Str) ∈ (["i", "r", "g", "p"] : List Str) := by decide
theorem nmp_str : ("p" : Str) ∈ (["i", "r", "g", "p"] : List Str) := by decide
theorem strV_at {us : List Str} {i : Nat} (h : i < us.length) : (us.map V.str)[i]? = some (.str us[i]) := by rw [List.getElem?_map, List.getElem?_eq_getElem h]; rfl
theorem nms_snoc (c : Str) (k : Nat) : (List.range (k + 1)).map (nm c) = (List.range k).map (nm c) ++ [nm c k] := by rw [List.range_succ, List.map_append]; rfl
theorem All2.te {R : Hp → Addr → β → Prop} {as : List Addr} {bs : List β} {H H' : Hp} (f : ∀ a b, R H a b → R H' a b) (h : All2 (R H) as bs) : All2 (R H') as bs := h.imp f
/-- what a permutation of references refers to -/
theorem perm_refs {R : Addr → GateD → Prop} {as : List Addr} {G : List GateD} (h : All2 R as G) {vs : List V} (p : vs.Perm (as.map V.ref)) : ∃ (bs : List Addr) (F : List GateD), vs = bs.map V.ref ∧ All2 R bs F ∧ F.Perm G := by
  have z : ∀ {xs ys : List V}, xs.Perm ys → ∀ (as : List Addr) (G : List GateD), ys = as.map V.ref → All2 R as G → ∃ (bs : List Addr) (F : List GateD), xs = bs.map V.ref ∧ All2 R bs F ∧ F.Perm G := by
    intro xs ys pp
    induction pp with
    | nil =>
      intro as G e h
      have : as = [] := by
        cases as with
        | nil => rfl
        | cons _ _ => cases e
      subst this
      have : G = [] := List.length_eq_zero_iff.mp h.1.symm
      subst this
      exact ⟨[], [], rfl, .nil, .refl _⟩
    | @cons x l1 l2 _ ih =>
      intro as G e h
      cases as with
      | nil => cases e
      | cons a as =>
        cases G with
        | nil => exact nomatch h.1
        | cons g G =>
          obtain ⟨e1, e2⟩ := List.cons.inj e
          have h2 : All2 R as G := ⟨Nat.succ.inj h.1, fun i x y q1 q2 => h.2 (i + 1) x y q1 q2⟩
          obtain ⟨bs, F, f1, f2, f3⟩ := ih as G e2 h2
          exact ⟨a :: bs, g :: F, by rw [e1, f1]; rfl, .cons (h.2 0 a g rfl rfl) f2, f3.cons g⟩
    | @swap x y l =>
      intro as G e h
      match as, G, h with
      | [], _, _ => cases e
      | [_], _, _ => cases e
      | _ :: _ :: _, [], h => exact nomatch h.1
      | _ :: _ :: _, [_], h => exact nomatch Nat.succ.inj h.1
      | a :: b :: as, g :: k :: G, h =>
        obtain ⟨e1, e2⟩ := List.cons.inj e
        obtain ⟨e3, e4⟩ := List.cons.inj e2
        have h2 : All2 R as G := ⟨Nat.succ.inj (Nat.succ.inj h.1), fun i x y q1 q2 => h.2 (i + 2) x y q1 q2⟩
        exact ⟨b :: a :: as, k :: g :: G, by rw [e1, e3, e4]; rfl, .cons (h.2 1 b k rfl rfl) (.cons (h.2 0 a g rfl rfl) h2), .swap ..⟩
    | trans _ _ ih1 ih2 =>
      intro as G e h
      obtain ⟨bs, F, f1, f2, f3⟩ := ih2 as G e h
      obtain ⟨cs, F2, g1, g2, g3⟩ := ih1 bs F f1 f2
      exact ⟨cs, F2, g1, g2, g3.trans f3⟩
  exact z p as G rfl h
end G
namespace G
open PySem PySem.Spec PyProof.Rows L2
/-! ## an order in which each comes behind what it needs: the mathematics -/
theorem nodup_len : ∀ (n : Nat) (l : List Nat), l.Nodup → (∀ k ∈ l, k < n) → l.length ≤ n
  | 0, l, _, h => by
    cases l with
    | nil => exact Nat.le_refl _
    | cons x l => exact absurd (h x (List.mem_cons_self ..)) (Nat.not_lt_zero _)
  | n + 1, l, nd, h => by
    have h1 := nodup_len n (l.filter (· ≠ n)) (nd.filter _) fun k hk => by
      obtain ⟨a, b⟩ := List.mem_filter.mp hk
      have := h k a
      have : k ≠ n := of_decide_eq_true b
      omega
    by_cases hn : n ∈ l
    · have h2 : (l.filter (· ≠ n)).length + 1 = l.length := by
        have e : l.filter (· ≠ n) = l.erase n := by
          rw [nd.erase_eq_filter n]
          refine List.filter_congr fun x _ => ?_
          by_cases h : x = n
          · rw [decide_eq_false fun z => z h, h]; simp
          · rw [decide_eq_true h]; simp [h]
        rw [e, List.length_erase_of_mem hn]
        have := List.length_pos_of_mem hn
        omega
      omega
    · have e : l.filter (· ≠ n) = l := List.filter_eq_self.mpr fun k hk => decide_eq_true fun z => hn (z ▸ hk)
      rw [e] at h1
      omega
def leftN (N : List (List Nat)) (ord : List Nat) (k : Nat) : Nat := ((N.getD k []).filter fun o => decide (o ∉ ord)).length
theorem left_snoc {N : List (List Nat)} {ord : List Nat} {k f : Nat} (h : k ∉ ord) : leftN N ord f = leftN N (ord ++ [k]) f + (N.getD f []).count k := by
  unfold leftN
  generalize N.getD f [] = l
  induction l with
  | nil => rfl
  | cons x l ih =>
    rw [List.filter_cons, List.filter_cons, List.count_cons]
    by_cases e : x = k
    · subst e
      have h1 : decide (x ∉ ord) = true := decide_eq_true h
      have h2 : decide (x ∉ ord ++ [x]) = false := decide_eq_false fun z => z (List.mem_append_right _ (List.mem_singleton.mpr rfl))
      rw [h1, h2, if_pos rfl, if_neg Bool.false_ne_true, if_pos (beq_self_eq_true x), List.length_cons, ih]
      omega
    · have h3 : (x == k) = false := by
        cases hh : x == k with
        | false => rfl
        | true => exact absurd (eq_of_beq hh) e
      rw [h3, if_neg Bool.false_ne_true, Nat.add_zero]
      have h4 : (x ∉ ord ++ [k]) ↔ x ∉ ord := by
        rw [List.mem_append, List.mem_singleton]
        exact ⟨fun z y => z (.inl y), fun z y => y.elim z e⟩
      by_cases h5 : x ∉ ord
      · rw [decide_eq_true h5, decide_eq_true (h4.mpr h5), if_pos rfl, if_pos rfl, List.length_cons, List.length_cons, ih]
        omega
      · rw [decide_eq_false h5, decide_eq_false fun z => h5 (h4.mp z), if_neg Bool.false_ne_true, if_neg Bool.false_ne_true]
        exact ih
theorem left_zero {N : List (List Nat)} {ord : List Nat} {k : Nat} : leftN N ord k = 0 ↔ ∀ o ∈ N.getD k [], o ∈ ord := by
  unfold leftN
  rw [List.length_eq_zero_iff, List.filter_eq_nil_iff]
  constructor
  · intro h o ho
    have := h o ho
    exact Decidable.byContradiction fun z => this (decide_eq_true z)
  · intro h o ho z
    exact (of_decide_eq_true z) (h o ho)
/-- what stands before a pop: the order, what is ready, what is missing -/
structure KInv (N : List (List Nat)) (ord : List Nat) (rd : List Int) (ms : List Int) : Prop where
  len : ms.length = N.length
  nd : ord.Nodup
  ndr : rd.Nodup
  apart : ∀ k : Nat, k ∈ ord → (k : Int) ∉ rd
  lt : ∀ k ∈ ord, k < N.length
  ltr : ∀ z ∈ rd, ∃ k : Nat, z = k ∧ k < N.length ∧ leftN N ord k = 0
  cnt : ∀ k, k < N.length → ms.getD k 0 = (leftN N ord k : Int)
  rdy : ∀ k, k < N.length → leftN N ord k = 0 → k ∈ ord ∨ (k : Int) ∈ rd
  closed : ∀ (i k : Nat), ord[i]? = some k → ∀ o ∈ N.getD k [], o ∈ ord.take i
/-- .. while the followers of the one that was taken are told -/
structure KMid (N : List (List Nat)) (ord : List Nat) (k : Nat) (fol : List Nat) (j : Nat) (rd : List Int) (ms : List Int) : Prop where
  len : ms.length = N.length
  ndr : rd.Nodup
  apart : ∀ k' : Nat, k' ∈ ord ++ [k] → (k' : Int) ∉ rd
  ltr : ∀ z ∈ rd, ∃ f : Nat, z = f ∧ f < N.length ∧ leftN N ord f = (fol.take j).count f
  cnt : ∀ f, f < N.length → ms.getD f 0 = (leftN N ord f : Int) - ((fol.take j).count f : Nat)
  rdy : ∀ f, f < N.length → leftN N ord f = (fol.take j).count f → f ∈ ord ++ [k] ∨ (f : Int) ∈ rd
def FolOk (N : List (List Nat)) (k : Nat) (fol : List Nat) : Prop := (∀ f ∈ fol, f < N.length) ∧ ∀ f, f < N.length → fol.count f = (N.getD f []).count k
theorem KInv.pop {N : List (List Nat)} {ord : List Nat} {rd rd' ms : List Int} {k : Nat} {fol : List Nat} (I : KInv N ord rd ms) (hp : ((k : Int) :: rd').Perm rd) : KMid N ord k fol 0 rd' ms ∧ k < N.length ∧ k ∉ ord ∧ leftN N ord k = 0 := by
  have nd := hp.nodup_iff.mpr I.ndr
  obtain ⟨n1, n2⟩ := List.nodup_cons.mp nd
  have hk : (k : Int) ∈ rd := hp.mem_iff.mp (List.mem_cons_self ..)
  obtain ⟨k', e, hk1, hk2⟩ := I.ltr _ hk
  obtain rfl : k' = k := by omega
  refine ⟨⟨I.len, n2, fun k2 h2 h3 => ?_, fun z hz => ?_, fun f hf => ?_, fun f hf h0 => ?_⟩, hk1, fun z => I.apart _ z hk, hk2⟩
  · rcases List.mem_append.mp h2 with z | z
    · exact I.apart k2 z (hp.mem_iff.mp (List.mem_cons_of_mem _ h3))
    · rw [List.mem_singleton.mp z] at h3
      exact n1 h3
  · obtain ⟨f, e, h1, h2⟩ := I.ltr z (hp.mem_iff.mp (List.mem_cons_of_mem _ hz))
    exact ⟨f, e, h1, by rw [h2]; rfl⟩
  · rw [I.cnt f hf]
    show _ = _ - ((([] : List Nat).count f : Nat) : Int)
    rw [List.count_nil]
    omega
  · rcases I.rdy f hf (by rw [h0]; rfl) with z | z
    · exact .inl (List.mem_append_left _ z)
    · rcases List.mem_cons.mp (hp.mem_iff.mpr z) with y | y
      · exact .inl (List.mem_append_right _ (List.mem_singleton.mpr (by omega)))
      · exact .inr y
theorem closed_left {N : List (List Nat)} {ord : List Nat} (h : ∀ (i k : Nat), ord[i]? = some k → ∀ o ∈ N.getD k [], o ∈ ord.take i) {f : Nat} (hf : f ∈ ord) : leftN N ord f = 0 := by
  obtain ⟨i, hi, e⟩ := List.getElem_of_mem hf
  exact left_zero.mpr fun o ho => List.mem_of_mem_take (h i f (List.getElem?_eq_some_iff.mpr ⟨hi, e⟩) o ho)
theorem getD_setI {l : List Int} {p k : Nat} {v : Int} (hp : p < l.length) : (l.set p v).getD k 0 = if k = p then v else l.getD k 0 := by
  rw [List.getD_eq_getElem?_getD, List.getD_eq_getElem?_getD, List.getElem?_set]
  by_cases e : p = k
  · subst e
    rw [if_pos rfl, if_pos hp, if_pos rfl]; rfl
  · rw [if_neg e, if_neg (Ne.symm e)]
theorem KMid.step {N : List (List Nat)} {ord : List Nat} {k : Nat} {fol : List Nat} {j f : Nat} {rd ms : List Int} (cl : ∀ (i k : Nat), ord[i]? = some k → ∀ o ∈ N.getD k [], o ∈ ord.take i) (hk : k ∉ ord) (hk0 : leftN N ord k = 0) (F : FolOk N k fol) (M : KMid N ord k fol j rd ms) (hf : fol[j]? = some f) :
    f < N.length ∧ (ms.getD f 0 - 1 ≠ 0 → KMid N ord k fol (j + 1) rd (ms.set f (ms.getD f 0 - 1))) ∧ (ms.getD f 0 - 1 = 0 → ∀ rd', rd'.Perm ((f : Int) :: rd) → KMid N ord k fol (j + 1) rd' (ms.set f (ms.getD f 0 - 1))) := by
  have hmem := List.mem_of_getElem? hf
  have hfl := F.1 f hmem
  have etk : ∀ g, (fol.take (j + 1)).count g = (fol.take j).count g + if g = f then 1 else 0 := fun g => by
    rw [take_snoc1 hf, List.count_append]
    by_cases e : g = f
    · subst e; rw [if_pos rfl, List.count_singleton_self]
    · rw [if_neg e, List.count_eq_zero.mpr fun z => e (List.mem_singleton.mp z)]
  have ebound : (fol.take j).count f + 1 ≤ leftN N ord f := by
    have h1 := etk f
    rw [if_pos rfl] at h1
    have h2 : (fol.take (j + 1)).count f ≤ fol.count f := (List.take_sublist _ _).count_le f
    have h3 := F.2 f hfl
    have h4 := left_snoc (N := N) (f := f) hk
    omega
  have hms := M.cnt f hfl
  have hml : f < ms.length := by rw [M.len]; exact hfl
  have hfo : f ∉ ord ++ [k] := fun z => by
    rcases List.mem_append.mp z with y | y
    · have := closed_left cl y; omega
    · rw [List.mem_singleton.mp y] at ebound; omega
  have hfr : (f : Int) ∉ rd := fun z => by
    obtain ⟨g, e, _, h2⟩ := M.ltr _ z
    obtain rfl : g = f := by omega
    omega
  refine ⟨hfl, fun hne => ⟨by rw [List.length_set]; exact M.len, M.ndr, M.apart, fun z hz => ?_, fun g hg => ?_, fun g hg h0 => ?_⟩, fun heq rd' hp => ⟨by rw [List.length_set]; exact M.len, hp.nodup_iff.mpr (List.nodup_cons.mpr ⟨hfr, M.ndr⟩), fun k' h1 h2 => ?_, fun z hz => ?_, fun g hg => ?_, fun g hg h0 => ?_⟩⟩
  · obtain ⟨g, e, h1, h2⟩ := M.ltr z hz
    refine ⟨g, e, h1, ?_⟩
    rw [etk, if_neg fun y => hfr (by rw [← y, ← e]; exact hz)]
    exact h2
  · rw [getD_setI hml, etk]
    by_cases e : g = f
    · subst e; rw [if_pos rfl, if_pos rfl, hms]; omega
    · rw [if_neg e, if_neg e, M.cnt g hg]; omega
  · rw [etk] at h0
    by_cases e : g = f
    · subst e
      rw [if_pos rfl] at h0
      omega
    · rw [if_neg e] at h0
      exact M.rdy g hg h0
  · rcases List.mem_cons.mp (hp.mem_iff.mp h2) with y | y
    · have : k' = f := by omega
      exact hfo (this ▸ h1)
    · exact M.apart k' h1 y
  · rcases List.mem_cons.mp (hp.mem_iff.mp hz) with y | y
    · refine ⟨f, y, hfl, ?_⟩
      rw [etk, if_pos rfl]
      omega
    · obtain ⟨g, e, h1, h2⟩ := M.ltr z y
      refine ⟨g, e, h1, ?_⟩
      rw [etk, if_neg fun y' => hfr (by rw [← y', ← e]; exact y)]
      exact h2
  · rw [getD_setI hml, etk]
    by_cases e : g = f
    · subst e; rw [if_pos rfl, if_pos rfl, hms]; omega
    · rw [if_neg e, if_neg e, M.cnt g hg]; omega
  · rw [etk] at h0
    by_cases e : g = f
    · exact .inr (hp.mem_iff.mpr (by rw [e]; exact List.mem_cons_self ..))
    · rw [if_neg e] at h0
      exact (M.rdy g hg h0).imp id fun y => hp.mem_iff.mpr (List.mem_cons_of_mem _ y)
theorem KMid.done {N : List (List Nat)} {ord : List Nat} {k : Nat} {fol : List Nat} {rd rd0 ms0 ms : List Int} (I : KInv N ord rd0 ms0) (hk : k ∉ ord) (hkl : k < N.length) (hk0 : leftN N ord k = 0) (F : FolOk N k fol) (M : KMid N ord k fol fol.length rd ms) : KInv N (ord ++ [k]) rd ms := by
  have e : ∀ f, f < N.length → (leftN N ord f : Nat) = leftN N (ord ++ [k]) f + (fol.take fol.length).count f := fun f hf => by
    rw [List.take_length, F.2 f hf]
    exact left_snoc hk
  refine ⟨M.len, List.nodup_append.mpr ⟨I.nd, (by simp : [k].Nodup), fun a ha b hb => fun z => hk (by rw [← List.mem_singleton.mp hb, ← z]; exact ha)⟩, M.ndr, M.apart, fun f hf => ?_, fun z hz => ?_, fun f hf => ?_, fun f hf h0 => ?_, fun i f hi o ho => ?_⟩
  · rcases List.mem_append.mp hf with z | z
    · exact I.lt f z
    · rw [List.mem_singleton.mp z]; exact hkl
  · obtain ⟨f, e1, h1, h2⟩ := M.ltr z hz
    have := e f h1
    exact ⟨f, e1, h1, by omega⟩
  · have := e f hf
    rw [M.cnt f hf]; omega
  · have := e f hf
    exact M.rdy f hf (by omega)
  · by_cases hi' : i < ord.length
    · rw [List.getElem?_append_left hi'] at hi
      have := I.closed i f hi o ho
      rw [List.take_append_of_le_length (Nat.le_of_lt hi')]
      exact this
    · have hil := (List.getElem?_eq_some_iff.mp hi).1
      rw [List.length_append] at hil
      have : i < ord.length + 1 := hil
      have ei : i = ord.length := by omega
      subst ei
      rw [List.getElem?_append_right (Nat.le_refl _), Nat.sub_self] at hi
      cases hi
      rw [List.take_append_of_le_length (Nat.le_refl _), List.take_length]
      exact left_zero.mp hk0 o ho
/-- an order of all, each behind what it needs -/
structure Topo (N : List (List Nat)) (ord : List Nat) : Prop where
  nd : ord.Nodup
  lt : ∀ k ∈ ord, k < N.length
  all : ∀ k, k < N.length → k ∈ ord
  closed : ∀ (i k : Nat), ord[i]? = some k → ∀ o ∈ N.getD k [], o ∈ ord.take i
theorem KInv.topo {N : List (List Nat)} {ord : List Nat} {ms : List Int} (I : KInv N ord [] ms) (rank : Nat → Nat) (hr : ∀ k o, k < N.length → o ∈ N.getD k [] → o < N.length ∧ rank o < rank k) : Topo N ord := by
  refine ⟨I.nd, I.lt, ?_, I.closed⟩
  have : ∀ r k, rank k = r → k < N.length → k ∈ ord := by
    intro r
    induction r using Nat.strongRecOn with
    | _ r ih =>
      intro k hk hkl
      have h0 : leftN N ord k = 0 := left_zero.mpr fun o ho => by
        obtain ⟨h1, h2⟩ := hr k o hkl ho
        exact ih (rank o) (by omega) o rfl h1
      rcases I.rdy k hkl h0 with z | z
      · exact z
      · cases z
  exact fun k hk => this _ k rfl hk
end G
namespace G
open PySem PySem.Spec PyProof.Rows L2 Evl TL
/-! ## xs[i] += v -/
theorem get_list {X : Cx} : PGet X (rIxL X.K) := by
  intro pins s σ H o i v u Q I ro ri h
  obtain ⟨p, xs, i, z, rfl, rfl, hq, he, q⟩ := h
  cases ro
  obtain ⟨t, rfl⟩ := ri
  obtain ⟨its, r, pl, hz⟩ := I.list hq
  obtain ⟨j, h1, h2, h3, h4, h5⟩ := atI_get he
  obtain ⟨w, ew, rw'⟩ := r.get h2
  have hl := r.length
  have hn := line63
  have fin : EP X pins σ Q w s := ⟨z, H, I, rw', q⟩
  by_cases h0 : 0 ≤ i
  · have hj : i.toNat = j := by
      rw [seqIndex_of h0 h5] at h1
      exact Option.some.inj h1
    exact wpAny_getItem_list pl.isList h0 (by omega) (by rw [hj]; simpa using ew) fin
  · have hj : (i + (its.toArray.size : Int)).toNat = j := by
      rw [seqIndex_neg (by omega) h4] at h1
      rw [List.size_toArray, ← hl]
      exact Option.some.inj h1
    exact wpAny_getItem_list_neg pl.isList (by omega) (by rw [List.size_toArray] <;> omega) (by omega) (by rw [hj]; simpa using ew) fin
def natsV (l : List Nat) : List V := l.map fun n : Nat => V.int (n : Int)
theorem nats_get {l : List Nat} {j : Nat} {y : V} (h : (natsV l)[j]? = some y) : ∃ k, l[j]? = some k ∧ y = .int (k : Int) := by
  unfold natsV at h
  rw [List.getElem?_map] at h
  cases e : l[j]? with
  | none => rw [e] at h; cases h
  | some k => rw [e] at h; cases h; exact ⟨k, rfl, rfl⟩
theorem nats_len (l : List Nat) : (natsV l).length = l.length := List.length_map _
theorem nats_snoc (l : List Nat) (k : Nat) : natsV (l ++ [k]) = natsV l ++ [.int (k : Int)] := by unfold natsV; rw [List.map_append]; rfl
theorem at_int {l : List Int} {k : Int} {j : Nat} (h : k = (j : Int)) (hj : j < l.length) : atI (l.map V.int) k = some (.int (l.getD j 0)) := by
  subst h
  refine atI_nat ?_
  rw [List.getElem?_map, List.getD_eq_getElem?_getD, List.getElem?_eq_getElem hj]; rfl
/-- lists of lists, each its own object, new since H0 -/
structure Fols (H0 H : Hp) (L : Addr) (fa : List Addr) (F : List (List Nat)) : Prop where
  top : H L = some (.lst (fa.map V.ref))
  newL : H0 L = none
  nd : fa.Nodup
  new : ∀ b ∈ fa, H0 b = none
  ne : L ∉ fa
  at_ : All2 (fun b l => H b = some (.lst (natsV l))) fa F
theorem Fols.keep {H0 H H' : Hp} {L : Addr} {fa : List Addr} {F : List (List Nat)} (h : Fols H0 H L fa F) (k : ∀ b o, (b = L ∨ b ∈ fa) → H b = some o → H' b = some o) : Fols H0 H' L fa F :=
  ⟨k _ _ (.inl rfl) h.top, h.newL, h.nd, h.new, h.ne, h.at_.1, fun i b l hb hl => k _ _ (.inr (List.mem_of_getElem? hb)) (h.at_.2 i b l hb hl)⟩
theorem Fols.ex {H0 H H' : Hp} {L : Addr} {fa : List Addr} {F : List (List Nat)} (h : Fols H0 H L fa F) (e : Ex H H') : Fols H0 H' L fa F := h.keep fun b o _ z => e b o z
theorem Fols.put {H0 H : Hp} {L b : Addr} {fa : List Addr} {F : List (List Nat)} {i : Nat} {l : List Nat} (h : Fols H0 H L fa F) (hb : fa[i]? = some b) : Fols H0 (upd H b (.lst (natsV l))) L fa (F.set i l) := by
  have hm := List.mem_of_getElem? hb
  refine ⟨by rw [upd_ne fun z => h.ne (by rw [z]; exact hm)]; exact h.top, h.newL, h.nd, h.new, h.ne, by rw [List.length_set]; exact h.at_.1, fun j c m hc hm' => ?_⟩
  by_cases e : j = i
  · subst e
    rw [hb] at hc
    cases hc
    have hj : j < F.length := by rw [← h.at_.1]; exact (List.getElem?_eq_some_iff.mp hb).1
    rw [List.getElem?_set_self hj] at hm'
    cases hm'
    exact upd_same
  · rw [List.getElem?_set_ne (Ne.symm e)] at hm'
    have hbc : c ≠ b := fun z => by
      subst z
      have h1 := List.getElem?_eq_some_iff.mp hb
      have h2 := List.getElem?_eq_some_iff.mp hc
      obtain ⟨a1, a2⟩ := h1
      obtain ⟨b1, b2⟩ := h2
      exact e ((List.getElem_inj h.nd).mp (b2.trans a2.symm))
    rw [upd_ne hbc]
    exact h.at_.2 j c m hc hm'
/-- how often f stands among the followers of o, i rows and j of the next told -/
structure CntOk (N F : List (List Nat)) (i j : Nat) : Prop where
  len : F.length = N.length
  cnt : ∀ o, o < N.length → ∀ f, (F.getD o []).count f = if f < i then (N.getD f []).count o else if f = i then ((N.getD i []).take j).count o else 0
  lt : ∀ o, ∀ f ∈ F.getD o [], f < N.length
  few : ∀ o, (F.getD o []).length ≤ 100 * i + j
theorem getD_setL {l : List (List Nat)} {p k : Nat} {v : List Nat} (hp : p < l.length) : (l.set p v).getD k [] = if k = p then v else l.getD k [] := by
  rw [List.getD_eq_getElem?_getD, List.getD_eq_getElem?_getD, List.getElem?_set]
  by_cases e : p = k
  · subst e
    rw [if_pos rfl, if_pos hp, if_pos rfl]; rfl
  · rw [if_neg e, if_neg (Ne.symm e)]
theorem CntOk.step {N F : List (List Nat)} {i j o : Nat} (C : CntOk N F i j) (hi : i < N.length) (ho : (N.getD i [])[j]? = some o) (hol : o < N.length) : CntOk N (F.set o (F.getD o [] ++ [i])) i (j + 1) := by
  have hp : o < F.length := by rw [C.len]; exact hol
  refine ⟨by rw [List.length_set]; exact C.len, fun o' ho' f => ?_, fun o' f hf => ?_, fun o' => ?_⟩
  · rw [getD_setL hp, take_snoc1 ho, List.count_append]
    by_cases e : o' = o
    · subst e
      rw [if_pos rfl, List.count_append, C.cnt o' ho', List.count_singleton_self]
      by_cases h1 : f < i
      · rw [if_pos h1, if_pos h1, List.count_eq_zero (l := [i]) |>.mpr fun z => by have := List.mem_singleton.mp z; omega]; rfl
      · rw [if_neg h1, if_neg h1]
        by_cases h2 : f = i
        · subst h2
          rw [if_pos rfl, if_pos rfl, List.count_singleton_self]
        · rw [if_neg h2, if_neg h2, List.count_eq_zero (l := [i]) |>.mpr fun z => h2 (List.mem_singleton.mp z)]
    · rw [if_neg e, C.cnt o' ho', List.count_eq_zero (l := [o]) |>.mpr fun z => e (List.mem_singleton.mp z)]
      rfl
  · rw [getD_setL hp] at hf
    by_cases e : o' = o
    · rw [if_pos e] at hf
      rcases List.mem_append.mp hf with z | z
      · exact C.lt o f z
      · rw [List.mem_singleton.mp z]; exact hi
    · rw [if_neg e] at hf
      exact C.lt o' f hf
  · rw [getD_setL hp]
    by_cases e : o' = o
    · rw [if_pos e, List.length_append]
      have := C.few o
      show _ + 1 ≤ _
      omega
    · rw [if_neg e]
      have := C.few o'
      omega
theorem CntOk.row {N F : List (List Nat)} {i : Nat} (C : CntOk N F i (N.getD i []).length) (hl : (N.getD i []).length ≤ 100) : CntOk N F (i + 1) 0 := by
  refine ⟨C.len, fun o ho f => ?_, C.lt, fun o => by have := C.few o; omega⟩
  rw [C.cnt o ho, List.take_length, List.take_zero]
  by_cases h1 : f < i
  · rw [if_pos h1, if_pos (by omega)]
  · by_cases h2 : f = i
    · subst h2
      rw [if_neg h1, if_pos rfl, if_pos (by omega)]
    · rw [if_neg h1, if_neg h2, if_neg (by omega)]
      by_cases h3 : f = i + 1
      · rw [if_pos h3]; rfl
      · rw [if_neg h3]
theorem CntOk.fol {N F : List (List Nat)} (C : CntOk N F N.length 0) {k : Nat} (hk : k < N.length) : FolOk N k (F.getD k []) :=
  ⟨C.lt k, fun f hf => by rw [C.cnt k hk, if_pos hf]⟩
theorem nodup_lenI {n : Nat} {l : List Int} (nd : l.Nodup) (h : ∀ z ∈ l, ∃ k : Nat, z = k ∧ k < n) : l.length ≤ n := by
  have e : l = (l.map Int.toNat).map fun k : Nat => (k : Int) := by
    rw [List.map_map]
    conv => lhs; rw [← List.map_id l]
    refine List.map_congr_left fun z hz => ?_
    obtain ⟨k, rfl, _⟩ := h z hz
    rfl
  have nd' : (l.map Int.toNat).Nodup := by
    rw [e] at nd
    exact (List.pairwise_map.mp nd).imp fun hne z => hne (by rw [z])
  have := nodup_len n _ nd' fun k hk => by
    obtain ⟨z, hz, rfl⟩ := List.mem_map.mp hk
    obtain ⟨k', e', hk'⟩ := h z hz
    show z.toNat < n
    omega
  rw [List.length_map] at this
  exact this
structure TxtK (mg : Str → Option Value) : Prop where
  len : mg "len" = none
  enumerate : mg "enumerate" = none
  pop : mg "heappop" = some (.builtin "_heapq.heappop")
  push : mg "heappush" = some (.builtin "_heapq.heappush")
section
variable {P : Program} {w : World} {K : PySem.W.Frag} {mg : Str → Option Value} {base : Heap}
def spLeast : Sp := fun vs H Q _ => ∃ (nl : Addr) (na : List Addr) (N : List (List Nat)) (rank : Nat → Nat), vs = [.ref nl] ∧ H nl = some (.lst (na.map V.ref)) ∧ All2 (fun b l => H b = some (.lst (natsV l))) na N ∧ N.length ≤ 100 ∧ (∀ k, (N.getD k []).length ≤ 100) ∧
  (∀ k o, k < N.length → o ∈ N.getD k [] → o < N.length ∧ rank o < rank k) ∧ ∀ (q : Addr) (H' : Hp) (ord : List Nat), Ex H H' → H q = none → H' q = some (.lst (natsV ord)) → Topo N ord → Q (.ref q) H'
theorem sc_least_order : FnScope ["needed", "followers", "k", "others", "other", "missing", "ready", "order", "follower", "_", "many"] ["needed"] (defScope s_least_order) := ⟨rfl, rfl, rfl, by decide +kernel, rfl, by decide +kernel, by decide +kernel⟩
theorem ok_least_order (D : Dfd K mg "least_order" s_least_order ["needed"]) (T : TxtK mg) : Has P w K mg base 1 "least_order" ["needed"] spLeast := by
  have y_heappop := T.pop
  have y_heappush := T.push
  refine D.has fun f fd F => F.ok sc_least_order (fun vs H Q E h => ?_) (fun cdv A outer s H vs Q E hr h => ?_)
  · obtain ⟨nl, na, N, rank, rfl, _⟩ := h
    rfl
  · obtain ⟨nl, na, N, rank, rfl, hnl, hN, hn, hw, hrk, q⟩ := h
    refine ⟨_, (pss_cons (ps_setLc (i := 1) (own := [("_", 9)]) (g := gName 9) (tt := tYes) rfl sc_least_order.nd rfl rfl (sw_true rfl rfl rfl (by decide +kernel)) (pi_list (pv 0)) (blkOk_by (N := ["needed", "followers", "k", "others", "other", "missing", "ready", "order", "follower", "_", "many"]) (sc := defScope s_least_order) (own := [("_", 9)]) (by decide +kernel)) (fun _ _ _ _ _ => (pg_name (i := 9) sc_least_order.nd rfl (.inl rfl))) (fun _ _ _ _ _ => pts_nil) (fun _ _ _ _ _ => (pe_lst pa_nil)))
    (pss_cons (ps_for PassesOwn.never rfl (pi_enum (by rfl) T.enumerate (pa_cons (pv 0) pa_nil)) (pg_tup rfl (pgs_cons (pg_name (i := 2) sc_least_order.nd rfl (.inl rfl)) (pgs_cons (pg_name (i := 3) sc_least_order.nd rfl (.inl rfl)) pgs_nil)))
      (pss_one (ps_for PassesOwn.never rfl (pi_list (pv 3)) (pg_name (i := 4) sc_least_order.nd rfl (.inl rfl))
        (pss_one (ps_expr (pe_bm PySem.F.plainAttrs_list PySem.F.slot_list_append PySem.F.type_list_append mt_append (pe_ix ix_list (pv 1) (pv 4) (fun _ _ => rfl)) (pa_cons (pv 2) pa_nil)))))))
    (pss_cons (ps_setLc (i := 5) (own := [("others", 3)]) (g := gName 3) (tt := tYes) rfl sc_least_order.nd rfl rfl (sw_true rfl rfl rfl (by decide +kernel)) (pi_list (pv 0)) (blkOk_by (N := ["needed", "followers", "k", "others", "other", "missing", "ready", "order", "follower", "_", "many"]) (sc := defScope s_least_order) (own := [("others", 3)]) (by decide +kernel)) (fun _ _ _ _ _ => (pg_name (i := 3) sc_least_order.nd rfl (.inl rfl))) (fun _ _ _ _ _ => pts_nil) (fun _ _ _ _ _ => (pe_callB (kLen (K := K) rfl) (by rfl) T.len (by decide +kernel) (pa_cons (pv 3) pa_nil))))
    (pss_cons (ps_setLc (i := 6) (own := [("k", 2), ("many", 10)]) (g := gTup K 2 (gCons (gName 2) (gCons (gName 10) gNil))) (tt := _) rfl sc_least_order.nd rfl rfl (sw_true rfl rfl rfl (by decide +kernel)) (pi_enum (by rfl) T.enumerate (pa_cons (pv 5) pa_nil)) (blkOk_by (N := ["needed", "followers", "k", "others", "other", "missing", "ready", "order", "follower", "_", "many"]) (sc := defScope s_least_order) (own := [("k", 2), ("many", 10)]) (by decide +kernel)) (fun _ _ _ _ _ => (pg_tup rfl (pgs_cons (pg_name (i := 2) sc_least_order.nd rfl (.inl rfl)) (pgs_cons (pg_name (i := 10) sc_least_order.nd rfl (.inl rfl)) pgs_nil)))) (fun _ _ _ _ _ => pts_one (pt_cmpR op_eq (pv 10) pe_int (nomark _))) (fun _ _ _ _ _ => (pv 2)))
    (pss_cons (ps_set (i := 7) sc_least_order.nd rfl (.inl rfl) (pe_lst pa_nil))
    (pss_cons (ps_while PassesOwn.never (pt_truth (pv 6) (by intro _; rfl))
      (pss_cons (ps_set (i := 2) sc_least_order.nd rfl (.inl rfl) (pe_callMB (HQ.cr_pop rfl) (by rfl) y_heappop (pa_cons (pv 6) pa_nil)))
      (pss_cons (ps_expr (pe_bm PySem.F.plainAttrs_list PySem.F.slot_list_append PySem.F.type_list_append mt_append (pv 7) (pa_cons (pv 2) pa_nil)))
      (pss_one (ps_for PassesOwn.never rfl (pi_list (pe_ix ix_list (pv 1) (pv 2) (fun _ _ => rfl))) (pg_name (i := 8) sc_least_order.nd rfl (.inl rfl))
        (pss_cons (ps_augS (pv 5) (pv 8) get_list pe_int ip_sub set_list)
        (pss_one (ps_if (pt_cmpR op_eq (pe_ix ix_list (pv 5) (pv 8) (fun _ _ => rfl)) pe_int (nomark _))
          (pss_one (ps_expr (pe_callMB (HQ.cr_push rfl) (by rfl) y_heappush (pa_cons (pv 6) (pa_cons (pv 8) pa_nil)))))
          pss_nil))))))))
    (pss_one (ps_ret (pv 7))))))))), ?_⟩
    have hnn : na.length = N.length := hN.1
    have hal : (na.map V.ref).length = N.length := by rw [List.length_map, hnn]
    -- followers
    refine ⟨_, rfl, nl, rfl, ⟨_, SqL.of hnl⟩, fun FL nFL => wk_list (K := K) (a := nl) (xs := na.map V.ref) (fun j H' => Ex H H' ∧ ∃ fa, Fols H H' FL fa (List.replicate j [])) ⟨Ex.new nFL, [], upd_same, nFL, List.nodup_nil, (fun _ z => nomatch z), (fun z => nomatch z), .nil⟩ (fun j H' _ z => SqL.of (z.1 _ _ hnl)) ?_ ?_⟩
    · rintro j y H1 hy ⟨E1, fa, hF⟩
      have hj : j < N.length := by rw [← hal]; exact (List.getElem?_eq_some_iff.mp hy).1
      refine ⟨rfl, tYes_in ?_⟩
      simp only [wipe, _root_.L2.start, List.map_cons, List.map_nil, List.length_cons, List.length_nil, Nat.reduceAdd, Nat.reduceSub, List.replicate_succ, List.replicate_zero, List.cons_append, List.nil_append, List.set_cons_zero, List.set_cons_succ]
      refine ⟨Nat.zero_le _, fun b nb => ?_⟩
      have nbL : FL ≠ b := ne_of_none hF.top nb
      have hfl : fa.length = j := by rw [hF.at_.1, List.length_replicate]
      have hF1 := hF.ex (Ex.new (o := .lst []) nb)
      have hbf : b ∉ fa := fun z => by
        obtain ⟨i, hi, e⟩ := List.getElem_of_mem z
        obtain ⟨l, _, hb⟩ := hF.at_.at_ (List.getElem?_eq_some_iff.mpr ⟨hi, e⟩)
        rw [nb] at hb; cases hb
      refine ⟨_, hF1.top, sz_lt (by rw [List.length_map]; omega), (E1.trans (Ex.new nb)).mut nFL, fa ++ [b], by rw [upd_same, List.map_append]; rfl, nFL, List.nodup_append.mpr ⟨hF.nd, by simp, fun c hc d hd => fun z => hbf (by rw [← List.mem_singleton.mp hd, ← z]; exact hc)⟩, fun c hc => ?_, fun z => ?_, ?_⟩
      · rcases List.mem_append.mp hc with z | z
        · exact hF.new c z
        · rw [List.mem_singleton.mp z]; exact fresh_back E1 nb
      · rcases List.mem_append.mp z with y | y
        · exact hF.ne y
        · exact nbL (List.mem_singleton.mp y)
      · show All2 _ (fa ++ [b]) (List.replicate (j + 1) [])
        rw [List.replicate_succ']
        have hA : All2 (fun c l => upd (upd H1 b (.lst [])) FL (.lst (fa.map V.ref ++ [.ref b])) c = some (.lst (natsV l))) fa (List.replicate j []) := ⟨hF1.at_.1, fun i c l h1 h2 => by
          show upd (upd H1 b (.lst [])) FL (.lst (fa.map V.ref ++ [.ref b])) c = some (.lst (natsV l))
          rw [upd_ne fun y => hF.ne (by rw [← y]; exact List.mem_of_getElem? h1)]
          exact hF1.at_.2 i c l h1 h2⟩
        exact hA.snoc (by rw [upd_ne (Ne.symm nbL)]; exact upd_same)
    rintro H1 ⟨E1, fa, hF⟩
    rw [hal] at hF
    have hfn : fa.length = N.length := by rw [hF.at_.1, List.length_replicate]
    have C0 : CntOk N (List.replicate N.length []) 0 0 := by
      have g : ∀ o : Nat, (List.replicate N.length ([] : List Nat)).getD o [] = [] := fun o => by
        rw [List.getD_eq_getElem?_getD, List.getElem?_replicate]
        by_cases z : o < N.length
        · rw [if_pos z]; rfl
        · rw [if_neg z]; rfl
      refine ⟨List.length_replicate, fun o _ f => ?_, fun o f hf => ?_, fun o => ?_⟩
      · rw [g, if_neg (Nat.not_lt_zero f), List.take_zero, List.count_nil, List.count_nil]
        by_cases z : f = 0
        · rw [if_pos z]
        · rw [if_neg z]
      · rw [g] at hf; cases hf
      · rw [g]; exact Nat.zero_le _
    have hno : ∀ k b, na[k]? = some b → H b = some (.lst (natsV (N.getD k []))) := fun k b hb => by
      obtain ⟨l, hl, h1⟩ := hN.at_ hb
      rw [List.getD_eq_getElem?_getD, hl]; exact h1
    -- who waits for whom
    refine ⟨_, rfl, nl, _, rfl, SqL.of (E1 _ _ hnl), for_it walk_enum
      (fun i σ H' => Ex H H' ∧ ∃ (F : List (List Nat)) (z2 z3 z4 : Option V), Fols H H' FL fa F ∧ CntOk N F i 0 ∧ σ = [some (.ref nl), some (.ref FL), z2, z3, z4, none, none, none, none, none, none])
      ⟨E1, _, _, _, _, hF, C0, rfl⟩ (fun i σ H' _ g => SqL.of (g.1 _ _ hnl)) ?_ ?_⟩
    · rintro i y σ H2 H3 hi ⟨E2, F, z2, z3, z4, hF2, C2, rfl⟩ ⟨T1, x0, y0, rfl, nT, rfl, hx0, hy0⟩
      rw [hal] at hi
      cases hx0
      obtain ⟨b, hb, rfl⟩ := refs_get hy0
      have E3 : Ex H2 (upd H2 T1 (.tup [.int (i : Nat), .ref b])) := Ex.new nT
      refine ⟨T1, _, rfl, SqT.of upd_same, rfl, _, _, rfl, _, _, rfl, rfl, ?_⟩
      have hF3 := hF2.ex E3
      generalize upd H2 T1 (.tup [.int (i : Nat), .ref b]) = H3 at *
      have E03 := E2.trans E3
      have hb0 := hno i b hb
      simp only [wipe, _root_.L2.start, List.map_cons, List.map_nil, List.length_cons, List.length_nil, Nat.reduceAdd, Nat.reduceSub, List.replicate_succ, List.replicate_zero, List.cons_append, List.nil_append, List.set_cons_zero, List.set_cons_succ]
      refine ⟨_, rfl, b, rfl, ⟨_, SqL.of (E03 _ _ hb0)⟩, for_list (K := K) (a := b) (xs := natsV (N.getD i []))
        (fun j σ H' => Ex H H' ∧ ∃ (F : List (List Nat)) (z4 : Option V), Fols H H' FL fa F ∧ CntOk N F i j ∧ σ = [some (.ref nl), some (.ref FL), some (.int (i : Nat)), some (.ref b), z4, none, none, none, none, none, none])
        ⟨E03, F, z4, hF3, C2, rfl⟩ (fun j σ H' _ g => SqL.of (g.1 _ _ hb0)) ?_ ?_⟩
      · rintro j y σ H4 hy ⟨E4, F, z4, hF4, C4, rfl⟩
        obtain ⟨o, ho, rfl⟩ := nats_get hy
        have hol := (hrk i o hi (List.mem_of_getElem? ho)).1
        have hof : o < fa.length := by omega
        have hfb : fa[o]? = some fa[o] := List.getElem?_eq_getElem hof
        obtain ⟨l, hl, hlb⟩ := hF4.at_.at_ hfb
        have hlF : F.getD o [] = l := by rw [List.getD_eq_getElem?_getD, hl]; rfl
        have hll : l.length ≤ 100 * i + j := by rw [← hlF]; exact C4.few o
        have hj : j < 100 := by
          have := (List.getElem?_eq_some_iff.mp ho).1
          have := hw i
          omega
        refine ⟨_, rfl, _, rfl, FL, _, _, .ref fa[o], rfl, rfl, SqL.of hF4.top, at_of (j := o) rfl (by rw [List.getElem?_map, hfb]; rfl), .inl ⟨rfl, _, SqL.of hlb⟩, _, rfl, fa[o], _, .int (i : Nat), rfl, rfl, hlb, sz_lt (by rw [nats_len]; omega), E4.mut (hF4.new _ (List.mem_of_getElem? hfb)), _, _, ?_, C4.step hi ho hol, rfl⟩
        rw [← nats_snoc, hlF]
        exact hF4.put hfb
      · rintro σ H4 ⟨E4, F, z4, hF4, C4, rfl⟩
        rw [nats_len] at C4
        exact ⟨E4, F, _, _, _, hF4, C4.row (hw i), rfl⟩
    rintro σ H2 ⟨E2, F, z2, z3, z4, hF2, C2, rfl⟩
    rw [hal] at C2
    -- how many are missing
    refine ⟨_, rfl, nl, rfl, ⟨_, SqL.of (E2 _ _ hnl)⟩, fun ML nML => wk_list (K := K) (a := nl) (xs := na.map V.ref) (fun j H' => Ex H2 H' ∧ H' ML = some (.lst (((N.take j).map fun l => (l.length : Int)).map V.int))) ⟨Ex.new nML, upd_same⟩ (fun j H' _ z => SqL.of ((E2.trans z.1) _ _ hnl)) ?_ ?_⟩
    · rintro j y H3 hy ⟨E3, hM⟩
      obtain ⟨b, hb, rfl⟩ := refs_get hy
      obtain ⟨l, hl, hlb⟩ := hN.at_ hb
      have hj : j < N.length := (List.getElem?_eq_some_iff.mp hl).1
      refine ⟨rfl, tYes_in ?_⟩
      simp only [wipe, _root_.L2.start, List.map_cons, List.map_nil, List.length_cons, List.length_nil, Nat.reduceAdd, Nat.reduceSub, List.replicate_succ, List.replicate_zero, List.cons_append, List.nil_append, List.set_cons_zero, List.set_cons_succ]
      refine ⟨_, rfl, b, _, rfl, .inl (SqL.of ((E2.trans E3) _ _ hlb)), _, hM, sz_lt (by rw [List.length_map, List.length_map, List.length_take]; omega), E3.mut nML, ?_⟩
      rw [upd_same, take_snoc1 hl, List.map_append, List.map_append, nats_len]; rfl
    rintro H3 ⟨E3, hM⟩
    rw [hal, List.take_length] at hM
    have F2' : ∀ b, (b = FL ∨ b ∈ fa) → ∃ o, H2 b = some o := fun b hb => by
      rcases hb with z | z
      · exact ⟨_, by rw [z]; exact hF2.top⟩
      · obtain ⟨i, hi, e⟩ := List.getElem_of_mem z
        obtain ⟨l, _, h1⟩ := hF2.at_.at_ (List.getElem?_eq_some_iff.mpr ⟨hi, e⟩)
        exact ⟨_, h1⟩
    have E03 := E2.trans E3
    have hF3 := hF2.ex E3
    -- what is ready
    have hMl : ((N.map fun l => (l.length : Int)).map V.int).length = N.length := by rw [List.length_map, List.length_map]
    refine ⟨_, rfl, ML, _, rfl, SqL.of hM, fun RL nRL => wk_it walk_enum (fun j H' => Ex H3 H' ∧ H' RL = some (.lst (natsV ((List.range j).filter fun k => decide (leftN N [] k = 0))))) ⟨Ex.new nRL, upd_same⟩ (fun j H' _ g => SqL.of (g.1 _ _ hM)) ?_ ?_⟩
    · rintro j x H4 H5 hj ⟨E4, hRL⟩ ⟨T1, x0, y0, rfl, nT, rfl, hx0, hy0⟩
      rw [hMl] at hj
      cases hx0
      have nRT : RL ≠ T1 := ne_of_none hRL nT
      have E5 : Ex H4 (upd H4 T1 (.tup [.int (j : Nat), y0])) := Ex.new nT
      obtain ⟨l, hl⟩ : ∃ l, N[j]? = some l := ⟨N[j], List.getElem?_eq_getElem hj⟩
      obtain rfl : y0 = .int (l.length : Int) := by
        have hy1 : ((N.map fun l => (l.length : Int)).map V.int)[j]? = some y0 := hy0
        rw [List.getElem?_map, List.getElem?_map, hl] at hy1
        cases hy1; rfl
      have hleft : leftN N [] j = l.length := by
        unfold leftN
        rw [List.getD_eq_getElem?_getD, hl]
        show (l.filter _).length = _
        rw [List.filter_eq_self.mpr fun x _ => decide_eq_true (by intro z; cases z)]
      refine ⟨T1, _, rfl, SqT.of upd_same, rfl, _, _, rfl, _, _, rfl, rfl, rfl, ?_⟩
      simp only [wipe, _root_.L2.start, List.map_cons, List.map_nil, List.length_cons, List.length_nil, Nat.reduceAdd, Nat.reduceSub, List.replicate_succ, List.replicate_zero, List.cons_append, List.nil_append, List.set_cons_zero, List.set_cons_succ]
      have hRL5 : upd H4 T1 (.tup [.int (j : Nat), .int (l.length : Int)]) RL = some (.lst (natsV ((List.range j).filter fun k => decide (leftN N [] k = 0)))) := E5 _ _ hRL
      generalize upd H4 T1 (.tup [.int (j : Nat), .int (l.length : Int)]) = H5 at *
      have E35 := E4.trans E5
      have hfl : ((List.range j).filter fun k => decide (leftN N [] k = 0)).length ≤ 100 := by
        have := List.length_filter_le (fun k => decide (leftN N [] k = 0)) (List.range j)
        rw [List.length_range] at this
        omega
      refine ⟨_, rfl, rfl, _, rfl, ite2 (fun c1 => ?_) (fun c1 => ?_)⟩
      · have h0 : leftN N [] j = 0 := by
          have := of_decide_eq_true c1
          have : (l.length : Int) = 0 := by injection this
          omega
        refine ⟨_, rfl, _, hRL5, sz_lt (by rw [nats_len]; omega), E35.mut nRL, ?_⟩
        rw [upd_same, List.range_succ, List.filter_append, ← nats_snoc]
        show _ = some (HO.lst (natsV (_ ++ List.filter _ [j])))
        rw [List.filter_cons, decide_eq_true h0, if_pos rfl]; rfl
      · have h0 : ¬ leftN N [] j = 0 := fun z => c1 (decide_eq_true (by rw [show l.length = 0 by omega]; rfl))
        refine ⟨E35, ?_⟩
        rw [hRL5, List.range_succ, List.filter_append]
        show _ = some (HO.lst (natsV (_ ++ List.filter _ [j])))
        rw [List.filter_cons, decide_eq_false h0, if_neg Bool.false_ne_true]
        show _ = some (HO.lst (natsV (_ ++ [])))
        rw [List.append_nil]
    rintro H4 ⟨E4, hRL⟩
    rw [hMl] at hRL
    refine ⟨Nat.zero_le _, fun OL nOL => ?_⟩
    have I0 : KInv N [] ((List.range N.length).filter (fun k => decide (leftN N [] k = 0)) |>.map fun k : Nat => (k : Int)) (N.map fun l => (l.length : Int)) := by
      have hl : ∀ k, leftN N [] k = (N.getD k []).length := fun k => by
        unfold leftN
        rw [List.filter_eq_self.mpr fun x _ => decide_eq_true (by intro z; cases z)]
      refine ⟨List.length_map _, List.nodup_nil, ?_, (fun _ z => nomatch z), (fun _ z => nomatch z), fun z hz => ?_, fun k hk => ?_, fun k hk h0 => ?_, (fun _ _ z => nomatch z)⟩
      · exact List.Pairwise.map _ (fun a b h z => h (by omega)) (List.nodup_range.filter _)
      · obtain ⟨k, hk, rfl⟩ := List.mem_map.mp hz
        obtain ⟨h1, h2⟩ := List.mem_filter.mp hk
        exact ⟨k, rfl, List.mem_range.mp h1, of_decide_eq_true h2⟩
      · rw [hl, List.getD_eq_getElem?_getD, List.getElem?_map, List.getD_eq_getElem?_getD, List.getElem?_eq_getElem hk]; rfl
      · exact .inr (List.mem_map.mpr ⟨k, List.mem_filter.mpr ⟨List.mem_range.mpr hk, decide_eq_true h0⟩, rfl⟩)
    have eRd : natsV ((List.range N.length).filter fun k => decide (leftN N [] k = 0)) = ((List.range N.length).filter (fun k => decide (leftN N [] k = 0)) |>.map fun k : Nat => (k : Int)).map V.int := by unfold natsV; rw [List.map_map]; rfl
    rw [eRd] at hRL
    generalize ((List.range N.length).filter (fun k => decide (leftN N [] k = 0)) |>.map fun k : Nat => (k : Int)) = rd0 at *
    generalize (N.map fun l => (l.length : Int)) = ms0 at *
    have E5 : Ex H4 (upd H4 OL (.lst [])) := Ex.new nOL
    have hO : upd H4 OL (.lst []) OL = some (.lst (natsV [])) := upd_same
    have nRO : RL ≠ OL := ne_of_none hRL nOL
    have nMR : ML ≠ RL := ne_of_none hM nRL
    have nMO : ML ≠ OL := ne_of_none (E4 _ _ hM) nOL
    have nfM : ∀ b, (b = FL ∨ b ∈ fa) → b ≠ ML := fun b hb => by
      obtain ⟨o, h⟩ := F2' b hb
      exact ne_of_none h nML
    have nfR : ∀ b, (b = FL ∨ b ∈ fa) → b ≠ RL := fun b hb => by
      obtain ⟨o, h⟩ := F2' b hb
      exact ne_of_none (E3 _ _ h) nRL
    have nfO : ∀ b, (b = FL ∨ b ∈ fa) → b ≠ OL := fun b hb => by
      obtain ⟨o, h⟩ := F2' b hb
      exact ne_of_none ((E3.trans E4) _ _ h) nOL
    have nM0 : H ML = none := fresh_back E2 nML
    have nR0 : H RL = none := fresh_back E03 nRL
    have nO0 : H OL = none := fresh_back (E03.trans E4) nOL
    refine ⟨fun μ σ H' => Ex H H' ∧ ∃ (ord : List Nat) (rd ms : List Int) (y2 y8 : Option V), Fols H H' FL fa F ∧ KInv N ord rd ms ∧ H' RL = some (.lst (rd.map V.int)) ∧ H' ML = some (.lst (ms.map V.int)) ∧ H' OL = some (.lst (natsV ord)) ∧ μ + ord.length = N.length ∧ σ = [some (.ref nl), some (.ref FL), y2, z3, z4, some (.ref ML), some (.ref RL), some (.ref OL), y8, none, none],
      ⟨N.length, E03.trans (E4.trans E5), [], rd0, ms0, _, _, hF3.ex (E4.trans E5), I0, E5 _ _ hRL, (E4.trans E5) _ _ hM, hO, rfl, rfl⟩, ?_⟩
    rintro μ σ H6 ⟨E6, ord, rd, ms, y2, y8, hF6, I6, hR6, hM6, hO6, hμ, rfl⟩
    refine ⟨_, rfl, !(rd.map V.int).isEmpty, .inl ⟨_, SqL.of hR6, rfl⟩, ite2 (fun c1 => ?_) (fun c1 => ?_)⟩
    · have hrd : 0 < rd.length := by
        cases rd with
        | nil => cases c1
        | cons x l => exact Nat.succ_pos _
      have hperm := HQ.pop_perm hrd
      obtain ⟨k, ek, hkl, _⟩ := I6.ltr (rd.getD 0 0) (hperm.mem_iff.mp (List.mem_cons_self ..))
      rw [ek] at hperm
      obtain ⟨M0, _, hk, hk0⟩ := I6.pop (fol := F.getD k []) hperm
      have hlen1 : ord.length + 1 ≤ N.length := by
        have := nodup_len N.length (ord ++ [k]) (List.nodup_append.mpr ⟨I6.nd, by simp, fun a ha b hb => fun z => hk (by rw [← List.mem_singleton.mp hb, ← z]; exact ha)⟩) fun f hf => by
          rcases List.mem_append.mp hf with z | z
          · exact I6.lt f z
          · rw [List.mem_singleton.mp z]; exact hkl
        rw [List.length_append] at this
        exact this
      refine ⟨fun σ' H' => Ex H H' ∧ ∃ (ord' : List Nat) (rd ms : List Int) (y2 y8 : Option V), Fols H H' FL fa F ∧ KInv N ord' rd ms ∧ H' RL = some (.lst (rd.map V.int)) ∧ H' ML = some (.lst (ms.map V.int)) ∧ H' OL = some (.lst (natsV ord')) ∧ ord'.length = ord.length + 1 ∧ σ' = [some (.ref nl), some (.ref FL), y2, z3, z4, some (.ref ML), some (.ref RL), some (.ref OL), y8, none, none], ?_, ?_⟩
      · rintro σ' H' ⟨b1, ord', rd', ms', y2', y8', b2, b3, b4, b5, b6, b7, rfl⟩
        exact ⟨μ - 1, by omega, b1, ord', rd', ms', y2', y8', b2, b3, b4, b5, b6, by omega, rfl⟩
      have E7 := E6.mut (o := .lst ((HQ.popI rd).map V.int)) nR0
      refine ⟨_, rfl, RL, rd, rfl, hR6, hrd, ?_⟩
      rw [ek]
      have hF7 : Fols H (upd H6 RL (.lst ((HQ.popI rd).map V.int))) FL fa F := hF6.keep fun b o hb z => by rw [upd_ne (nfR b hb)]; exact z
      have hM7 : upd H6 RL (.lst ((HQ.popI rd).map V.int)) ML = some (.lst (ms.map V.int)) := by rw [upd_ne nMR]; exact hM6
      have hO7 : upd H6 RL (.lst ((HQ.popI rd).map V.int)) OL = some (.lst (natsV ord)) := by rw [upd_ne (Ne.symm nRO)]; exact hO6
      have hR7 : upd H6 RL (.lst ((HQ.popI rd).map V.int)) RL = some (.lst ((HQ.popI rd).map V.int)) := upd_same
      generalize upd H6 RL (.lst ((HQ.popI rd).map V.int)) = H7 at *
      refine ⟨_, rfl, .inl ⟨rfl, _, SqL.of hO7⟩, _, rfl, OL, _, .int (k : Nat), rfl, rfl, hO7, sz_lt (by rw [nats_len]; omega), ?_⟩
      rw [← nats_snoc]
      have E8 := E7.mut (o := .lst (natsV (ord ++ [k]))) nO0
      have hF8 : Fols H (upd H7 OL (.lst (natsV (ord ++ [k])))) FL fa F := hF7.keep fun b o hb z => by rw [upd_ne (nfO b hb)]; exact z
      have hM8 : upd H7 OL (.lst (natsV (ord ++ [k]))) ML = some (.lst (ms.map V.int)) := by rw [upd_ne nMO]; exact hM7
      have hR8 : upd H7 OL (.lst (natsV (ord ++ [k]))) RL = some (.lst ((HQ.popI rd).map V.int)) := by rw [upd_ne nRO]; exact hR7
      have hO8 : upd H7 OL (.lst (natsV (ord ++ [k]))) OL = some (.lst (natsV (ord ++ [k]))) := upd_same
      generalize upd H7 OL (.lst (natsV (ord ++ [k]))) = H8 at *
      have FO := C2.fol hkl
      have hfk : k < fa.length := by omega
      have hfb : fa[k]? = some fa[k] := List.getElem?_eq_getElem hfk
      have hat : ∀ H', Fols H H' FL fa F → H' fa[k] = some (.lst (natsV (F.getD k []))) := fun H' h => by
        obtain ⟨l, hl, h1⟩ := h.at_.at_ hfb
        rw [List.getD_eq_getElem?_getD, hl]; exact h1
      refine ⟨_, rfl, _, rfl, FL, _, _, .ref fa[k], rfl, rfl, SqL.of hF8.top, at_of (j := k) rfl (by rw [List.getElem?_map, hfb]; rfl), fa[k], rfl, ⟨_, SqL.of (hat _ hF8)⟩, for_list (K := K) (a := fa[k]) (xs := natsV (F.getD k []))
        (fun j σ H' => Ex H H' ∧ ∃ (rd' ms' : List Int) (y8 : Option V), Fols H H' FL fa F ∧ KMid N ord k (F.getD k []) j rd' ms' ∧ H' RL = some (.lst (rd'.map V.int)) ∧ H' ML = some (.lst (ms'.map V.int)) ∧ H' OL = some (.lst (natsV (ord ++ [k]))) ∧ σ = [some (.ref nl), some (.ref FL), some (.int (k : Int)), z3, z4, some (.ref ML), some (.ref RL), some (.ref OL), y8, none, none])
        ⟨E8, HQ.popI rd, ms, y8, hF8, M0, hR8, hM8, hO8, rfl⟩ (fun j σ H' _ g => by obtain ⟨_, _, _, _, h1, _⟩ := g; exact SqL.of (hat _ h1)) ?_ ?_⟩
      · rintro j y σ H9 hy ⟨E9, rd', ms', y8, hF9, M9, hR9, hM9, hO9, rfl⟩
        obtain ⟨f, hf, rfl⟩ := nats_get hy
        obtain ⟨hfl, s1, s2⟩ := M9.step I6.closed hk hk0 FO hf
        have hfm : f < ms'.length := by rw [M9.len]; exact hfl
        refine ⟨_, rfl, _, rfl, ML, _, _, _, rfl, rfl, SqL.of hM9, at_int (j := f) rfl hfm, _, _, rfl, rfl, ML, _, _, f, rfl, rfl, hM9, ixN_nat (by rw [List.length_map]; exact hfm), ?_⟩
        rw [← List.map_set]
        have E10 := E9.mut (o := .lst ((ms'.set f (ms'.getD f 0 - 1)).map V.int)) nM0
        have hF10 : Fols H (upd H9 ML (.lst ((ms'.set f (ms'.getD f 0 - 1)).map V.int))) FL fa F := hF9.keep fun b o hb z => by rw [upd_ne (nfM b hb)]; exact z
        have hR10 : upd H9 ML (.lst ((ms'.set f (ms'.getD f 0 - 1)).map V.int)) RL = some (.lst (rd'.map V.int)) := by rw [upd_ne (Ne.symm nMR)]; exact hR9
        have hO10 : upd H9 ML (.lst ((ms'.set f (ms'.getD f 0 - 1)).map V.int)) OL = some (.lst (natsV (ord ++ [k]))) := by rw [upd_ne (Ne.symm nMO)]; exact hO9
        have hM10 : upd H9 ML (.lst ((ms'.set f (ms'.getD f 0 - 1)).map V.int)) ML = some (.lst ((ms'.set f (ms'.getD f 0 - 1)).map V.int)) := upd_same
        generalize upd H9 ML (.lst ((ms'.set f (ms'.getD f 0 - 1)).map V.int)) = H10 at *
        refine ⟨_, rfl, _, rfl, ML, _, _, _, rfl, rfl, SqL.of hM10, at_int (j := f) rfl (by rw [List.length_set]; exact hfm), rfl, _, rfl, ?_⟩
        rw [getD_setI hfm, if_pos rfl]
        have hrl : rd'.length ≤ 100 := by
          have := nodup_lenI M9.ndr fun z hz => by
            obtain ⟨g, a1, a2, _⟩ := M9.ltr z hz
            exact ⟨g, a1, a2⟩
          omega
        refine ite2 (fun c2 => ?_) (fun c2 => ?_)
        · have h0 : ms'.getD f 0 - 1 = 0 := by
            have := of_decide_eq_true c2
            injection this
          refine ⟨_, rfl, _, rfl, RL, rd', (f : Int), rfl, hR10, sz_lt (by omega), ?_⟩
          exact ⟨E10.mut nR0, HQ.pushI rd' (f : Int), _, _, hF10.keep fun b o hb z => by rw [upd_ne (nfR b hb)]; exact z, s2 h0 _ (HQ.push_perm rd' f), upd_same, by rw [upd_ne nMR]; exact hM10, by rw [upd_ne (Ne.symm nRO)]; exact hO10, rfl⟩
        · have h0 : ms'.getD f 0 - 1 ≠ 0 := fun z => c2 (decide_eq_true (by rw [z]))
          exact ⟨E10, rd', _, _, hF10, s1 h0, hR10, hM10, hO10, rfl⟩
      · rintro σ H9 ⟨E9, rd', ms', y8, hF9, M9, hR9, hM9, hO9, rfl⟩
        rw [nats_len] at M9
        exact ⟨E9, ord ++ [k], rd', ms', _, _, hF9, M9.done I6 hk hkl hk0 FO, hR9, hM9, hO9, by rw [List.length_append]; rfl, rfl⟩
    · have : rd = [] := by
        cases rd with
        | nil => rfl
        | cons x l => exact absurd rfl c1
      subst this
      exact ⟨_, rfl, q OL H6 ord E6 nO0 hO6 (I6.topo rank hrk)⟩
end
end G
namespace G
open PySem PySem.Spec PyProof.Rows L2
/-! ## what a circuit means: the mathematics -/
def sumB (bs : List Bool) : Nat → Nat
  | 0 => 0
  | j + 1 => sumB bs j + if bs.getD j false then 2 ^ j else 0
theorem sumB_lt (bs : List Bool) : ∀ j, sumB bs j < 2 ^ j
  | 0 => Nat.one_pos
  | j + 1 => by
    have h := sumB_lt bs j
    show sumB bs j + _ < 2 ^ (j + 1)
    rw [Nat.pow_succ]
    by_cases e : bs.getD j false = true
    · rw [if_pos e]; omega
    · rw [if_neg e]; omega
def lookB (tab bs : List Bool) : Bool := tab.getD (sumB bs bs.length) false
theorem nm_ok16 : ∀ c ∈ (["i", "r", "g", "p"] : List Str), ∀ k, k < 16 → PyData.strOk (nm c k) = true := by decide +kernel
theorem nm_inj : ∀ c ∈ (["i", "r", "g", "p"] : List Str), ∀ c' ∈ (["i", "r", "g", "p"] : List Str), ∀ k, k < 16 → ∀ k', k' < 16 → nm c k = nm c' k' → c = c' ∧ k = k' := by decide +kernel
def srcs (d : CircD) : List Str := d.ins ++ d.regs.map (·.name)
def gnames (d : CircD) : List Str := d.gates.map (·.name)
/-- val says what each net holds, the sources given -/
structure Val (d : CircD) (vec : List Bool) (val : Str → Bool) : Prop where
  src : ∀ (i : Nat) (x : Str), (srcs d)[i]? = some x → vec[i]? = some (val x)
  gate : ∀ g ∈ d.gates, val g.name = lookB g.tab (g.pins.map val)
/-- names apart, each gate reads nets that there are, none reads itself by others -/
structure Nets (d : CircD) : Prop where
  nd : (srcs d ++ gnames d).Nodup
  pins : ∀ g ∈ d.gates, ∀ x ∈ g.pins, x ∈ srcs d ++ gnames d
  few : d.gates.length ≤ 16
  fewp : ∀ g ∈ d.gates, g.pins.length ≤ 3
  tab : ∀ g ∈ d.gates, g.tab.length = 2 ^ g.pins.length
  fews : (srcs d).length ≤ 16
  rank : ∃ rank : Str → Nat, ∀ g ∈ d.gates, ∀ x ∈ g.pins, x ∈ gnames d → rank x < rank g.name
  regs : ∀ r ∈ d.regs, r.net ∈ srcs d ++ gnames d
  tx : ∀ x ∈ srcs d ++ gnames d, PyData.strOk x = true
def needN (d : CircD) : List (List Nat) := d.gates.map fun g => (g.pins.filter fun x => decide (x ∈ gnames d)).map fun x => (gnames d).idxOf x
def evG : (Str → Bool) → List GateD → Str → Bool
  | f, [] => f
  | f, g :: gs => evG (fun y => if y = g.name then lookB g.tab (g.pins.map f) else f y) gs
theorem evG_out : ∀ (gs : List GateD) (f : Str → Bool) (x : Str), x ∉ gs.map (·.name) → evG f gs x = f x
  | [], _, _, _ => rfl
  | g :: gs, f, x, h => by
    rw [List.map_cons, List.mem_cons] at h
    show evG _ gs x = _
    rw [evG_out gs _ x fun z => h (.inr z)]
    show (if x = g.name then _ else _) = _
    rw [if_neg fun z => h (.inl z)]
theorem evG_gate : ∀ (gs : List GateD) (f : Str → Bool), (gs.map (·.name)).Nodup → (∀ (k : Nat) (g : GateD), gs[k]? = some g → ∀ x ∈ g.pins, ∀ (j : Nat) (g' : GateD), gs[j]? = some g' → x = g'.name → j < k) → ∀ g ∈ gs, evG f gs g.name = lookB g.tab (g.pins.map (evG f gs))
  | [], _, _, _, g, h => nomatch h
  | g :: gs, f, nd, hp, g', h => by
    rw [List.map_cons, List.nodup_cons] at nd
    have hev : ∀ x ∈ g.pins, evG f (g :: gs) x = f x := fun x hx => by
      refine evG_out (g :: gs) f x fun z => ?_
      obtain ⟨g2, h2, e2⟩ := List.mem_map.mp z
      obtain ⟨j, hj, e⟩ := List.getElem_of_mem h2
      exact absurd (hp 0 g rfl x hx j g2 (List.getElem?_eq_some_iff.mpr ⟨hj, e⟩) e2.symm) (Nat.not_lt_zero _)
    rcases List.mem_cons.mp h with e | h
    · subst e
      rw [List.map_congr_left hev]
      show evG _ gs g'.name = _
      rw [evG_out gs _ _ nd.1]
      show (if g'.name = g'.name then _ else _) = _
      rw [if_pos rfl]
    · exact evG_gate gs _ nd.2 (fun k g1 hk x hx j g2 hj e => by
        have := hp (k + 1) g1 hk x hx (j + 1) g2 hj e
        omega) g' h
theorem nets_of {most : Nat} {d : CircD} {G : List GateD} (W : CircWf most d G) (hm : most ≤ 15) : Nets d ∧ ∀ vec : List Bool, vec.length = (srcs d).length → ∃ val, Val d vec val := by
  obtain ⟨ni, hi1, hi3, ei⟩ := W.ins
  obtain ⟨nr, hr3, er⟩ := W.regs
  have hG := W.few
  have hname : ∀ (k : Nat) (g : GateD), G[k]? = some g → g.name = nm "g" k := fun k g hk => (W.gates k g hk).name
  have eG : G.map (·.name) = (List.range G.length).map (nm "g") := by
    refine List.ext_getElem? fun k => ?_
    rw [List.getElem?_map, List.getElem?_map]
    by_cases h : k < G.length
    · rw [List.getElem?_eq_getElem h, List.getElem?_range h]
      show some (G[k]).name = some _
      rw [hname k _ (List.getElem?_eq_getElem h)]
    · rw [List.getElem?_eq_none (by omega), List.getElem?_eq_none (by rw [List.length_range]; omega)]; rfl
  have es : srcs d = (List.range ni).map (nm "i") ++ (List.range nr).map (nm "r") := by unfold srcs; rw [ei, er]
  have pg : (gnames d).Perm (G.map (·.name)) := W.perm.map _
  have mg : ∀ x, x ∈ gnames d ↔ ∃ k, k < G.length ∧ x = nm "g" k := fun x => by
    rw [pg.mem_iff, eG, List.mem_map]
    exact ⟨fun ⟨k, h1, h2⟩ => ⟨k, List.mem_range.mp h1, h2.symm⟩, fun ⟨k, h1, h2⟩ => ⟨k, List.mem_range.mpr h1, h2.symm⟩⟩
  have ndm : ∀ (c : Str), c ∈ (["i", "r", "g", "p"] : List Str) → ∀ n, n ≤ 16 → ((List.range n).map (nm c)).Nodup := fun c hc n hn => by
    refine List.pairwise_map.mpr (List.Pairwise.imp_of_mem (fun {a b} ha hb hne z => hne ?_) (List.nodup_range (n := n)))
    exact (nm_inj c hc c hc a (by have := List.mem_range.mp ha; omega) b (by have := List.mem_range.mp hb; omega) z).2
  have ndG : (G.map (·.name)).Nodup := by rw [eG]; exact ndm "g" (by decide +kernel) _ (by omega)
  have nds : (srcs d).Nodup := by
    rw [es]
    refine List.nodup_append.mpr ⟨ndm "i" (by decide +kernel) _ (by omega), ndm "r" (by decide +kernel) _ (by omega), fun a ha b hb z => ?_⟩
    obtain ⟨j, hj, rfl⟩ := List.mem_map.mp ha
    obtain ⟨k, hk, rfl⟩ := List.mem_map.mp hb
    have := (nm_inj "i" (by decide +kernel) "r" (by decide +kernel) j (by have := List.mem_range.mp hj; omega) k (by have := List.mem_range.mp hk; omega) z).1
    exact absurd this (by decide +kernel)
  have nsg : ∀ x ∈ srcs d, ∀ k, k < G.length → x ≠ nm "g" k := fun x hx k hk z => by
    rw [es] at hx
    rcases List.mem_append.mp hx with y | y
    · obtain ⟨j, hj, e⟩ := List.mem_map.mp y
      exact absurd (nm_inj "i" (by decide +kernel) "g" (by decide +kernel) j (by have := List.mem_range.mp hj; omega) k (by omega) (e.trans z)).1 (by decide +kernel)
    · obtain ⟨j, hj, e⟩ := List.mem_map.mp y
      exact absurd (nm_inj "r" (by decide +kernel) "g" (by decide +kernel) j (by have := List.mem_range.mp hj; omega) k (by omega) (e.trans z)).1 (by decide +kernel)
  have hpin : ∀ (k : Nat) (g : GateD), G[k]? = some g → ∀ x ∈ g.pins, ∀ j, j < G.length → x = nm "g" j → j < k := fun k g hk x hx j hj e => by
    have hkl := (List.getElem?_eq_some_iff.mp hk).1
    rcases List.mem_append.mp ((W.gates k g hk).pins x hx) with z | z
    · exact absurd e (nsg x z j hj)
    · obtain ⟨i, hi, e2⟩ := List.mem_map.mp z
      have hik := List.mem_range.mp hi
      have := (nm_inj "g" (by decide +kernel) "g" (by decide +kernel) i (by omega) j (by omega) (e2.trans e)).2
      omega
  have hmem : ∀ g ∈ d.gates, ∃ k, G[k]? = some g ∧ k < G.length := fun g hg => by
    obtain ⟨k, hk, e⟩ := List.getElem_of_mem (W.perm.mem_iff.mp hg)
    exact ⟨k, List.getElem?_eq_some_iff.mpr ⟨hk, e⟩, hk⟩
  have hsub : ∀ k, k ≤ G.length → ∀ x ∈ d.ins ++ d.regs.map (·.name) ++ (List.range k).map (nm "g"), x ∈ srcs d ++ gnames d := fun k hk x hx => by
    rcases List.mem_append.mp hx with z | z
    · exact List.mem_append_left _ z
    · obtain ⟨j, hj, e⟩ := List.mem_map.mp z
      exact List.mem_append_right _ ((mg x).mpr ⟨j, by have := List.mem_range.mp hj; omega, e.symm⟩)
  refine ⟨⟨List.nodup_append.mpr ⟨nds, pg.nodup_iff.mpr ndG, fun a ha b hb z => ?_⟩, fun g hg x hx => ?_, ?_, fun g hg => ?_, fun g hg => ?_, ?_, ⟨fun x => (G.map (·.name)).idxOf x, fun g hg x hx hxg => ?_⟩, fun r hr => hsub G.length (Nat.le_refl _) _ (W.rwf r hr).2, fun x hx => ?_⟩, fun vec hv => ?_⟩
  · obtain ⟨k, hk, e⟩ := (mg b).mp hb
    exact nsg a ha k hk (z.trans e)
  · obtain ⟨k, hk, hkl⟩ := hmem g hg
    exact hsub k (Nat.le_of_lt hkl) x ((W.gates k g hk).pins x hx)
  · rw [W.perm.length_eq]; omega
  · obtain ⟨k, hk, hkl⟩ := hmem g hg
    exact (W.gates k g hk).few
  · obtain ⟨k, hk, hkl⟩ := hmem g hg
    exact (W.gates k g hk).tab
  · rw [es, List.length_append, List.length_map, List.length_map, List.length_range, List.length_range]; omega
  · obtain ⟨k, hk, hkl⟩ := hmem g hg
    obtain ⟨j, hj, e⟩ := (mg x).mp hxg
    have hlt := hpin k g hk x hx j hj e
    have at_ : ∀ i, i < G.length → (G.map (·.name)).idxOf (nm "g" i) = i := fun i hi => by
      have e1 : (G.map (·.name))[i]'(by rw [List.length_map]; exact hi) = nm "g" i := by
        rw [List.getElem_map]; exact hname i _ (List.getElem?_eq_getElem hi)
      rw [← e1]
      exact ndG.idxOf_getElem i _
    show (G.map (·.name)).idxOf x < (G.map (·.name)).idxOf g.name
    rw [e, hname k g hk, at_ j hj, at_ k hkl]
    exact hlt
  · rcases List.mem_append.mp hx with z | z
    · rw [es] at z
      rcases List.mem_append.mp z with y | y
      · obtain ⟨j, hj, rfl⟩ := List.mem_map.mp y
        exact nm_ok16 "i" (by decide +kernel) j (by have := List.mem_range.mp hj; omega)
      · obtain ⟨j, hj, rfl⟩ := List.mem_map.mp y
        exact nm_ok16 "r" (by decide +kernel) j (by have := List.mem_range.mp hj; omega)
    · obtain ⟨k, hk, rfl⟩ := (mg x).mp z
      exact nm_ok16 "g" (by decide +kernel) k (by omega)
  · refine ⟨evG (fun x => vec.getD ((srcs d).idxOf x) false) G, fun i x hx => ?_, fun g hg => ?_⟩
    · have hil := (List.getElem?_eq_some_iff.mp hx).1
      rw [evG_out G _ x fun z => ?_]
      · have : (srcs d).idxOf x = i := by
          obtain ⟨h1, h2⟩ := List.getElem?_eq_some_iff.mp hx
          rw [← h2]; exact nds.idxOf_getElem i h1
        rw [this, List.getD_eq_getElem?_getD, List.getElem?_eq_getElem (by omega)]; rfl
      · rw [eG] at z
        obtain ⟨k, hk, e⟩ := List.mem_map.mp z
        exact nsg x (List.mem_of_getElem? hx) k (List.mem_range.mp hk) e.symm
    · refine evG_gate G _ ndG (fun k g1 hk x hx j g2 hj e => ?_) g (W.perm.mem_iff.mp hg)
      exact hpin k g1 hk x hx j (List.getElem?_eq_some_iff.mp hj).1 (e.trans (hname j g2 hj))
theorem need_rank {d : CircD} (h : Nets d) : ∃ rank : Nat → Nat, ∀ k o, k < (needN d).length → o ∈ (needN d).getD k [] → o < (needN d).length ∧ rank o < rank k := by
  obtain ⟨rank, hr⟩ := h.rank
  refine ⟨fun k => rank ((gnames d).getD k (nm "g" 0)), fun k o hk ho => ?_⟩
  unfold needN at *
  rw [List.length_map] at hk ⊢
  obtain ⟨g, hg⟩ : ∃ g, d.gates[k]? = some g := ⟨_, List.getElem?_eq_getElem hk⟩
  rw [List.getD_eq_getElem?_getD, List.getElem?_map, hg] at ho
  obtain ⟨x, hx, rfl⟩ := List.mem_map.mp ho
  obtain ⟨hx1, hx2⟩ := List.mem_filter.mp hx
  have hxg : x ∈ gnames d := of_decide_eq_true hx2
  have hol : (gnames d).idxOf x < (gnames d).length := List.idxOf_lt_length_iff.mpr hxg
  have hgl : (gnames d).length = d.gates.length := List.length_map _
  refine ⟨by rw [← hgl]; exact hol, ?_⟩
  have e1 : (gnames d).getD ((gnames d).idxOf x) (nm "g" 0) = x := by
    rw [List.getD_eq_getElem?_getD, List.getElem?_eq_getElem hol]; exact List.getElem_idxOf hol
  have e2 : (gnames d).getD k (nm "g" 0) = g.name := by
    unfold gnames
    rw [List.getD_eq_getElem?_getD, List.getElem?_map, hg]; rfl
  show rank ((gnames d).getD ((gnames d).idxOf x) (nm "g" 0)) < rank ((gnames d).getD k (nm "g" 0))
  rw [e1, e2]
  exact hr g (List.mem_of_getElem? hg) x hx1 hxg
end G
/-! zip of two rows, each a list or a tuple -/
namespace G
open PySem PySem.Spec PyProof.Rows L2 Evl
def SqB (t : Bool) (K : PySem.W.Frag) (H : Hp) (a : Addr) (xs : List V) : Prop := if t = true then SqT K H a xs else SqL K H a xs
def ItB (t : Bool) (h : Heap) (it l : Addr) (i : Nat) : Prop := if t = true then h.IsTupleIter it l i else h.IsListIter it l i
theorem ItB.obj {t : Bool} {h : Heap} {it l : Addr} {i : Nat} (x : ItB t h it l i) : ∃ o, h.get? it = some o ∧ ∃ q, o.data = .fields q := by
  unfold ItB at x
  split at x
  · obtain ⟨o, ho, _, hd⟩ := x; exact ⟨o, ho, _, hd⟩
  · obtain ⟨o, ho, _, hd⟩ := x; exact ⟨o, ho, _, hd⟩
theorem ItB.to {t : Bool} {h h' : Heap} {it l : Addr} {i : Nat} (x : ItB t h it l i) (k : ∀ o, h.get? it = some o → h'.get? it = some o) : ItB t h' it l i := by
  unfold ItB at x ⊢
  split
  · rw [if_pos (by assumption)] at x; exact x.at k
  · rw [if_neg (by assumption)] at x; exact x.at k
theorem SqB.one {X : Cx} {pins : List (Addr × Obj)} {σ : L2.St} {H : Hp} {s : Shared} (I : Inv X pins σ H s) {t : Bool} {a : Addr} {xs ys : List V} (h : SqB t X.K H a xs) (h' : SqB t X.K H a ys) : xs = ys := by
  unfold SqB at h h'
  cases t with
  | true => exact I.tuple_inj h h'
  | false => exact I.list_inj h h'
theorem drawsB {X : Cx} {pins : List (Addr × Obj)} {σ : L2.St} {H : Hp} {s : Shared} (I : Inv X pins σ H s) (hh : X.A.handled = none) {t : Bool} {a it : Addr} {xs : List V} {i : Nat} (hq : SqB t X.K H a xs) (st : ItB t s.heap it a i) (hne : a ≠ it) :
    ∃ (items : List Value) (St : Nat → Heap → Prop), Vals xs items ∧ Draws X.prog X.w X.A.in1 it [it, a] items.toArray.size (fun i v => items.toArray[i]? = some v) St ∧ St i s.heap ∧ ∀ h', St (i + 1) h' → ItB t h' it a (i + 1) := by
  unfold SqB at hq
  unfold ItB at st ⊢
  cases t with
  | true =>
    obtain ⟨items, rv, p, _⟩ := I.tuple hq
    exact ⟨items, _, rv, Draws.tuple (A := X.A.in1) hh it a hne items.toArray, ⟨st, p⟩, fun h' z => z.1⟩
  | false =>
    obtain ⟨items, rv, p, _⟩ := I.list hq
    exact ⟨items, _, rv, Draws.list (A := X.A.in1) hh it a hne items.toArray, ⟨st, p.isList⟩, fun h' z => z.1⟩
/-- both rows as they stand at each turn, a new pair each -/
def ItM (t1 t2 : Bool) (K : PySem.W.Frag) (a b : Addr) : It :=
  ⟨fun i H => ∃ (xs ys : List V), SqB t1 K H a xs ∧ SqB t2 K H b ys ∧ i < xs.length ∧ i < ys.length,
   fun i H v H' => ∃ T x y, v = .ref T ∧ H T = none ∧ H' = upd H T (.tup [x, y]) ∧ (∀ xs, SqB t1 K H a xs → xs[i]? = some x) ∧ ∀ ys, SqB t2 K H b ys → ys[i]? = some y,
   fun i H => ∃ xs ys : List V, SqB t1 K H a xs ∧ SqB t2 K H b ys ∧ i ≤ xs.length ∧ i ≤ ys.length ∧ (i = xs.length ∨ i = ys.length)⟩
theorem turn_zipM {P : Program} {w : World} {K : PySem.W.Frag} {elts : List Expr} {kk : Nat} {tpos : Pos} {t1 t2 : Bool} {a b z TI TO i1 i2 : Addr} (S : ZipSep2 z TI TO i1 i2 [i1, a] [i2, b]) (na : a ≠ i1) (nb : b ≠ i2) :
    Turn P w K (.Tuple elts kk tpos) (ItM t1 t2 K a b) [z, TI, TO, i1, i2] z (fun i h => IsZip h z TI TO .none ∧ IsTupOf2 h TI (.ref i1) (.ref i2) ∧ (∃ x y, IsTupOf2 h TO x y) ∧ ItB t1 h i1 a i ∧ ItB t2 h i2 b i) where
  mem := by simp
  obj := fun i h st c hc => by
    obtain ⟨hz, hTI, ⟨x, y, hTO⟩, h1, h2⟩ := st
    obtain ⟨o1, e1, q1, d1⟩ := h1.obj
    obtain ⟨o2, e2, q2, d2⟩ := h2.obj
    have e' : c = z ∨ c = TI ∨ c = TO ∨ c = i1 ∨ c = i2 := by simpa using hc
    rcases e' with q | q | q | q | q <;> subst q
    · exact ⟨_, hz, fun v q => nomatch q⟩
    · exact ⟨_, hTI, fun v q => nomatch q⟩
    · exact ⟨_, hTO, fun v q => nomatch q⟩
    · exact ⟨o1, e1, fun v q => by rw [d1] at q; cases q⟩
    · exact ⟨o2, e2, fun v q => by rw [d2] at q; cases q⟩
  keep := fun i h h' st k => by
    obtain ⟨hz, hTI, ⟨x, y, hTO⟩, h1, h2⟩ := st
    exact ⟨k _ (by simp) _ hz, k _ (by simp) _ hTI, ⟨x, y, k _ (by simp) _ hTO⟩, h1.to (k i1 (by simp)), h2.to (k i2 (by simp))⟩
  item := by
    intro X hP hw hK hc i pins s σ H E I hf st hg
    subst hP hw hK
    obtain ⟨hz, hTI, ⟨x0, y0, hTO⟩, h1, h2⟩ := st
    obtain ⟨xs, ys, hqx, hqy, hx, hy⟩ := hg
    have hh : X.A.handled = none := I.ok.hd hc
    obtain ⟨its, St1, rv, D1, s1, n1⟩ := drawsB I hh hqx h1 na
    obtain ⟨its2, St2, rv2, D2, s2, n2⟩ := drawsB I hh hqy h2 nb
    have hxe : xs[i]? = some xs[i] := List.getElem?_eq_getElem hx
    have hye : ys[i]? = some ys[i] := List.getElem?_eq_getElem hy
    obtain ⟨u, hu, ru⟩ := rv.get hxe
    obtain ⟨u2, hu2, ru2⟩ := rv2.get hye
    have hzl : z < s.heap.objs.size := Heap.lt_size hz
    refine wpAny_pyNext_zipD2_item S D1 D2 hz hTI hTO s1 s2 (by have := rv.length; simp; omega) (by have := rv2.length; simp; omega) fun v1 v2 h' tk e1 e2 z' TO' t1' t2' hT hsz hk => ?_
    have ev1 : v1 = u := Option.some.inj (e1.symm.trans (by simpa using hu))
    have ev2 : v2 = u2 := Option.some.inj (e2.symm.trans (by simpa using hu2))
    subst ev1 ev2
    refine ⟨_, rfl, wpAny_letOwnedTupleGo_zip (s := { s with heap := h', toks := tk }) z' fun h'' z'' sb => ?_⟩
    have hT2 : h''.get? s.heap.objs.size = some { cls := .type "tuple", data := .seq #[v1, v2] } := (sb.2 _ (Nat.ne_of_gt hzl)).trans hT
    have made : ObjOk X.prog X.w (upd H s.heap.objs.size (.tup [xs[i], ys[i]])) h'' s.heap.objs.size (.tup [xs[i], ys[i]]) := ⟨(by show 2 ≤ sizeLine; decide), [v1, v2], .cons ru (.cons ru2 .nil), _, hT2, rfl, _, rfl⟩
    have old : ∀ c, c ∈ [z, TI, TO, i1, i2] → c < s.heap.objs.size := fun c hcm => by
      have e' : c = z ∨ c = TI ∨ c = TO ∨ c = i1 ∨ c = i2 := by simpa using hcm
      rcases e' with q | q | q | q | q <;> rw [q]
      · exact hzl
      · exact Heap.lt_size hTI
      · exact Heap.lt_size hTO
      · obtain ⟨_, e, _⟩ := h1.obj; exact Heap.lt_size e
      · obtain ⟨_, e, _⟩ := h2.obj; exact Heap.lt_size e
    have I1 : Inv X pins σ (upd H s.heap.objs.size (.tup [xs[i], ys[i]])) { s with heap := h'', toks := tk } :=
      I.turnedNew (ch := [z, TI, TO, i1, i2]) (fun c o nb q => by
        have out : c ≠ z ∧ c ≠ TI ∧ c ≠ TO ∧ c ≠ i1 ∧ c ≠ i2 := by simpa using nb
        exact (sb.2 c out.1).trans (hk c o out.1 out.2.2.1 out.2.2.2.1 out.2.2.2.2 q)) hf (Nat.le_refl _) made
    refine ⟨.ref s.heap.objs.size, _, I1, rfl, ⟨_, xs[i], ys[i], rfl, I.hok.fresh (Nat.le_refl _), rfl, fun l hl => (congrArg (·[i]?) (hqx.one I hl)).symm.trans hxe, fun l hl => (congrArg (·[i]?) (hqy.one I hl)).symm.trans hye⟩,
      ⟨z'', (sb.2 _ S.TIz).trans (hk _ _ S.TIz S.TITO S.TIi1 S.TIi2 hTI), ⟨v1, v2, (sb.2 _ S.TOz).trans TO'⟩, (n1 _ t1').to fun o q => (sb.2 _ S.zi1.symm).trans q, (n2 _ t2').to fun o q => (sb.2 _ S.zi2.symm).trans q⟩, fun c hcm => ?_⟩
    rw [upd_ne (Nat.ne_of_lt (old c hcm))]
    exact (hf c hcm).1
  done := by
    intro X hP hw hK hc i pins s σ H E I hf st hg
    subst hP hw hK
    obtain ⟨hz, hTI, ⟨x0, y0, hTO⟩, h1, h2⟩ := st
    obtain ⟨xs, ys, hqx, hqy, hlx, hly, hend⟩ := hg
    have hh : X.A.handled = none := I.ok.hd hc
    obtain ⟨its, St1, rv, D1, s1, n1⟩ := drawsB I hh hqx h1 na
    obtain ⟨its2, St2, rv2, D2, s2, n2⟩ := drawsB I hh hqy h2 nb
    have l1 := rv.length
    have l2 := rv2.length
    refine wpAny_pyNext_zipD2_end S D1 D2 hz hTI hTO s1 s2 (by simp; omega) (by simp; omega) (by simp; omega) fun h' tk hk => ⟨rfl, I.turnedL (t' := tk) (ch := [z, TI, TO, i1, i2]) (fun c o nb q => ?_) hf⟩
    have out : c ≠ z ∧ c ≠ TI ∧ c ≠ TO ∧ c ≠ i1 ∧ c ≠ i2 := by simpa using nb
    exact hk c o out.1 out.2.2.1 out.2.2.2.1 out.2.2.2.2 q
  self := fun A i s Q E st h => wpAny_pyIter_zip st.1 h
def iZipM (K : PySem.W.Frag) (t1 t2 : Bool) (ta : TA) : TI := fun σ H R => ta σ H fun vs H1 => ∃ a b xs ys, vs = [.ref a, .ref b] ∧ SqB t1 K H1 a xs ∧ SqB t2 K H1 b ys ∧ R (ItM t1 t2 K a b) H1
theorem nin2 {x y z : Nat} (h1 : x ≠ y) (h2 : x ≠ z) : x ∉ [y, z] := by simp [h1, h2]
theorem nin2' {x y z : Nat} (h1 : x ≠ y) (h2 : x ≠ z) : ¬ (x : Addr) ∈ ([y, z] : List Addr) := nin2 h1 h2
theorem sepZ {n a b : Nat} (ha : a < n) (hb : b < n) : ZipSep2 (n + 4) (n + 2) (n + 3) n (n + 1) [n, a] [n + 1, b] :=
  have e1 : n + 2 ≠ n + 4 := by omega
  have e2 : n + 3 ≠ n + 4 := by omega
  have e3 : n + 2 ≠ n + 3 := by omega
  have e4 : n + 2 ≠ n := by omega
  have e5 : n + 2 ≠ n + 1 := by omega
  have f1 : n + 4 ≠ n := by omega
  have f2 : n + 4 ≠ a := by omega
  have f3 : n + 3 ≠ n := by omega
  have f4 : n + 3 ≠ a := by omega
  have f5 : n + 4 ≠ n + 1 := by omega
  have f6 : n + 4 ≠ b := by omega
  have f7 : n + 3 ≠ n + 1 := by omega
  have f8 : n + 3 ≠ b := by omega
  have f9 : n ≠ n + 1 := by omega
  have g1 : n ≠ b := by omega
  have g2 : n + 1 ≠ n := by omega
  have g3 : n + 1 ≠ a := by omega
  ⟨e1, e2, e3, e4, List.mem_cons_self .., nin2' f1 f2, nin2' f3 f4, e5, List.mem_cons_self .., nin2' f5 f6, nin2' f7 f8, nin2' f9 g1, nin2' g2 g3⟩
theorem pi_zipM {X : Cx} (t1 t2 : Bool) {e e2 : Expr} {ta : TA} {p pos tpos : Pos} {elts : List Expr} {kk : Nat} (hg : Gl X "zip") (hm : X.mg "zip" = none) (ha : PA X [e, e2] ta)
    (hs : starEach [e, e2] X.env = (false, eval e X.env) :: starEach [e2] X.env := by rfl) (hpl : (backTo pos (starEach [e2] X.env)).any (·.1) = false := by rfl) :
    PI X (.Tuple elts kk tpos) (.Call (.Name "zip" p) [e, e2] [] pos) (iZipM X.K t1 t2 ta) := by
  refine ⟨fun pins s σ H R I h => Call_ (ld_blt I hg hm PyProof.Rows.boot_zip (PyProof.Rows.callWith_type1 (thn (ha.run pos pins s σ H _ I h) fun us s1 ⟨vs, H1, I1, r1, q1⟩ => ?_) hs hpl))⟩
  obtain ⟨a, b, xs, ys, rfl, hqx, hqy, q⟩ := q1
  obtain _ | ⟨r, _ | ⟨r', _ | _⟩⟩ := r1
  cases r
  cases r'
  have beg : ∀ (t : Bool) (c : Addr) (zs : List V), SqB t X.K H1 c zs → ∃ (o : Obj) (Hh : Heap → Prop), Begins (.ref c) o Hh ∧ Hh s1.heap ∧ c < s1.heap.objs.size ∧ ∀ (h' : Heap) (it : Addr), h'.get? it = some o → ItB t h' it c 0 := fun t c zs hq => by
    unfold SqB at hq
    unfold ItB
    cases t with
    | true =>
      obtain ⟨items, _, p, _⟩ := I1.tuple hq
      obtain ⟨o, ho, _⟩ := id p
      exact ⟨_, _, begins_tuple c items.toArray, p, Heap.lt_size ho, fun h' it e => ⟨_, e, rfl, rfl⟩⟩
    | false =>
      obtain ⟨items, _, p, _⟩ := I1.list hq
      exact ⟨_, _, begins_list c items.toArray, p.isList, p.lt, fun h' it e => ⟨_, e, rfl, rfl⟩⟩
  obtain ⟨o1, P1, B1, p1, la, k1⟩ := beg t1 a xs hqx
  obtain ⟨o2, P2, B2, p2, lb, k2⟩ := beg t2 b ys hqy
  refine zip_begins2 B1 B2 p1 p2 fun h' hz hTI hTO g1 g2 hsz hk => wpAny_pyIter_zip hz ?_
  have I2 : Inv X pins σ H1 { s1 with heap := h' } := I1.kept (t' := s1.toks) hk
  refine ⟨s1.heap.objs.size + 4, [s1.heap.objs.size + 4, s1.heap.objs.size + 2, s1.heap.objs.size + 3, s1.heap.objs.size, s1.heap.objs.size + 1], _, _, H1, rfl, I2, turn_zipM (t1 := t1) (t2 := t2) (sepZ la lb) (Nat.ne_of_lt la) (Nat.ne_of_lt (Nat.lt_succ_of_lt lb)), ⟨hz, hTI, ⟨_, _, hTO⟩, k1 _ _ g1, k2 _ _ g2⟩, fun c hcm => ?_, q⟩
  have hle : s1.heap.objs.size ≤ c := by
    have e' : c = s1.heap.objs.size + 4 ∨ c = s1.heap.objs.size + 2 ∨ c = s1.heap.objs.size + 3 ∨ c = s1.heap.objs.size ∨ c = s1.heap.objs.size + 1 := by simpa using hcm
    rcases e' with z | z | z | z | z <;> rw [z]
    · exact Nat.le_add_right _ _
    · exact Nat.le_add_right _ _
    · exact Nat.le_add_right _ _
    · exact Nat.le_refl _
    · exact Nat.le_add_right _ _
  exact I1.fpOk hle (I1.hok.fresh hle)
theorem kPiZipM {X : Cx} {K : PySem.W.Frag} (t1 t2 : Bool) {e e2 : Expr} {ta : TA} {p pos tpos : Pos} {elts : List Expr} {kk : Nat} (h : X.K = K) (hg : Gl X "zip") (hm : X.mg "zip" = none) (ha : PA X [e, e2] ta)
    (hs : starEach [e, e2] X.env = (false, eval e X.env) :: starEach [e2] X.env := by rfl) (hpl : (backTo pos (starEach [e2] X.env)).any (·.1) = false := by rfl) :
    PI X (.Tuple elts kk tpos) (.Call (.Name "zip" p) [e, e2] [] pos) (iZipM K t1 t2 ta) := by subst h; exact pi_zipM t1 t2 hg hm ha hs hpl
theorem walk_zipM {t1 t2 : Bool} {K : PySem.W.Frag} {a b : Addr} {xs ys : List V} {n : Nat} (hx : xs.length = n) (hy : ys.length = n) : Walk (ItM t1 t2 K a b) n (fun H => SqB t1 K H a xs ∧ SqB t2 K H b ys) (YPair (fun i => xs[i]?) (fun i => ys[i]?)) := by
  refine ⟨fun i H hi q => ⟨xs, ys, q.1, q.2, by omega, by omega⟩, fun H q => ⟨xs, ys, q.1, q.2, by omega, by omega, .inl hx.symm⟩, fun i H v H' hi q y => ?_⟩
  obtain ⟨T, x, y, h1, h2, h3, h4, h5⟩ := y
  exact ⟨T, x, y, h1, h2, h3, h4 xs q.1, h5 ys q.2⟩
theorem wipe_in {σ : L2.St} {j : Nat} : ∀ {vs : List Nat}, j ∈ vs → j < σ.length → (wipe σ vs)[j]? = some none
  | v :: vs, h, hl => by
    show ((wipe σ vs).set v none)[j]? = some none
    by_cases e : v = j
    · subst e
      rw [List.getElem?_set_self (by rw [wipe_length]; exact hl)]
    · rw [List.getElem?_set_ne e]
      exact wipe_in ((List.mem_cons.mp h).resolve_left fun z => e z.symm) hl
/-- what stands in a slot that is wiped does not matter -/
theorem wipe_set {σ : L2.St} {i : Nat} {x : Option V} {vs : List Nat} (h : i ∈ vs) : wipe (σ.set i x) vs = wipe σ vs := by
  refine List.ext_getElem? fun j => ?_
  by_cases hl : j < σ.length
  · by_cases hj : j ∈ vs
    · rw [wipe_in hj (by rw [List.length_set]; exact hl), wipe_in hj hl]
    · rw [wipe_out hj, wipe_out hj, List.getElem?_set_ne (fun z => hj (by rw [← z]; exact h))]
  · rw [List.getElem?_eq_none (by rw [wipe_length, List.length_set]; omega), List.getElem?_eq_none (by rw [wipe_length]; omega)]
theorem wipe_wipe {σ : L2.St} {vs : List Nat} : wipe (wipe σ vs) vs = wipe σ vs := by
  refine List.ext_getElem? fun j => ?_
  by_cases hl : j < σ.length
  · by_cases hj : j ∈ vs
    · rw [wipe_in hj (by rw [wipe_length]; exact hl), wipe_in hj hl]
    · rw [wipe_out hj, wipe_out hj]
  · rw [List.getElem?_eq_none (by rw [wipe_length, wipe_length]; omega), List.getElem?_eq_none (by rw [wipe_length]; omega)]
end G
namespace G
open PySem PySem.Spec PyProof.Rows L2 Evl TL
structure TxtM (mg : Str → Option Value) : Prop where
  len : mg "len" = none
  list : mg "list" = none
  tuple : mg "tuple" = none
  enumerate : mg "enumerate" = none
  sum : mg "sum" = none
  zip : mg "zip" = none
section
variable {P : Program} {w : World} {K : PySem.W.Frag} {mg : Str → Option Value} {base : Heap}
def spSources : Sp := fun vs H Q _ => ∃ (c : Addr) (d : CircD) (it gt rt ot : Addr) (ga ra oa : List Addr), vs = [.ref c] ∧ CircAt H c d it gt rt ot ga ra oa ∧ (srcs d).length ≤ 100 ∧ ∀ (l : Addr) (H' : Hp), H l = none → Ex H H' → H' l = some (.lst ((srcs d).map V.str)) → Q (.ref l) H'
theorem sc_sources : FnScope ["circuit", "reg"] ["circuit"] (defScope s_sources) := ⟨rfl, rfl, rfl, by decide +kernel, rfl, by decide +kernel, by decide +kernel⟩
theorem ok_sources (D : Dfd K mg "sources" s_sources ["circuit"]) (T : TxtM mg) : Has P w K mg base 1 "sources" ["circuit"] spSources := by
  refine D.has fun f fd F => F.ok sc_sources (fun vs H Q E h => ?_) (fun cdv A outer s H vs Q E hr h => ?_)
  · obtain ⟨c, d, it, gt, rt, ot, ga, ra, oa, rfl, _⟩ := h
    rfl
  · obtain ⟨c, d, it, gt, rt, ot, ga, ra, oa, rfl, hc, hn, q⟩ := h
    have hlen : d.ins.length + d.regs.length ≤ 100 := by
      unfold srcs at hn
      rw [List.length_append, List.length_map] at hn
      exact hn
    refine ⟨_, (pss_one (ps_ret (pe_op op_cat (pe_callTy call_list_of (by rfl) T.list (by decide +kernel) (pa_cons (pe_ix ix_tup (pv 0) pe_int (fun _ _ => rfl)) pa_nil)) (pe_lc (own := [("reg", 1)]) (g := gName 1) (tt := tYes) rfl sc_sources.nd (pi_tup (pe_ix ix_tup (pv 0) pe_int (fun _ _ => rfl))) (blkOk_by (N := ["circuit", "reg"]) (sc := defScope s_sources) (own := [("reg", 1)]) (by decide +kernel)) (fun _ _ _ _ _ => (pg_name (i := 1) sc_sources.nd rfl (.inl rfl))) (fun _ _ _ _ _ => pts_nil) (fun _ _ _ _ _ => (pe_ix (kIxT (K := K) rfl) (pv 1) pe_int (fun _ _ => rfl))))))), ?_⟩
    refine ⟨_, rfl, _, _, _, _, rfl, rfl, SqT.of hc.top, atI_nat (j := 0) rfl, _, _, rfl, .inr (SqT.of hc.ins), fun l1 n1 => ?_⟩
    have E1 : Ex H (upd H l1 (.lst (d.ins.map V.str))) := Ex.new n1
    have h1 : upd H l1 (.lst (d.ins.map V.str)) l1 = some (.lst (d.ins.map V.str)) := upd_same
    generalize upd H l1 (.lst (d.ins.map V.str)) = H1 at *
    have hc1 := hc.te (.of E1)
    refine ⟨_, rfl, _, _, _, _, rfl, rfl, SqT.of hc1.top, atI_nat (j := 2) rfl, rt, rfl, ⟨_, SqT.of hc1.rgs⟩, fun L2 nL2 => wk_tup (K := K) (a := rt) (xs := ra.map V.ref) (fun j H' => Ex H1 H' ∧ H' L2 = some (.lst (((d.regs.map (·.name)).take j).map V.str))) ⟨Ex.new nL2, by rw [upd_same]; rfl⟩ (fun j H' _ g => SqT.of (g.1 _ _ hc1.rgs)) ?_ ?_⟩
    · rintro j x H2 hx ⟨E2, hL⟩
      obtain ⟨b, hb, rfl⟩ := refs_get hx
      obtain ⟨g, hg, ea, oa', hgt, _⟩ := hc1.regs.at_ hb
      have hj : j < d.regs.length := (List.getElem?_eq_some_iff.mp hg).1
      refine ⟨rfl, tYes_in ⟨_, rfl, _, _, _, _, rfl, rfl, SqT.of (E2 _ _ hgt), atI_nat (j := 0) rfl, _, hL, sz_lt (by rw [List.length_map, List.length_take]; omega), E2.mut nL2, ?_⟩⟩
      rw [upd_same, List.take_add_one, List.getElem?_map, hg, List.map_append]; rfl
    rintro H2 ⟨E2, hL⟩
    rw [List.length_map, hc1.regs.1, ← List.length_map (f := fun g : RegD => g.name), List.take_length] at hL
    refine ⟨l1, L2, _, _, rfl, rfl, E2 _ _ h1, hL, sz_of (by rw [List.length_map, List.length_map, List.length_map]; omega), fun l3 n3 => ?_⟩
    rw [← List.map_append]
    exact q l3 _ (fresh_back (E1.trans E2) n3) ((E1.trans E2).trans (Ex.new n3)) upd_same
theorem place_step {ns : List Str} {j : Nat} {n : Str} (nd : ns.Nodup) (hn : ns[j]? = some n) (x : Str) (f : Option V) (hf : f = if x ∈ ns.take j then some (.int (((ns.take j).idxOf x : Nat) : Int)) else none) :
    (if (Sum.inr x : Key) = Sum.inr n then some (V.int (j : Nat)) else f) = if x ∈ ns.take (j + 1) then some (.int (((ns.take (j + 1)).idxOf x : Nat) : Int)) else none := by
  have hj := (List.getElem?_eq_some_iff.mp hn).1
  have hno : n ∉ ns.take j := fun z => by
    obtain ⟨i, hi, e⟩ := List.getElem_of_mem z
    rw [List.length_take] at hi
    rw [List.getElem_take] at e
    obtain ⟨h1, h2⟩ := List.getElem?_eq_some_iff.mp hn
    have := (List.getElem_inj nd).mp (e.trans h2.symm)
    omega
  rw [take_snoc1 hn, List.idxOf_append]
  by_cases e : x = n
  · subst e
    rw [if_pos rfl, if_pos (List.mem_append_right _ (List.mem_singleton.mpr rfl)), if_neg hno, List.length_take, Nat.min_eq_left (Nat.le_of_lt hj)]
    have : [x].idxOf x = 0 := by simp
    rw [this, Nat.zero_add]
  · rw [if_neg fun z => e (Sum.inr.inj z), hf]
    by_cases h : x ∈ ns.take j
    · rw [if_pos h, if_pos (List.mem_append_left _ h), if_pos h]
    · rw [if_neg h, if_neg fun z => (List.mem_append.mp z).elim h fun y => e (List.mem_singleton.mp y)]
def spGates : Sp := fun vs H Q _ => ∃ (gt : Addr) (d : CircD) (ga : List Addr), vs = [.ref gt] ∧ H gt = some (.tup (ga.map V.ref)) ∧ All2 (GateAt H) ga d.gates ∧ Nets d ∧ ∀ (q : Addr) (na : List Addr) (H' : Hp), Ex H H' → H' q = some (.lst (na.map V.ref)) → All2 (fun b l => H' b = some (.lst (natsV l))) na (needN d) → Q (.ref q) H'
theorem sc_gates_read : FnScope ["gates", "places", "g", "gate", "net"] ["gates"] (defScope s_gates_read) := ⟨rfl, rfl, rfl, by decide +kernel, rfl, by decide +kernel, by decide +kernel⟩
theorem ok_gates_read (D : Dfd K mg "_gates_read" s_gates_read ["gates"]) (T : TxtM mg) : Has P w K mg base 1 "_gates_read" ["gates"] spGates := by
  refine D.has fun f fd F => F.ok sc_gates_read (fun vs H Q E h => ?_) (fun cdv A outer s H vs Q E hr h => ?_)
  · obtain ⟨gt, d, ga, rfl, _⟩ := h
    rfl
  · obtain ⟨gt, d, ga, rfl, hg, hA, hN, q⟩ := h
    refine ⟨_, (pss_cons (ps_set (i := 1) sc_gates_read.nd rfl (.inr rfl) (pe_dc (own := [("g", 2), ("gate", 3)]) (g := gTup K 2 (gCons (gName 2) (gCons (gName 3) gNil))) (tt := tYes) rfl sc_gates_read.nd (pi_enumT (by rfl) T.enumerate (pa_cons (pv 0) pa_nil)) (blkOk_by (N := ["gates", "places", "g", "gate", "net"]) (sc := defScope s_gates_read) (own := [("g", 2), ("gate", 3)]) (by decide +kernel)) (fun _ _ _ _ _ => (pg_tup rfl (pgs_cons (pg_name (i := 2) sc_gates_read.nd rfl (.inl rfl)) (pgs_cons (pg_name (i := 3) sc_gates_read.nd rfl (.inl rfl)) pgs_nil)))) (fun _ _ _ _ _ => pts_nil) (fun _ _ _ _ _ => (pe_ix (kIxT (K := K) rfl) (pv 3) pe_int (fun _ _ => rfl))) (fun _ _ _ _ _ => (pv 2))))
    (pss_one (ps_ret (pe_lc (own := [("gate", 3)]) (g := gName 3) (tt := tYes) rfl sc_gates_read.nd (pi_tup (pv 0)) (blkOk_by (N := ["gates", "places", "g", "gate", "net"]) (sc := defScope s_gates_read) (own := [("gate", 3)]) (by decide +kernel)) (fun _ _ _ _ _ => (pg_name (i := 3) sc_gates_read.nd rfl (.inl rfl))) (fun _ _ _ _ _ => pts_nil) (fun _ _ _ _ _ => (pe_lc (own := [("net", 4)]) (g := gName 4) (tt := _) rfl sc_gates_read.nd (kPiT (K := K) rfl (pe_ix (kIxT (K := K) rfl) (pv 3) pe_int (fun _ _ => rfl))) (blkOk_by (own := [("net", 4)]) (by kernel_rfl)) (fun _ _ _ _ _ => (pg_name (i := 4) sc_gates_read.nd rfl (.inl rfl))) (fun _ _ _ _ _ => pts_one (pt_cmp (pc_din (hu_of hr) (pv 4) (pv 1)))) (fun _ _ _ _ _ => (pe_dget (hu_of hr) (pv 1) (pv 4) (fun _ _ => rfl))))))))), ?_⟩
    have hgl : (ga.map V.ref).length = d.gates.length := by rw [List.length_map, hA.1]
    have hnl : (gnames d).length = d.gates.length := List.length_map _
    have hfew := hN.few
    have ndg : (gnames d).Nodup := (List.nodup_append.mp hN.nd).2.1
    have hname : ∀ (k : Nat) (g : GateD), d.gates[k]? = some g → (gnames d)[k]? = some g.name := fun k g hk => by unfold gnames; rw [List.getElem?_map, hk]; rfl
    -- where each stands
    refine ⟨_, rfl, gt, _, rfl, SqT.of hg, fun Dc nDc => wk_it walk_enumT (fun j H' => Ex H H' ∧ ∃ es : List (Key × V), H' Dc = some (.dK es) ∧ es.length ≤ j ∧ ∀ x : Str, valV es (.inr x) = if x ∈ (gnames d).take j then some (.int ((((gnames d).take j).idxOf x : Nat) : Int)) else none)
      ⟨Ex.new nDc, [], upd_same, Nat.le_refl _, fun x => by rw [List.take_zero]; rfl⟩ (fun j H' _ g => SqT.of (g.1 _ _ hg)) ?_ ?_⟩
    · rintro j x H1 H2 hj ⟨E1, es, hD, hel, hk⟩ ⟨T1, x0, y0, rfl, nT, rfl, hx0, hy0⟩
      rw [hgl] at hj
      cases hx0
      obtain ⟨b, hb, rfl⟩ := refs_get hy0
      obtain ⟨g, hgg, t, pt, rt, rla, hgt, _⟩ := hA.at_ hb
      have E2 : Ex H1 (upd H1 T1 (.tup [.int (j : Nat), .ref b])) := Ex.new nT
      refine ⟨T1, _, rfl, SqT.of upd_same, rfl, _, _, rfl, _, _, rfl, rfl, rfl, tYes_in ?_⟩
      simp only [wipe, _root_.L2.start, List.map_cons, List.map_nil, List.length_cons, List.length_nil, Nat.reduceAdd, Nat.reduceSub, List.replicate_succ, List.replicate_zero, List.cons_append, List.nil_append, List.set_cons_zero, List.set_cons_succ]
      have hD2 := E2 _ _ hD
      generalize upd H1 T1 (.tup [.int (j : Nat), .ref b]) = H2 at *
      refine ⟨_, rfl, _, _, _, _, rfl, rfl, SqT.of ((E1.trans E2) _ _ hgt), atI_nat (j := 0) rfl, _, rfl, es, .inr g.name, rfl, hD2, sz_lt (by omega), (E1.trans E2).mut nDc, _, upd_same, Nat.le_trans (length_putK _ _ _) (Nat.succ_le_succ hel), fun x => ?_⟩
      rw [valV_put]
      exact place_step ndg (hname j g hgg) x _ (hk x)
    rintro H1 ⟨E1, es, hD, hel, hk⟩
    rw [hgl, ← hnl, List.take_length] at hk
    have hneed : ∀ (k : Nat) (g : GateD), d.gates[k]? = some g → (needN d)[k]? = some ((g.pins.filter fun x => decide (x ∈ gnames d)).map fun x => (gnames d).idxOf x) := fun k g hk => by unfold needN; rw [List.getElem?_map, hk]; rfl
    have hg1 := E1 _ _ hg
    refine ⟨_, rfl, gt, rfl, ⟨_, SqT.of hg1⟩, fun L nL => wk_tup (K := K) (a := gt) (xs := ga.map V.ref) (fun j H' => Ex H1 H' ∧ ∃ na : List Addr, H' L = some (.lst (na.map V.ref)) ∧ All2 (fun b l => hid L H' b = some (.lst (natsV l))) na ((needN d).take j)) ⟨Ex.new nL, [], upd_same, .nil⟩ (fun j H' _ z => SqT.of (z.1 _ _ hg1)) ?_ ?_⟩
    · rintro j y H2 hy ⟨E2, na, hL, hna⟩
      obtain ⟨b, hb, rfl⟩ := refs_get hy
      obtain ⟨g, hgg, t, pt, rt, rla, hgt, _, hgp, _⟩ := hA.at_ hb
      have hj : j < d.gates.length := (List.getElem?_eq_some_iff.mp hgg).1
      have hp3 := hN.fewp g (List.mem_of_getElem? hgg)
      have E02 := E1.trans E2
      refine ⟨rfl, tYes_in ?_⟩
      simp only [wipe, _root_.L2.start, List.map_cons, List.map_nil, List.length_cons, List.length_nil, Nat.reduceAdd, Nat.reduceSub, List.replicate_succ, List.replicate_zero, List.cons_append, List.nil_append, List.set_cons_zero, List.set_cons_succ]
      refine ⟨_, rfl, _, _, _, _, rfl, rfl, SqT.of (E02 _ _ hgt), atI_nat (j := 2) rfl, pt, rfl, ⟨_, SqT.of (E02 _ _ hgp)⟩, fun L2 nL2 => wk_tup (K := K) (a := pt) (xs := g.pins.map V.str) (fun i H' => Ex H2 H' ∧ H' L2 = some (.lst (natsV (((g.pins.take i).filter fun x => decide (x ∈ gnames d)).map fun x => (gnames d).idxOf x)))) ⟨Ex.new nL2, upd_same⟩ (fun i H' _ z => SqT.of ((E02.trans z.1) _ _ hgp)) ?_ ?_⟩
      · rintro i y H3 hy ⟨E3, hL2⟩
        obtain ⟨p, hp, rfl⟩ : ∃ p, g.pins[i]? = some p ∧ y = .str p := by
          rw [List.getElem?_map] at hy
          cases e : g.pins[i]? with
          | none => rw [e] at hy; cases hy
          | some p => rw [e] at hy; cases hy; exact ⟨p, rfl, rfl⟩
        have hD3 := (E2.trans E3) _ _ hD
        have hfl : (((g.pins.take i).filter fun x => decide (x ∈ gnames d)).map fun x => (gnames d).idxOf x).length ≤ 3 := by
          rw [List.length_map]
          have h1 := List.length_filter_le (fun x => decide (x ∈ gnames d)) (g.pins.take i)
          rw [List.length_take] at h1
          omega
        refine ⟨rfl, ?_⟩
        simp only [wipe, _root_.L2.start, List.map_cons, List.map_nil, List.length_cons, List.length_nil, Nat.reduceAdd, Nat.reduceSub, List.replicate_succ, List.replicate_zero, List.cons_append, List.nil_append, List.set_cons_zero, List.set_cons_succ]
        refine ⟨_, rfl, _, rfl, Dc, _, rfl, DGet.k (k := Sum.inr p) hD3, _, rfl, ?_⟩
        rw [hk]
        by_cases hin : p ∈ gnames d
        · rw [if_pos hin]
          have hg2 : DGet H3 Dc (kV (Sum.inr p)) (some (.int (((gnames d).idxOf p : Nat) : Int))) := by
            have := DGet.k (k := Sum.inr p) hD3
            rw [hk, if_pos hin] at this
            exact this
          refine iteT ⟨_, rfl, _, rfl, Dc, _, rfl, hg2, _, hL2, sz_lt (by rw [nats_len]; omega), E3.mut nL2, ?_⟩
          rw [upd_same, take_snoc1 hp, List.filter_append, List.map_append, ← nats_snoc]
          rw [List.filter_cons, decide_eq_true hin, if_pos rfl]; rfl
        · rw [if_neg hin]
          refine iteF ⟨E3, ?_⟩
          rw [hL2, take_snoc1 hp, List.filter_append, List.map_append, List.filter_cons, decide_eq_false hin, if_neg Bool.false_ne_true, List.filter_nil, List.map_nil, List.append_nil]
      rintro H3 ⟨E3, hL2⟩
      rw [List.length_map, List.take_length] at hL2
      have hL3 := E3 _ _ hL
      have n2L : L2 ≠ L := (ne_of_none hL nL2).symm
      refine ⟨_, hL3, sz_lt (by rw [List.length_map, hna.1, List.length_take]; unfold needN; rw [List.length_map]; omega), (E2.trans E3).mut nL, na ++ [L2], by rw [upd_same, List.map_append]; rfl, ?_⟩
      rw [hid_upd, take_snoc1 (hneed j g hgg)]
      exact (hna.imp fun _ _ z => by rw [hid_ne (hid_neq z)]; exact E3 _ _ (hid_get z)).snoc (by rw [hid_ne n2L]; exact hL2)
    rintro H2 ⟨E2, na, hL, hna⟩
    have hnd : (needN d).length = d.gates.length := by unfold needN; rw [List.length_map]
    rw [hgl, ← hnd, List.take_length] at hna
    exact q L na H2 (E1.trans E2) hL (hna.imp fun _ _ z => hid_get z)
def spOrder : Sp := fun vs H Q _ => ∃ (c : Addr) (d : CircD) (it gt rt ot : Addr) (ga ra oa : List Addr), vs = [.ref c] ∧ CircAt H c d it gt rt ot ga ra oa ∧ Nets d ∧ ∀ (q : Addr) (H' : Hp) (ord : List Nat), Ex H H' → H q = none → H' q = some (.lst (natsV ord)) → Topo (needN d) ord → Q (.ref q) H'
theorem sc_gate_order : FnScope ["circuit"] ["circuit"] (defScope s_gate_order) := ⟨rfl, rfl, rfl, by decide +kernel, rfl, by decide +kernel, by decide +kernel⟩
theorem ok_gate_order (D : Dfd K mg "gate_order" s_gate_order ["circuit"]) (C1 : Has P w K mg base 1 "least_order" ["needed"] spLeast) (C2 : Has P w K mg base 1 "_gates_read" ["gates"] spGates) : Has P w K mg base 2 "gate_order" ["circuit"] spOrder := by
  obtain ⟨f_least_order, d_least_order, G_least_order, g_least_order, k_least_order, b_least_order⟩ := C1
  obtain ⟨f_gates_read, d_gates_read, G_gates_read, g_gates_read, k_gates_read, b_gates_read⟩ := C2
  refine D.has fun f fd F => F.ok sc_gate_order (fun vs H Q E h => ?_) (fun cdv A outer s H vs Q E hr h => ?_)
  · obtain ⟨c, d, it, gt, rt, ot, ga, ra, oa, rfl, _⟩ := h
    rfl
  · obtain ⟨c, d, it, gt, rt, ot, ga, ra, oa, rfl, hc, hN, q⟩ := h
    refine ⟨_, (pss_one (ps_ret (pe_call G_least_order (hr.mono (by omega)) (by rfl) g_least_order k_least_order b_least_order .nil pass0 (pa_cons (pe_call G_gates_read (hr.mono (by omega)) (by rfl) g_gates_read k_gates_read b_gates_read .nil pass0 (pa_cons (pe_ix ix_tup (pv 0) pe_int (fun _ _ => rfl)) pa_nil)) pa_nil)))), ?_⟩
    obtain ⟨rank, hrk⟩ := need_rank hN
    have hfew := hN.few
    refine ⟨_, rfl, _, _, _, _, rfl, rfl, SqT.of hc.top, atI_nat (j := 1) rfl, gt, d, ga, rfl, hc.gts, hc.gates, hN, fun q1 na H1 E1 hq1 hna => ?_⟩
    refine ⟨q1, na, needN d, rank, rfl, hq1, hna, by unfold needN; rw [List.length_map]; omega, fun k => ?_, hrk, fun q2 H2 ord E2 nq hq2 ht => q q2 H2 ord (E1.trans E2) ?_ hq2 ht⟩
    · unfold needN
      rw [List.getD_eq_getElem?_getD, List.getElem?_map]
      cases e : d.gates[k]? with
      | none => exact Nat.zero_le _
      | some g =>
        show ((g.pins.filter _).map _).length ≤ 100
        rw [List.length_map]
        have h1 := List.length_filter_le (fun x => decide (x ∈ gnames d)) g.pins
        have h2 := hN.fewp g (List.mem_of_getElem? e)
        omega
    · exact fresh_back E1 nq
/-- what a dict of texts says of the nets -/
structure HoldsV (es : List (Key × V)) (ns : List Str) (v : Str → V) : Prop where
  val : ∀ x : Str, valV es (.inr x) = if x ∈ ns then some (v x) else none
  keys : ∃ ks : List Str, es.map (·.1) = ks.map Sum.inr ∧ ks.Nodup ∧ ∀ x, x ∈ ks ↔ x ∈ ns
theorem HoldsV.nil {v : Str → V} : HoldsV [] [] v := ⟨fun _ => rfl, [], rfl, List.nodup_nil, fun _ => Iff.rfl⟩
theorem HoldsV.congr {es : List (Key × V)} {ns ns' : List Str} {v : Str → V} (h : HoldsV es ns v) (e : ∀ x, x ∈ ns ↔ x ∈ ns') : HoldsV es ns' v := by
  obtain ⟨ks, k1, k2, k3⟩ := h.keys
  refine ⟨fun x => ?_, ks, k1, k2, fun x => (k3 x).trans (e x)⟩
  rw [h.val x]
  by_cases h1 : x ∈ ns
  · rw [if_pos h1, if_pos ((e x).mp h1)]
  · rw [if_neg h1, if_neg fun z => h1 ((e x).mpr z)]
theorem HoldsV.put {es : List (Key × V)} {ns : List Str} {v : Str → V} (h : HoldsV es ns v) (n : Str) (y : V) : HoldsV (putK es (.inr n) y) (ns ++ [n]) (fun x => if x = n then y else v x) := by
  refine ⟨fun x => ?_, ?_⟩
  · rw [valV_put]
    by_cases e : x = n
    · subst e
      rw [if_pos rfl, if_pos (List.mem_append_right _ (List.mem_singleton.mpr rfl)), if_pos rfl]
    · rw [if_neg fun z => e (Sum.inr.inj z), h.val x, if_neg e]
      by_cases h1 : x ∈ ns
      · rw [if_pos h1, if_pos (List.mem_append_left _ h1)]
      · rw [if_neg h1, if_neg fun z => (List.mem_append.mp z).elim h1 fun y => e (List.mem_singleton.mp y)]
  · obtain ⟨ks, k1, k2, k3⟩ := h.keys
    by_cases hn : n ∈ ns
    · refine ⟨ks, ?_, k2, fun x => (k3 x).trans ?_⟩
      · rw [← k1]
        unfold putK
        have ha : (es.any fun kv => decide (kv.1 = .inr n)) = true := by
          have : (Sum.inr n : Key) ∈ es.map (·.1) := by rw [k1]; exact List.mem_map.mpr ⟨n, (k3 n).mpr hn, rfl⟩
          obtain ⟨kv, hkv, e⟩ := List.mem_map.mp this
          exact List.any_eq_true.mpr ⟨kv, hkv, decide_eq_true e⟩
        rw [if_pos ha, List.map_map]
        refine List.map_congr_left fun kv _ => ?_
        show (if kv.1 = .inr n then (kv.1, y) else kv).1 = kv.1
        by_cases z : kv.1 = .inr n
        · rw [if_pos z]
        · rw [if_neg z]
      · rw [List.mem_append]
        exact ⟨.inl, fun z => z.elim id fun w => by rw [List.mem_singleton.mp w]; exact hn⟩
    · have hv : valV es (.inr n) = none := by rw [h.val n, if_neg hn]
      refine ⟨ks ++ [n], ?_, ?_, fun x => ?_⟩
      · rw [putK_new _ hv, List.map_append, List.map_append, k1]; rfl
      · exact List.nodup_append.mpr ⟨k2, by simp, fun a ha b hb => fun z => hn ((k3 n).mp (by rw [← List.mem_singleton.mp hb, ← z]; exact ha))⟩
      · rw [List.mem_append, List.mem_append, k3 x]
abbrev Holds (es : List (Key × V)) (ns : List Str) (val : Str → Bool) : Prop := HoldsV es ns fun x => .bl (val x)
theorem Holds.put {es : List (Key × V)} {ns : List Str} {val : Str → Bool} (h : Holds es ns val) (n : Str) : Holds (putK es (.inr n) (.bl (val n))) (ns ++ [n]) val := by
  have := HoldsV.put h n (.bl (val n))
  have e : (fun x => if x = n then V.bl (val n) else .bl (val x)) = fun x => .bl (val x) := by
    funext x
    by_cases z : x = n
    · rw [if_pos z, z]
    · rw [if_neg z]
  rw [e] at this
  exact this
theorem HoldsV.at_ {es : List (Key × V)} {ns : List Str} {v : Str → V} {H : Hp} {Dc : Addr} (h : HoldsV es ns v) (hD : H Dc = some (.dK es)) {x : Str} (hx : x ∈ ns) : DGet H Dc (kV (Sum.inr x)) (some (v x)) := by
  have := DGet.k (k := Sum.inr x) hD
  rw [h.val x, if_pos hx] at this
  exact this
def doneN (d : CircD) (ord : List Nat) : List Str := ord.map fun k => (gnames d).getD k (nm "g" 0)
end
end G
namespace G
open PySem PySem.Spec PyProof.Rows L2 Evl
/-! ## methods of built-in types within a suite: the written part by its letter -/
theorem kBm {X : Cx} {K : PySem.W.Frag} {T name id : String} {r : V → List V → Hp → VK → Prop} {o e : Expr} {es : List Expr} {to_ : TE} {t : TA} {apos cpos : Pos} (h : X.K = K) (p1 : PlainAttrs T) (p2 : Slot T name id) (p3 : typeOf (.builtin id) = pure (.type "method_descriptor")) (p4 : MtR X id r) (p5 : PE X o to_) (p6 : PA X (e :: es) t)
    (p7 : attributeBase o name X.env (eval o X.env) = eval o X.env := by rfl) (p8 : ((backTo cpos (starEach (e :: es) X.env)).all (fun x => !x.1) && (backToKw cpos (keywordEach [] X.env)).all (fun x => x.1.isSome) && decide ((e :: es).length + ([] : List Keyword).length + (if ([] : List Keyword).isEmpty then 0 else 1) < 30)) = true := by rfl)
    (p9 : (apos.endLine == cpos.line) = true := by rfl) (p10 : starEach (e :: es) X.env = (false, eval e X.env) :: starEach es X.env := by rfl) (p11 : (backTo cpos (starEach es X.env)).any (·.1) = false := by rfl) : PE X (.Call (.Attribute o name apos) (e :: es) [] cpos) (tBM K T r to_ t) := by
  subst h
  exact pe_bm p1 p2 p3 p4 p5 p6 p7 p8 p9 p10 p11
theorem kMtIndex {X : Cx} {K : PySem.W.Frag} (h : X.K = K) : MtR X "list.index" (rIndex K) := by subst h; exact mt_index
end G
namespace G
open PySem PySem.Spec PyProof.Rows L2 Evl
/-! ## own classes of errors -/
def HasX (P : Program) (w : World) (K : PySem.W.Frag) (mg : Str → Option Value) (base : Heap) (k : Nat) (x : Str) (ps : List Str) (sp : Sp) : Prop :=
  ∃ (f : Addr) (fd : FuncData), FnOk P w K mg base (L2.CX P w) k f fd ps sp ∧ mg x = some (.ref f) ∧ PySem.W.keepIn K (.ref f) = true ∧ Binds K fd ps []
theorem passX0 {X : Cx} {P : Program} {w : World} : Passes (L2.CX P w) X (fun _ _ _ => False) := fun _ _ _ _ _ _ _ h => by
  obtain ⟨_, _, _, _, _, _, _, _, _, _, _, _, h⟩ := h
  exact h.elim
/-- an own class over ValueError without __init__, at C -/
structure ExcT (K : PySem.W.Frag) (mg : Str → Option Value) (x : Str) (C : Addr) : Prop where
  gC : mg x = some (.ref C)
  xP : PySem.W.excIn K C [.type "ValueError", .type "Exception", .type "BaseException", .type "object"] "ValueError.__new__" = true
  kC : PySem.W.keepIn K (.ref C) = true
  bC : PySem.W.subIn K (.ref C) (.type "BaseException") = some true
  tC : PySem.W.typeIn K (.ref C) = some (.type "type")
/-- what an except clause asks of the class that it names -/
structure ExcH (K : PySem.W.Frag) (mg : Str → Option Value) (x : Str) (C : Addr) : Prop where
  u : ExcT K mg x C
  dict : PySem.W.hasDictIn K C = true
  self : PySem.W.subIn K (.ref C) (.ref C) = some true
theorem ExcH.hit {K : PySem.W.Frag} {mg : Str → Option Value} {x : Str} {C : Addr} (U : ExcH K mg x C) : PySem.W.exmOne K (.ref C) (.ref C) = some true := PySem.W.exm_ref U.u.bC U.dict U.u.tC U.self
end G
namespace G
open PySem PySem.Spec PyProof.Rows L2 Evl
/-! ## own errors: caught by name or by a class above, asked for their class -/
structure ExcI (K : PySem.W.Frag) (mg : Str → Option Value) (x : Str) (C : Addr) : Prop where
  u : ExcT K mg x C
  dict : PySem.W.hasDictIn K C = true
  self : PySem.W.subIn K (.ref C) (.ref C) = some true
  isc : ExcC K C
def IsK (K : PySem.W.Frag) (mg : Str → Option Value) (C : Addr) (d : Str) (b : Bool) : Prop := ∃ D : Addr, mg d = some (.ref D) ∧ PySem.W.kitOne K (.ref C) (.ref D) = some b
def CatchK (K : PySem.W.Frag) (mg : Str → Option Value) (C : Addr) (s : Str) : Prop := ∃ D : Addr, mg s = some (.ref D) ∧ PySem.W.exmOne K (.ref C) (.ref D) = some true
theorem ExcI.hit {K : PySem.W.Frag} {mg : Str → Option Value} {x : Str} {C : Addr} (U : ExcI K mg x C) : PySem.W.exmOne K (.ref C) (.ref C) = some true := PySem.W.exm_ref U.u.bC U.dict U.u.tC U.self
theorem IsK.at_ {K : PySem.W.Frag} {mg : Str → Option Value} {C D : Addr} {d : Str} {b : Bool} (h : IsK K mg C d b) (g : mg d = some (.ref D)) : PySem.W.kitOne K (.ref C) (.ref D) = some b := by
  obtain ⟨D', g', k⟩ := h
  rw [g] at g'
  cases g'; exact k
theorem CatchK.at_ {K : PySem.W.Frag} {mg : Str → Option Value} {C D : Addr} {s : Str} (h : CatchK K mg C s) (g : mg s = some (.ref D)) : PySem.W.exmOne K (.ref C) (.ref D) = some true := by
  obtain ⟨D', g', k⟩ := h
  rw [g] at g'
  cases g'; exact k
theorem pe_ex {X : Cx} {e : Expr} {α : Type} {p : α → Prop} {t : α → TE} (h : ∀ x, p x → PE X e (t x)) : PE X e (fun σ H Q => ∃ x, p x ∧ t x σ H Q) := by
  refine ⟨fun ps s σ H Q I z => ?_⟩
  obtain ⟨x, px, hx⟩ := z
  exact (h x px).run ps s σ H Q I hx
/-- isinstance of the error that the suite holds: whichever own error it is -/
theorem pe_isE {X : Cx} {a : Addr} {oe : Obj} {pn : List (Addr × Obj)} {cls : Value} {dd : Option Addr} {e : Expr} {t : Addr → TE} (hz : Zc cls dd oe) (hf : ∃ vs, oe.data = .fields vs)
    (h : ∀ D : Addr, Zc (.ref D) none oe → ExcC X.K D → PE (X.suite a ((a, oe) :: pn)) e (t D)) : PE (X.suite a ((a, oe) :: pn)) e (fun σ H Q => ∃ D : Addr, (cls = .ref D ∧ dd = none ∧ ExcC X.K D) ∧ t D σ H Q) :=
  pe_ex (p := fun D => cls = .ref D ∧ dd = none ∧ ExcC X.K D) fun D z => by
    obtain ⟨rfl, rfl, ic⟩ := z
    exact h D hz ic
/-! ## methods and classes called where what is raised is taken at the slots -/
section
variable {X : Cx} {CX : CXT} {k : Nat} {f C : Addr} {fd : FuncData} {ps : List Str} {sp : Sp} {dvs : List V} {ds : List Value} {E : L2.St → XK} {x m : Str} {p pos apos : Pos} {e o : Expr} {es : List Expr} {to_ : TE} {t : TA}
def tMethX (C : Addr) (m : Str) (sp : Sp) (dvs : List V) (E : L2.St → XK) (to_ : TE) (t : TA) : TE := fun σ H Q => to_ σ H fun x H1 => ∃ a dx fs, x = .ref a ∧ H1 a = some (.ins C dx fs) ∧ fs.lookup m = none ∧ t σ H1 fun vs H2 => sp (x :: (vs ++ dvs)) H2 Q (E σ)
def tMakeX (C : Addr) (sp : Sp) (dvs : List V) (E : L2.St → XK) (t : TA) : TE := fun σ H Q => t σ H fun vs H1 => ∀ x dx, H1 x = none → H1 dx = none → dx ≠ x → sp (.ref x :: (vs ++ dvs)) (upd (upd H1 dx (.own x)) x (.ins C dx [])) (fun v H2 => v = .non ∧ Q (.ref x) H2) (E σ)
theorem pe_methX {pl : Sem Bool} (ho : PE X o to_) (cc : Cls X.K C) (mm : Meth X.K C m f) (Fk : FnOk X.prog X.w X.K X.mg X.base CX k f fd ps sp) (rm : Room k X.A) (bd : Binds X.K fd ps ds) (dv : Vals dvs ds)
    (px : ∀ σ, PassesAt CX X σ (E σ)) (pa : PA X (e :: es) t) (s1 : starEach (e :: es) X.env = (false, eval e X.env) :: starEach es X.env := by rfl) (s2 : (backTo pos (starEach es X.env)).any (·.1) = false := by rfl)
    (s3 : eval (.Call (.Attribute o m apos) (e :: es) [] pos) X.env = (do let ov ← eval o X.env; standAt apos.atName; let (f, first) ← holding [ov] (getMethod ov m pl); callWith pos f first (backTo pos (starEach (e :: es) X.env)) (backToKw pos (keywordEach [] X.env))) := by rfl) :
    PE X (.Call (.Attribute o m apos) (e :: es) [] pos) (tMethX C m sp dvs E to_ t) := by
  refine ⟨fun pins st σ H Q I z => PySem.W.methodCall_KW (pl := pl) (thn (ho.run pins st σ H _ I z) fun q0 st1 ⟨y, H1, I1, ry, b, dx, fl, ey, eb, lk, z1⟩ => ?_) s3⟩
  subst ey
  cases (show q0 = Value.ref b from ry)
  exact getmeth_ok I1 eb cc mm lk (PySem.W.callWith_K (first := [.ref b]) (h₀ := X.base) I.ok.mod.kin mm.kp (thn (pa.run pos pins st1 σ H1 _ I1 z1) fun ws st2 ⟨vs, H2, I2, rs, z2⟩ => ⟨I2.kIn, run_fnSD (us := .ref b :: ws) (vs := .ref b :: vs) Fk rm bd dv (px σ) I2 (.cons rfl rs) z2⟩) s1 s2)
theorem run_makeX {pins : List (Addr × Obj)} {σ : L2.St} {H : Hp} {st : Shared} {Q : VK} {us : List Value} {vs : List V} (M : Mk X.K C f) (Fk : FnOk X.prog X.w X.K X.mg X.base CX k f fd ps sp) (rm : Room (k + 1) X.A) (bd : Binds X.K fd ps ds) (dv : Vals dvs ds)
    (px : PassesAt CX X σ (E σ)) (I : Inv X pins σ H st) (rs : Vals vs us)
    (z : ∀ x dx, H x = none → H dx = none → dx ≠ x → sp (.ref x :: (vs ++ dvs)) (upd (upd H dx (.own x)) x (.ins C dx [])) (fun v H2 => v = .non ∧ Q (.ref x) H2) (E σ)) :
    wpAny (model X.prog X.w) X.A (call (.ref C) us) (EP X pins σ Q) X.xe st := by
  have z1 := z (st.heap.objs.size + 1) st.heap.objs.size (I.hok.fresh (Nat.le_succ _)) (I.hok.fresh (Nat.le_refl _)) (Nat.ne_of_lt (Nat.lt_succ_self _))
  have J := Inv.made (C := C) I
  have rr : Vals (V.ref (st.heap.objs.size + 1) :: (vs ++ dvs)) (Value.ref (st.heap.objs.size + 1) :: (us ++ ds)) := .cons rfl (rs.append dv)
  have len : (Value.ref (st.heap.objs.size + 1) :: us ++ ds).length = ps.length := (rr.length.symm.trans (Fk.len _ _ _ _ z1))
  refine wpAny_call (make_map (f := f) I.kIn M.makes M.init (beq_iff_eq.mp M.fn) (codeAny_mono (Fk.run _ X.stack _ _ ⟨Value.ref (st.heap.objs.size + 1) :: us, []⟩ (Value.ref (st.heap.objs.size + 1) :: (us ++ ds)) _ _ (E σ) (rm.make C us []) (J.env0.make C us []) (bd _ (Value.ref (st.heap.objs.size + 1) :: us) J.kIn len) rr z1) fun r st' h => ?_))
  match r, h with
  | .error er, h => exact px pins _ _ er st' J h
  | .ok (.ret u), h =>
    obtain ⟨v, H', I3, rv, ev, q3⟩ := J.after h
    subst ev
    exact ⟨rv, ⟨V.ref (st.heap.objs.size + 1), H', I3, rfl, q3⟩⟩
  | .ok .next, h => exact h.elim
  | .ok .brk, h => exact h.elim
  | .ok .cont, h => exact h.elim
theorem pe_makeX (M : Mk X.K C f) (Fk : FnOk X.prog X.w X.K X.mg X.base CX k f fd ps sp) (rm : Room (k + 1) X.A) (gl : Gl X x) (gm : X.mg x = some (.ref C)) (bd : Binds X.K fd ps ds) (dv : Vals dvs ds) (px : ∀ σ, PassesAt CX X σ (E σ)) (pa : PA X (e :: es) t)
    (s0 : (x == ("__debug__" : Str)) = false := by decide) (s1 : starEach (e :: es) X.env = (false, eval e X.env) :: starEach es X.env := by rfl) (s2 : (backTo pos (starEach es X.env)).any (·.1) = false := by rfl) : PE X (.Call (.Name x p) (e :: es) [] pos) (tMakeX C sp dvs E t) :=
  ⟨fun pins st σ H Q I z => wpAny_Call_Name_kw (ld_glob I gl gm (PySem.W.callWith_K (h₀ := X.base) I.ok.mod.kin M.kp (thn (pa.run pos pins st σ H _ I z) fun us st1 ⟨vs, H1, I1, r, q⟩ => ⟨I1.kIn, run_makeX M Fk rm bd dv (px σ) I1 r q⟩) s1 s2) s0)⟩
end
end G
namespace G
open PySem PySem.Spec PyProof.Rows L2 Evl TL
def namesD (d : CircD) : List Str := d.ins ++ d.gates.map (·.name) ++ d.regs.map (·.name)
structure TxtN (mg : Str → Option Value) : Prop where
  list : mg "list" = none
section
variable {P : Program} {w : World} {K : PySem.W.Frag} {mg : Str → Option Value} {base : Heap}
theorem gate_name {H : Hp} {a : Addr} {g : GateD} (h : GateAt H a g) : ∃ xs : List V, H a = some (.tup xs) ∧ xs[0]? = some (.str g.name) := by
  obtain ⟨t, pt, rt, ra, h1, _⟩ := h
  exact ⟨_, h1, rfl⟩
theorem reg_name {H : Hp} {a : Addr} {r : RegD} (h : RegAt H a r) : ∃ xs : List V, H a = some (.tup xs) ∧ xs[0]? = some (.str r.name) := by
  obtain ⟨ea, oa, h1, _⟩ := h
  exact ⟨_, h1, rfl⟩
def spNames : Sp := fun vs H Q _ => ∃ (c : Addr) (d : CircD) (it gt rt ot : Addr) (ga ra oa : List Addr), vs = [.ref c] ∧ CircAt H c d it gt rt ot ga ra oa ∧ (namesD d).length ≤ 1000 ∧ ∀ (l : Addr) (H' : Hp), H l = none → Ex H H' → H' l = some (.lst ((namesD d).map V.str)) → Q (.ref l) H'
theorem sc_all_names : FnScope ["circuit", "inputs", "gates", "regs", "_", "reg", "gate"] ["circuit"] (defScope s_all_names) := ⟨rfl, rfl, rfl, by decide +kernel, rfl, by decide +kernel, by decide +kernel⟩
theorem ok_all_names (D : Dfd K mg "_all_names" s_all_names ["circuit"]) (T : TxtN mg) : Has P w K mg base 1 "_all_names" ["circuit"] spNames := by
  refine D.has fun f fd F => F.ok sc_all_names (fun vs H Q E h => ?_) (fun cdv A outer s H vs Q E hr h => ?_)
  · obtain ⟨c, d, it, gt, rt, ot, ga, ra, oa, rfl, _⟩ := h
    rfl
  · obtain ⟨c, d, it, gt, rt, ot, ga, ra, oa, rfl, hc, hn, q⟩ := h
    have hlen : d.ins.length + d.gates.length + d.regs.length ≤ 1000 := by
      unfold namesD at hn
      rw [List.length_append, List.length_append, List.length_map, List.length_map] at hn
      omega
    refine ⟨_, (pss_cons (ps_asg (pv 0) (pg_tup rfl (pgs_cons (pg_name (i := 1) sc_all_names.nd rfl (.inl rfl)) (pgs_cons (pg_name (i := 2) sc_all_names.nd rfl (.inl rfl)) (pgs_cons (pg_name (i := 3) sc_all_names.nd rfl (.inl rfl)) (pgs_cons (pg_name (i := 4) sc_all_names.nd rfl (.inl rfl)) pgs_nil))))))
    (pss_one (ps_ret (pe_op op_cat (pe_op op_cat (pe_callTy call_list_of (by rfl) T.list (by decide +kernel) (pa_cons (pv 1) pa_nil)) (pe_lc (own := [("gate", 6)]) (g := gName 6) (tt := tYes) rfl sc_all_names.nd (pi_tup (pv 2)) (blkOk_by (N := ["circuit", "inputs", "gates", "regs", "_", "reg", "gate"]) (sc := defScope s_all_names) (own := [("gate", 6)]) (by decide +kernel)) (fun _ _ _ _ _ => (pg_name (i := 6) sc_all_names.nd rfl (.inl rfl))) (fun _ _ _ _ _ => pts_nil) (fun _ _ _ _ _ => (pe_ix (kIxT (K := K) rfl) (pv 6) pe_int (fun _ _ => rfl))))) (pe_lc (own := [("reg", 5)]) (g := gName 5) (tt := tYes) rfl sc_all_names.nd (pi_tup (pv 3)) (blkOk_by (N := ["circuit", "inputs", "gates", "regs", "_", "reg", "gate"]) (sc := defScope s_all_names) (own := [("reg", 5)]) (by decide +kernel)) (fun _ _ _ _ _ => (pg_name (i := 5) sc_all_names.nd rfl (.inl rfl))) (fun _ _ _ _ _ => pts_nil) (fun _ _ _ _ _ => (pe_ix (kIxT (K := K) rfl) (pv 5) pe_int (fun _ _ => rfl)))))))), ?_⟩
    refine ⟨_, rfl, c, _, rfl, SqT.of hc.top, rfl, _, _, rfl, _, _, rfl, _, _, rfl, _, _, rfl, rfl, ?_⟩
    refine ⟨_, rfl, _, _, rfl, .inr (SqT.of hc.ins), fun l1 n1 => ?_⟩
    have E1 : Ex H (upd H l1 (.lst (d.ins.map V.str))) := Ex.new n1
    have h1 : upd H l1 (.lst (d.ins.map V.str)) l1 = some (.lst (d.ins.map V.str)) := upd_same
    generalize upd H l1 (.lst (d.ins.map V.str)) = H1 at *
    have hc1 := hc.te (.of E1)
    refine ⟨_, rfl, gt, rfl, ⟨_, SqT.of hc1.gts⟩, fun L2 nL2 => wk_tup (K := K) (a := gt) (xs := ga.map V.ref) (fun j H' => Ex H1 H' ∧ H' L2 = some (.lst (((d.gates.map (·.name)).take j).map V.str))) ⟨Ex.new nL2, by rw [upd_same]; rfl⟩ (fun j H' _ g => SqT.of (g.1 _ _ hc1.gts)) ?_ ?_⟩
    · rintro j x H2 hx ⟨E2, hL⟩
      rw [List.getElem?_map] at hx
      cases e : ga[j]? with
      | none => rw [e] at hx; cases hx
      | some b =>
        rw [e] at hx; cases hx
        obtain ⟨g, hg, hgt⟩ := hc1.gates.at_ e
        obtain ⟨xs, hb, hx0⟩ := gate_name hgt
        have hj : j < d.gates.length := (List.getElem?_eq_some_iff.mp hg).1
        refine ⟨rfl, tYes_in ⟨_, rfl, _, _, _, _, rfl, rfl, SqT.of (E2 _ _ hb), atI_nat (j := 0) hx0, _, hL, sz_lt (by rw [List.length_map, List.length_take]; omega), E2.mut nL2, ?_⟩⟩
        rw [upd_same, List.take_add_one, List.getElem?_map, hg, List.map_append]; rfl
    rintro H2 ⟨E2, hL⟩
    rw [List.length_map, hc1.gates.1, ← List.length_map (f := fun g : GateD => g.name), List.take_length] at hL
    refine ⟨l1, L2, _, _, rfl, rfl, E2 _ _ h1, hL, sz_of (by rw [List.length_map, List.length_map, List.length_map]; omega), fun l3 n3 => ?_⟩
    rw [← List.map_append]
    have E3 : Ex H2 (upd H2 l3 (.lst ((d.ins ++ d.gates.map (·.name)).map V.str))) := Ex.new n3
    have h3 : upd H2 l3 (.lst ((d.ins ++ d.gates.map (·.name)).map V.str)) l3 = some (.lst ((d.ins ++ d.gates.map (·.name)).map V.str)) := upd_same
    generalize upd H2 l3 (.lst ((d.ins ++ d.gates.map (·.name)).map V.str)) = H3 at *
    have hc3 := hc.te (.of (E1.trans (E2.trans E3)))
    refine ⟨_, rfl, rt, rfl, ⟨_, SqT.of hc3.rgs⟩, fun L4 nL4 => wk_tup (K := K) (a := rt) (xs := ra.map V.ref) (fun j H' => Ex H3 H' ∧ H' L4 = some (.lst (((d.regs.map (·.name)).take j).map V.str))) ⟨Ex.new nL4, by rw [upd_same]; rfl⟩ (fun j H' _ g => SqT.of (g.1 _ _ hc3.rgs)) ?_ ?_⟩
    · rintro j x H4 hx ⟨E4, hL4⟩
      rw [List.getElem?_map] at hx
      cases e : ra[j]? with
      | none => rw [e] at hx; cases hx
      | some b =>
        rw [e] at hx; cases hx
        obtain ⟨g, hg, hgt⟩ := hc3.regs.at_ e
        obtain ⟨xs, hb, hx0⟩ := reg_name hgt
        have hj : j < d.regs.length := (List.getElem?_eq_some_iff.mp hg).1
        refine ⟨rfl, tYes_in ⟨_, rfl, _, _, _, _, rfl, rfl, SqT.of (E4 _ _ hb), atI_nat (j := 0) hx0, _, hL4, sz_lt (by rw [List.length_map, List.length_take]; omega), E4.mut nL4, ?_⟩⟩
        rw [upd_same, List.take_add_one, List.getElem?_map, hg, List.map_append]; rfl
    rintro H4 ⟨E4, hL4⟩
    rw [List.length_map, hc3.regs.1, ← List.length_map (f := fun g : RegD => g.name), List.take_length] at hL4
    refine ⟨l3, L4, _, _, rfl, rfl, E4 _ _ h3, hL4, sz_of (by rw [List.length_map, List.length_map, List.length_append, List.length_map, List.length_map]; omega), fun l5 n5 => ?_⟩
    have E5 := E1.trans (E2.trans (E3.trans E4))
    refine q l5 _ (fresh_back E5 n5) (E5.trans (Ex.new n5)) ?_
    rw [upd_same, ← List.map_append]; rfl
def spCheck (C : Addr) : Sp := fun vs H Q E => ∃ (c l : Addr) (d : CircD) (ns : List Str) (it gt rt ot : Addr) (ga ra oa : List Addr), vs = [.ref c, .ref l] ∧ CircAt H c d it gt rt ot ga ra oa ∧ (namesD d).length ≤ 1000 ∧ H l = some (.lst (ns.map V.str)) ∧ (∀ x ∈ ns, x.length ≤ 1000) ∧
  ((∀ x ∈ ns, x ∈ namesD d) → ∀ H', Ex H H' → Q .non H') ∧ ((∃ x ∈ ns, x ∉ namesD d) → ∀ H', Ex H H' → E (.ref C) none H')
theorem sc_check_nets : FnScope ["circuit", "names", "name", "nets"] ["circuit", "names"] (defScope s_check_nets) := ⟨rfl, rfl, rfl, by decide +kernel, rfl, by decide +kernel, by decide +kernel⟩
theorem ok_check_nets {C : Addr} (D : Dfd K mg "check_nets" s_check_nets ["circuit", "names"]) (U : ExcT K mg "UnknownName" C) (C1 : Has P w K mg base 1 "_all_names" ["circuit"] spNames) : HasX P w K mg base 2 "check_nets" ["circuit", "names"] (spCheck C) := by
  obtain ⟨f_all_names, d_all_names, G_all_names, g_all_names, k_all_names, b_all_names⟩ := C1
  obtain ⟨f, fd, F, gf, bf⟩ := D
  refine ⟨f, fd, F.okX sc_check_nets (fun vs H Q E h => ?_) (fun cdv A outer s H vs Q E hr h => ?_), gf, F.kp, bf⟩
  · obtain ⟨c, l, d, ns, it, gt, rt, ot, ga, ra, oa, rfl, _⟩ := h
    rfl
  · obtain ⟨c, l, d, ns, it, gt, rt, ot, ga, ra, oa, rfl, hc, hn, hl, hsm, q1, q2⟩ := h
    refine ⟨_, (pss_cons (ps_setDc (i := 3) (own := [("name", 2)]) (g := gName 2) (tt := tYes) rfl sc_check_nets.nd rfl rfl (sw_trueD rfl rfl rfl (by decide +kernel)) (pi_list (pe_call G_all_names (hr.mono (by omega)) (by rfl) g_all_names k_all_names b_all_names .nil pass0 (pa_cons (pv 0) pa_nil))) (blkOk_by (N := ["circuit", "names", "name", "nets"]) (sc := defScope s_check_nets) (own := [("name", 2)]) (by decide +kernel)) (fun _ _ _ _ _ => (pg_name (i := 2) sc_check_nets.nd rfl (.inl rfl))) (fun _ _ _ _ _ => pts_nil) (fun _ _ _ _ _ => (pv 2)) (fun _ _ _ _ _ => pe_bl))
    (pss_one (ps_for (passes_of rfl) rfl (pi_list (pv 1)) (pg_name (i := 2) sc_check_nets.nd rfl (.inl rfl))
      (pss_one (ps_if (pt_cmp (pc_dnotin (hu_of hr) (pv 2) (pv 3)))
        (pss_one (ps_raise rfl (takes_of rfl rfl rfl rfl) (pmk_ownA PySem.F.excBase_ValueError U.xP U.gC U.kC (raises_own U.bC U.tC) rfl (pa_cons (pe_joined (.cons (pe_fmt (pv 2)) (.cons pe_str .nil))) pa_nil))))
        pss_nil))))), ?_⟩
    have hn2 : (namesD d).length ≤ 1000 := hn
    refine ⟨_, rfl, c, d, it, gt, rt, ot, ga, ra, oa, rfl, hc, hn, fun L H1 nL E1 hL => ⟨L, rfl, ⟨_, SqL.of hL⟩, fun Dc nDc => wk_list (K := K) (a := L) (xs := (namesD d).map V.str)
      (fun j H' => Ex H1 H' ∧ ∃ es : List (Key × V), H' Dc = some (.dK es) ∧ es.length ≤ j ∧ ∀ x : Str, (valV es (.inr x)).isSome = decide (x ∈ (namesD d).take j))
      ⟨Ex.new nDc, [], upd_same, Nat.le_refl _, fun x => by rw [List.take_zero]; rfl⟩ (fun j H' _ g => SqL.of (g.1 _ _ hL)) ?_ ?_⟩⟩
    · rintro j x H2 hx ⟨E2, es, hD, hel, hk⟩
      have hj : j < (namesD d).length := by have := (List.getElem?_eq_some_iff.mp hx).1; rw [List.length_map] at this; exact this
      obtain rfl : x = .str (namesD d)[j] := by rw [strV_at hj] at hx; exact (Option.some.inj hx).symm
      refine ⟨rfl, tYes_in ⟨_, rfl, es, .inr (namesD d)[j], rfl, hD, sz_lt (by omega), E2.mut nDc, _, upd_same, Nat.le_trans (length_putK _ _ _) (Nat.succ_le_succ hel), fun x => ?_⟩⟩
      rw [valV_put, List.take_add_one, List.getElem?_eq_getElem hj]
      by_cases e : x = (namesD d)[j]
      · rw [if_pos (by rw [e]), decide_eq_true (by rw [e]; exact List.mem_append.mpr (.inr (List.mem_singleton.mpr rfl)))]; rfl
      · rw [if_neg (fun z => e (Sum.inr.inj z)), hk x, decide_eq_decide]
        exact ⟨fun h => List.mem_append.mpr (.inl h), fun h => (List.mem_append.mp h).elim id fun z => absurd (List.mem_singleton.mp z) e⟩
    rintro H2 ⟨E2, es, hD, hel, hk⟩
    rw [List.length_map, List.take_length] at hk
    have e2 := E1.trans E2
    refine ⟨_, rfl, l, rfl, ⟨_, SqL.of (e2 _ _ hl)⟩, for_list (K := K) (a := l) (xs := ns.map V.str)
      (fun i σ H' => Ex H2 H' ∧ (∀ x ∈ ns.take i, x ∈ namesD d) ∧ ∃ z : Option V, σ = [some (.ref c), some (.ref l), z, some (.ref Dc)]) ⟨.refl _, (by rw [List.take_zero]; exact fun _ h => nomatch h), _, rfl⟩ (fun i σ H' _ g => SqL.of (g.1 _ _ (e2 _ _ hl))) ?_ ?_⟩
    · rintro i x σ H3 hx ⟨E3, hall, z, rfl⟩
      have hi : i < ns.length := by have := (List.getElem?_eq_some_iff.mp hx).1; rw [List.length_map] at this; exact this
      obtain rfl : x = .str ns[i] := by rw [strV_at hi] at hx; exact (Option.some.inj hx).symm
      refine ⟨_, rfl, _, rfl, Dc, _, rfl, DGet.k (k := Sum.inr ns[i]) (E3 _ _ hD), _, rfl, ?_⟩
      rw [hk]
      cases hm : decide (ns[i] ∈ namesD d) with
      | true =>
        refine iteF ⟨E3, fun x hx => ?_, _, rfl⟩
        rw [List.take_add_one, List.getElem?_eq_getElem hi] at hx
        rcases List.mem_append.mp hx with z | z
        · exact hall x z
        · rw [List.mem_singleton.mp z]; exact of_decide_eq_true hm
      | false =>
        have hlen := hsm _ (List.getElem_mem hi)
        have hno := of_decide_eq_false hm
        have e1 : (Str.empty ++ ns[i]).length = ns[i].length := by
          rw [len_tl, tl_append, List.length_append, len_tl ns[i]]
          exact Nat.zero_add _
        refine iteT ⟨_, rfl, .inl ⟨ns[i], rfl, sz_of (by omega), ns[i], rfl, sz_of (by omega), " is not a net", rfl, sz_of ?_, (by show 1 ≤ sizeLine; decide), ?_⟩⟩
        · rw [len_tl, tl_append, List.length_append, ← len_tl (Str.empty ++ ns[i]), e1]
          have : (tl (" is not a net" : Str)).length = 13 := by decide +kernel
          omega
        · exact q2 ⟨ns[i], List.getElem_mem hi, hno⟩ H3 (e2.trans E3)
    · rintro σ H3 ⟨E3, hall, z, rfl⟩
      rw [List.length_map, List.take_length] at hall
      exact q1 hall H3 (e2.trans E3)
end
end G
namespace G
open PySem PySem.Spec PyProof.Rows L2 Evl TL
theorem str_len_app (a b : Str) : (a ++ b).length = a.length + b.length := by rw [len_tl, tl_append, List.length_append, ← len_tl, ← len_tl]
/-! ## the drawn names: a letter, a sign or none, a number, b or none -/
def letsT : Str := "abcdefghijklmnopqrstuvwxyz"
def midT : List Str := ["", "_", "x", "9q"]
def endT : List Str := ["", "b"]
def nmW (c : Nat) (m e : Str) (k : Nat) : Str := (((⟨#[c]⟩ : Str) ++ m) ++ Str.ofString (toString ((k : Nat) : Int))) ++ e
def NmK (k : Nat) (x : Str) : Prop := ∃ c ∈ letsT.cps.toList, ∃ m ∈ midT, ∃ e ∈ endT, x = nmW c m e k
/-- the number that a name bears -/
def keyR : List Nat → Nat
  | d0 :: d1 :: _ => if 48 ≤ d1 ∧ d1 ≤ 57 then (d1 - 48) * 10 + (d0 - 48) else d0 - 48
  | _ => 0
def keyN (x : Str) : Nat := match x.cps.toList.reverse with
  | 98 :: r => keyR r
  | r => keyR r
theorem keyN_ok : ∀ c ∈ letsT.cps.toList, ∀ m ∈ midT, ∀ e ∈ endT, ∀ k, k < 16 → keyN (nmW c m e k) = k := by decide +kernel
theorem nmW_ok : ∀ c ∈ letsT.cps.toList, ∀ m ∈ midT, ∀ e ∈ endT, ∀ k, k < 16 → (nmW c m e k).length ≤ 10 ∧ PyData.strOk (nmW c m e k) = true := by decide +kernel
theorem nmW_net : ∀ c ∈ letsT.cps.toList, ∀ m ∈ midT, ∀ e ∈ endT, ∀ k, k < 16 → nmW c m e k ≠ "no/net" := by decide +kernel
theorem NmK.inj {k k' : Nat} {x : Str} (h : NmK k x) (h' : NmK k' x) (l : k < 16) (l' : k' < 16) : k = k' := by
  obtain ⟨c, hc, m, hm, e, he, rfl⟩ := h
  obtain ⟨c', hc', m', hm', e', he', z⟩ := h'
  rw [← keyN_ok c hc m hm e he k l, z, keyN_ok c' hc' m' hm' e' he' k' l']
theorem NmK.ok {k : Nat} {x : Str} (h : NmK k x) (l : k < 16) : x.length ≤ 10 ∧ PyData.strOk x = true ∧ x ≠ "no/net" := by
  obtain ⟨c, hc, m, hm, e, he, rfl⟩ := h
  exact ⟨(nmW_ok c hc m hm e he k l).1, (nmW_ok c hc m hm e he k l).2, nmW_net c hc m hm e he k l⟩
def NamesK (ns : List Str) : Prop := ns.length ≤ 16 ∧ ∀ k x, ns[k]? = some x → NmK k x
theorem NamesK.nodup {ns : List Str} (h : NamesK ns) : ns.Nodup := by
  rw [List.Nodup, List.pairwise_iff_getElem]
  intro i j hi hj hij e
  have h1 := h.2 i _ (List.getElem?_eq_getElem hi)
  have h2 := h.2 j _ (List.getElem?_eq_getElem hj)
  rw [e] at h1
  have := h1.inj h2 (by have := h.1; omega) (by have := h.1; omega)
  omega
theorem NamesK.ok {ns : List Str} (h : NamesK ns) {x : Str} (m : x ∈ ns) : x.length ≤ 10 ∧ PyData.strOk x = true ∧ x ≠ "no/net" := by
  obtain ⟨k, hk, e⟩ := List.getElem_of_mem m
  exact (h.2 k x (List.getElem?_eq_some_iff.mpr ⟨hk, e⟩)).ok (by have := h.1; omega)
structure TxtD (mg : Str → Option Value) : Prop where
  len : mg "len" = none
  list : mg "list" = none
  tuple : mg "tuple" = none
  range : mg "range" = none
  str : mg "str" = none
  max : mg "max" = none
  min : mg "min" = none
section
variable {P : Program} {w : World} {K : PySem.W.Frag} {mg : Str → Option Value} {base : Heap}
def spLNames : Sp := fun vs H Q _ => ∃ (p a : Addr) (many : Nat), vs = [.ref p, .int many] ∧ many ≤ 16 ∧ PoolOk p a H ∧ ∀ (l : Addr) (ns : List Str) (H' : Hp), Px p a H H' → H l = none → hid p H' l = some (.lst (ns.map V.str)) → ns.length = many → NamesK ns → Q (.ref l) H'
theorem sc_law_names : FnScope ["pool", "many", "names", "k", "letter"] ["pool", "many"] (defScope s_law_names) := ⟨rfl, rfl, rfl, by decide +kernel, rfl, by decide +kernel, by decide +kernel⟩
theorem ok_law_names (D : Dfd K mg "_law_names" s_law_names ["pool", "many"]) (T : TxtD mg) (C : Has P w K mg base 2 "_law_draw" ["pool", "many"] spDrawX) : Has P w K mg base 3 "_law_names" ["pool", "many"] spLNames := by
  obtain ⟨f_law_draw, d_law_draw, G_law_draw, g_law_draw, k_law_draw, b_law_draw⟩ := C
  refine D.has fun f fd F => F.ok sc_law_names (fun vs H Q E h => ?_) (fun cdv A outer s H vs Q E hr h => ?_)
  · obtain ⟨p, a, many, rfl, _⟩ := h
    rfl
  · obtain ⟨p, a, many, rfl, hm, hp, q⟩ := h
    refine ⟨_, (pss_cons (ps_set (i := 2) sc_law_names.nd rfl (.inl rfl) (pe_lst pa_nil))
    (pss_cons (ps_for PassesOwn.never rfl (pi_range1 rfl T.range (pa_cons (pv 1) pa_nil)) (pg_name (i := 3) sc_law_names.nd rfl (.inl rfl))
      (pss_cons (ps_set (i := 4) sc_law_names.nd rfl (.inl rfl) (pe_ix ix_str pe_str (pe_call G_law_draw (hr.mono (by omega)) (by rfl) g_law_draw k_law_draw b_law_draw .nil pass0 (pa_cons (pv 0) (pa_cons pe_int pa_nil))) (fun _ _ => rfl)))
      (pss_one (ps_expr (pe_bm PySem.F.plainAttrs_list PySem.F.slot_list_append PySem.F.type_list_append mt_append (pv 2) (pa_cons (pe_op op_add_str (pe_op op_add_str (pe_op op_add_str (pv 4) (pe_ix ix_tup (pe_tup (pa_cons pe_str (pa_cons pe_str (pa_cons pe_str (pa_cons pe_str pa_nil))))) (pe_call G_law_draw (hr.mono (by omega)) (by rfl) g_law_draw k_law_draw b_law_draw .nil pass0 (pa_cons (pv 0) (pa_cons pe_int pa_nil))) (fun _ _ => rfl))) (pe_callTy call_str_int (by rfl) T.str (by decide +kernel) (pa_cons (pv 3) pa_nil))) (pe_ix ix_tup (pe_tup (pa_cons pe_str (pa_cons pe_str pa_nil))) (pe_call G_law_draw (hr.mono (by omega)) (by rfl) g_law_draw k_law_draw b_law_draw .nil pass0 (pa_cons (pv 0) (pa_cons pe_int pa_nil))) (fun _ _ => rfl))) pa_nil))))))
    (pss_one (ps_ret (pv 2))))), ?_⟩
    refine ⟨Nat.zero_le _, fun l nl => ?_⟩
    have X0 := (Px.refl hp).new (o := .lst []) nl
    have hpl := hp.ne nl
    have hl0 : hid p (upd H l (.lst [])) l = some (.lst []) := hid_new hpl
    generalize upd H l (.lst []) = H0 at *
    refine ⟨_, rfl, many, rfl, by omega, by omega, for_range (n := ((many : Nat) : Int).toNat)
      (fun i σ H' => Px p a H H' ∧ ∃ (ns : List Str) (y z : Option V), hid p H' l = some (.lst (ns.map V.str)) ∧ ns.length = i ∧ (∀ k x, ns[k]? = some x → NmK k x) ∧ σ = [some (.ref p), some (.int many), some (.ref l), y, z])
      ⟨X0, [], _, _, hl0, rfl, (fun _ _ h => by cases h), rfl⟩ ?_ ?_⟩
    · rintro i σ H1 hi ⟨X1, ns, y, z, hl, hn, hk, rfl⟩
      rw [Int.toNat_natCast] at hi
      have ei : (0 : Int) + (i : Int) = (i : Int) := Int.zero_add _
      rw [ei]
      refine ⟨_, rfl, p, a, 26, rfl, by decide, by decide, X1.pool, fun v1 H2 h1 X2 _ => ?_⟩
      have hv1 : v1 < letsT.cps.toList.length := by
        have e26 : letsT.cps.toList.length = 26 := by decide +kernel
        omega
      refine ⟨_, _, letsT.cps.toList[v1], rfl, rfl, by decide +kernel, atI_nat (List.getElem?_eq_getElem hv1), ?_⟩
      have hc := List.getElem_mem hv1
      generalize letsT.cps.toList[v1] = c at *
      refine ⟨_, rfl, .inl ⟨rfl, _, SqL.of (hid_get (X2.get hl))⟩, _, rfl, by show 4 ≤ sizeLine; decide, fun t1 nt1 => ?_⟩
      have X3 := (Px.refl X2.pool).new (o := .tup [.str "", .str "_", .str "x", .str "9q"]) nt1
      have ht1 : hid p (upd H2 t1 (.tup [.str "", .str "_", .str "x", .str "9q"])) t1 = some (.tup (midT.map V.str)) := hid_new (X2.pool.ne nt1)
      generalize upd H2 t1 (.tup [.str "", .str "_", .str "x", .str "9q"]) = H3 at *
      refine ⟨_, rfl, p, a, 4, rfl, by decide, by decide, X3.pool, fun v2 H4 h2 X4 _ => ?_⟩
      have hv2 : v2 < midT.length := by show v2 < 4; omega
      refine ⟨_, _, _, _, rfl, rfl, SqT.of (hid_get (X4.get ht1)), atI_nat (by rw [List.getElem?_map, List.getElem?_eq_getElem hv2]; rfl), ?_⟩
      have hm2 := List.getElem_mem hv2
      generalize midT[v2] = m at *
      have hb : ∀ e ∈ endT, (nmW c m e i).length ≤ 10 := fun e he => (nmW_ok c hc m hm2 e he i (by omega)).1
      have hb0 := hb "" (by decide)
      have l1 : ((⟨#[c]⟩ : Str) ++ m).length ≤ 10 := by
        unfold nmW at hb0
        rw [str_len_app, str_len_app] at hb0
        omega
      have l2 : (((⟨#[c]⟩ : Str) ++ m) ++ Str.ofString (toString ((i : Nat) : Int))).length ≤ 10 := by
        unfold nmW at hb0
        rw [str_len_app] at hb0
        omega
      refine ⟨_, _, rfl, rfl, sz_of (by have := l1; rw [str_len_app] at this; omega), _, rfl, _, rfl, (nm_small "i" (by decide) i (by omega)).2, _, _, rfl, rfl, sz_of (by have := l2; rw [str_len_app] at this; omega), by show 2 ≤ sizeLine; decide, fun t2 nt2 => ?_⟩
      have X5 := X4.new (o := .tup [.str "", .str "b"]) nt2
      have ht2 : hid p (upd H4 t2 (.tup [.str "", .str "b"])) t2 = some (.tup (endT.map V.str)) := hid_new (X4.pool.ne nt2)
      generalize upd H4 t2 (.tup [.str "", .str "b"]) = H5 at *
      refine ⟨_, rfl, p, a, 2, rfl, by decide, by decide, X5.pool, fun v3 H6 h3 X6 _ => ?_⟩
      have hv3 : v3 < endT.length := by show v3 < 2; omega
      refine ⟨_, _, _, _, rfl, rfl, SqT.of (hid_get (X6.get ht2)), atI_nat (by rw [List.getElem?_map, List.getElem?_eq_getElem hv3]; rfl), ?_⟩
      have hm3 := List.getElem_mem hv3
      generalize endT[v3] = e at *
      have Z := X2.trans (X3.trans (X5.trans X6))
      have hl6 := Z.get hl
      refine ⟨_, _, rfl, rfl, sz_of (by have := hb e hm3; unfold nmW at this; rw [str_len_app] at this; omega), l, _, .str (nmW c m e i), rfl, rfl, hid_get hl6, sz_lt (by rw [List.length_map]; omega), (X1.trans Z).mut nl, ns ++ [nmW c m e i], _, _, ?_, by rw [List.length_append, hn]; rfl, fun k x hx => ?_, rfl⟩
      · rw [hid_new hpl, List.map_append]; rfl
      · rcases Nat.lt_or_ge k ns.length with lt | ge
        · rw [List.getElem?_append_left lt] at hx
          exact hk k x hx
        · rw [List.getElem?_append_right ge] at hx
          have : k - ns.length = 0 := by
            cases z : k - ns.length with
            | zero => rfl
            | succ n => rw [z] at hx; cases hx
          rw [this] at hx
          cases hx
          have ek : k = i := by omega
          subst ek
          exact ⟨c, hc, m, hm2, e, hm3, rfl⟩
    · rintro σ H1 ⟨X1, ns, y, z, hl, hn, hk, rfl⟩
      rw [Int.toNat_natCast] at hn
      exact ⟨_, rfl, q l ns H1 X1 nl hl hn ⟨by omega, hk⟩⟩
/-! ## ranges of pins, times of registers -/
def SpanW (r : Int × Int) : Prop := 0 ≤ r.1 ∧ r.1 ≤ 5 ∧ r.1 + 2 ≤ r.2 ∧ r.2 ≤ r.1 + 5
theorem pick {l : List Int} {v : Nat} (h : v < l.length) {P : Int → Prop} (hp : ∀ x ∈ l, P x) : ∃ x, (l.map V.int)[v]? = some (.int x) ∧ P x :=
  ⟨l[v], by rw [List.getElem?_map, List.getElem?_eq_getElem h]; rfl, hp _ (List.getElem_mem h)⟩
def spLSpan : Sp := fun vs H Q _ => ∃ (p a : Addr), vs = [.ref p] ∧ PoolOk p a H ∧ ∀ (e : Addr) (r : Int × Int) (H' : Hp), Px p a H H' → H e = none → IntsAt H' e r → SpanW r → Q (.ref e) H'
theorem sc_law_span : FnScope ["pool", "low"] ["pool"] (defScope s_law_span) := ⟨rfl, rfl, rfl, by decide +kernel, rfl, by decide +kernel, by decide +kernel⟩
theorem ok_law_span (D : Dfd K mg "_law_span" s_law_span ["pool"]) (C : Has P w K mg base 2 "_law_draw" ["pool", "many"] spDrawX) : Has P w K mg base 3 "_law_span" ["pool"] spLSpan := by
  obtain ⟨f_law_draw, d_law_draw, G_law_draw, g_law_draw, k_law_draw, b_law_draw⟩ := C
  refine D.has fun f fd F => F.ok sc_law_span (fun vs H Q E h => ?_) (fun cdv A outer s H vs Q E hr h => ?_)
  · obtain ⟨p, a, rfl, _⟩ := h
    rfl
  · obtain ⟨p, a, rfl, hp, q⟩ := h
    refine ⟨_, (pss_cons (ps_set (i := 1) sc_law_span.nd rfl (.inl rfl) (pe_ix ix_tup (pe_tup (pa_cons pe_int (pa_cons pe_int (pa_cons pe_int (pa_cons pe_int (pa_cons pe_int (pa_cons pe_int pa_nil))))))) (pe_call G_law_draw (hr.mono (by omega)) (by rfl) g_law_draw k_law_draw b_law_draw .nil pass0 (pa_cons (pv 0) (pa_cons pe_int pa_nil))) (fun _ _ => rfl)))
    (pss_one (ps_ret (pe_tup (pa_cons (pv 1) (pa_cons (pe_op op_add (pe_op op_add (pv 1) pe_int) (pe_ix ix_tup (pe_tup (pa_cons pe_int (pa_cons pe_int (pa_cons pe_int (pa_cons pe_int pa_nil))))) (pe_call G_law_draw (hr.mono (by omega)) (by rfl) g_law_draw k_law_draw b_law_draw .nil pass0 (pa_cons (pv 0) (pa_cons pe_int pa_nil))) (fun _ _ => rfl))) pa_nil)))))), ?_⟩
    refine ⟨by show 6 ≤ sizeLine; decide, fun t1 nt1 => ?_⟩
    have X1 := (Px.refl hp).new (o := .tup [.int 0, .int 1, .int 2, .int 3, .int 5, .int 1]) nt1
    have ht1 : hid p (upd H t1 (.tup [.int 0, .int 1, .int 2, .int 3, .int 5, .int 1])) t1 = some (.tup (([0, 1, 2, 3, 5, 1] : List Int).map V.int)) := hid_new (hp.ne nt1)
    generalize upd H t1 (.tup [.int 0, .int 1, .int 2, .int 3, .int 5, .int 1]) = H1 at *
    refine ⟨_, rfl, p, a, 6, rfl, by decide, by decide, X1.pool, fun v H2 hv X2 _ => ?_⟩
    obtain ⟨lo, glo, blo⟩ := pick (l := [0, 1, 2, 3, 5, 1]) (v := v) (by show v < 6; omega) (P := fun x => 0 ≤ x ∧ x ≤ 5) (by decide)
    refine ⟨_, _, _, _, rfl, rfl, SqT.of (hid_get (X2.get ht1)), atI_nat glo, _, rfl, _, rfl, _, _, rfl, rfl, by show 4 ≤ sizeLine; decide, fun t2 nt2 => ?_⟩
    have X3 := (X1.trans X2).new (o := .tup [.int 0, .int 0, .int 1, .int 3]) nt2
    have ht2 : hid p (upd H2 t2 (.tup [.int 0, .int 0, .int 1, .int 3])) t2 = some (.tup (([0, 0, 1, 3] : List Int).map V.int)) := hid_new (X2.pool.ne nt2)
    generalize upd H2 t2 (.tup [.int 0, .int 0, .int 1, .int 3]) = H3 at *
    refine ⟨_, rfl, p, a, 4, rfl, by decide, by decide, X3.pool, fun v2 H4 hv2 X4 _ => ?_⟩
    obtain ⟨m, gm, bm⟩ := pick (l := [0, 0, 1, 3]) (v := v2) (by show v2 < 4; omega) (P := fun x => 0 ≤ x ∧ x ≤ 3) (by decide)
    refine ⟨_, _, _, _, rfl, rfl, SqT.of (hid_get (X4.get ht2)), atI_nat gm, _, _, rfl, rfl, by show 2 ≤ sizeLine; decide, fun e ne => ?_⟩
    have X5 := X3.trans X4
    exact q e (lo, lo + 2 + m) _ (X5.new ne) (X5.free ne) upd_same ⟨blo.1, blo.2, by show lo + 2 ≤ lo + 2 + m; omega, by show lo + 2 + m ≤ lo + 5; omega⟩
structure TimesW (e o : Int × Int) (su ho : Int) : Prop where
  e0 : 0 ≤ e.1 ∧ e.1 ≤ 2
  e1 : e.1 ≤ e.2 ∧ e.2 ≤ e.1 + 2
  o0 : 0 ≤ o.1 ∧ o.1 ≤ 6
  o1 : o.1 ≤ o.2 ∧ o.2 ≤ 9
  su : 0 ≤ su ∧ su ≤ 2
  ho : 0 ≤ ho ∧ ho ≤ 2 ∧ ho < o.2
def spLTimes : Sp := fun vs H Q _ => ∃ (p a : Addr), vs = [.ref p] ∧ PoolOk p a H ∧ ∀ (t ea oa : Addr) (e o : Int × Int) (su ho : Int) (H' : Hp), Px p a H H' → H' t = some (.tup [.ref ea, .ref oa, .int su, .int ho]) → IntsAt H' ea e → IntsAt H' oa o → TimesW e o su ho → Q (.ref t) H'
theorem sc_law_times : FnScope ["pool", "width", "low", "hold", "first", "last"] ["pool"] (defScope s_law_times) := ⟨rfl, rfl, rfl, by decide +kernel, rfl, by decide +kernel, by decide +kernel⟩
theorem ok_law_times (D : Dfd K mg "_law_times" s_law_times ["pool"]) (T : TxtD mg) (C : Has P w K mg base 2 "_law_draw" ["pool", "many"] spDrawX) : Has P w K mg base 3 "_law_times" ["pool"] spLTimes := by
  obtain ⟨f_law_draw, d_law_draw, G_law_draw, g_law_draw, k_law_draw, b_law_draw⟩ := C
  refine D.has fun f fd F => F.ok sc_law_times (fun vs H Q E h => ?_) (fun cdv A outer s H vs Q E hr h => ?_)
  · obtain ⟨p, a, rfl, _⟩ := h
    rfl
  · obtain ⟨p, a, rfl, hp, q⟩ := h
    refine ⟨_, (pss_cons (ps_set (i := 1) sc_law_times.nd rfl (.inl rfl) (pe_ix ix_tup (pe_tup (pa_cons pe_int (pa_cons pe_int (pa_cons pe_int (pa_cons pe_int pa_nil))))) (pe_call G_law_draw (hr.mono (by omega)) (by rfl) g_law_draw k_law_draw b_law_draw .nil pass0 (pa_cons (pv 0) (pa_cons pe_int pa_nil))) (fun _ _ => rfl)))
    (pss_cons (ps_set (i := 2) sc_law_times.nd rfl (.inl rfl) (pe_call G_law_draw (hr.mono (by omega)) (by rfl) g_law_draw k_law_draw b_law_draw .nil pass0 (pa_cons (pv 0) (pa_cons pe_int pa_nil))))
    (pss_cons (ps_set (i := 3) sc_law_times.nd rfl (.inl rfl) (pe_ix ix_tup (pe_tup (pa_cons pe_int (pa_cons pe_int (pa_cons pe_int (pa_cons pe_int pa_nil))))) (pe_call G_law_draw (hr.mono (by omega)) (by rfl) g_law_draw k_law_draw b_law_draw .nil pass0 (pa_cons (pv 0) (pa_cons pe_int pa_nil))) (fun _ _ => rfl)))
    (pss_cons (ps_set (i := 4) sc_law_times.nd rfl (.inl rfl) (pe_op op_add (pe_op op_add (pv 1) (pv 3)) (pe_ix ix_tup (pe_tup (pa_cons pe_int (pa_cons pe_int (pa_cons pe_int (pa_cons pe_int pa_nil))))) (pe_call G_law_draw (hr.mono (by omega)) (by rfl) g_law_draw k_law_draw b_law_draw .nil pass0 (pa_cons (pv 0) (pa_cons pe_int pa_nil))) (fun _ _ => rfl))))
    (pss_cons (ps_set (i := 5) sc_law_times.nd rfl (.inl rfl) (pe_op op_add (pe_callB (call_max2 rfl) (by rfl) T.max (by decide +kernel) (pa_cons (pv 4) (pa_cons (pe_op op_add (pv 3) pe_int) pa_nil))) (pe_call G_law_draw (hr.mono (by omega)) (by rfl) g_law_draw k_law_draw b_law_draw .nil pass0 (pa_cons (pv 0) (pa_cons pe_int pa_nil)))))
    (pss_one (ps_ret (pe_tup (pa_cons (pe_tup (pa_cons (pv 2) (pa_cons (pe_op op_add (pv 2) (pv 1)) pa_nil))) (pa_cons (pe_tup (pa_cons (pv 4) (pa_cons (pv 5) pa_nil))) (pa_cons (pe_call G_law_draw (hr.mono (by omega)) (by rfl) g_law_draw k_law_draw b_law_draw .nil pass0 (pa_cons (pv 0) (pa_cons pe_int pa_nil))) (pa_cons (pv 3) pa_nil)))))))))))), ?_⟩
    refine ⟨by show 4 ≤ sizeLine; decide, fun t1 nt1 => ?_⟩
    have X1 := (Px.refl hp).new (o := .tup [.int 0, .int 0, .int 1, .int 2]) nt1
    have ht1 : hid p (upd H t1 (.tup [.int 0, .int 0, .int 1, .int 2])) t1 = some (.tup (([0, 0, 1, 2] : List Int).map V.int)) := hid_new (hp.ne nt1)
    generalize upd H t1 (.tup [.int 0, .int 0, .int 1, .int 2]) = H1 at *
    refine ⟨_, rfl, p, a, 4, rfl, by decide, by decide, X1.pool, fun v H2 hv X2 _ => ?_⟩
    obtain ⟨wd, gw, bw⟩ := pick (l := [0, 0, 1, 2]) (v := v) (by show v < 4; omega) (P := fun x => 0 ≤ x ∧ x ≤ 2) (by decide)
    refine ⟨_, _, _, _, rfl, rfl, SqT.of (hid_get (X2.get ht1)), atI_nat gw, ?_⟩
    refine ⟨_, rfl, p, a, 3, rfl, by decide, by decide, X2.pool, fun lo H3 hlo X3 _ => ?_⟩
    refine ⟨by show 4 ≤ sizeLine; decide, fun t2 nt2 => ?_⟩
    have X4 := ((X1.trans X2).trans X3).new (o := .tup [.int 0, .int 0, .int 1, .int 2]) nt2
    have ht2 : hid p (upd H3 t2 (.tup [.int 0, .int 0, .int 1, .int 2])) t2 = some (.tup (([0, 0, 1, 2] : List Int).map V.int)) := hid_new (X3.pool.ne nt2)
    generalize upd H3 t2 (.tup [.int 0, .int 0, .int 1, .int 2]) = H4 at *
    refine ⟨_, rfl, p, a, 4, rfl, by decide, by decide, X4.pool, fun v2 H5 hv2 X5 _ => ?_⟩
    obtain ⟨ho, gh, bh⟩ := pick (l := [0, 0, 1, 2]) (v := v2) (by show v2 < 4; omega) (P := fun x => 0 ≤ x ∧ x ≤ 2) (by decide)
    refine ⟨_, _, _, _, rfl, rfl, SqT.of (hid_get (X5.get ht2)), atI_nat gh, ?_⟩
    refine ⟨_, rfl, _, rfl, _, _, rfl, rfl, by show 4 ≤ sizeLine; decide, fun t3 nt3 => ?_⟩
    have X6 := (X4.trans X5).new (o := .tup [.int 1, .int 1, .int 2, .int 0]) nt3
    have ht3 : hid p (upd H5 t3 (.tup [.int 1, .int 1, .int 2, .int 0])) t3 = some (.tup (([1, 1, 2, 0] : List Int).map V.int)) := hid_new (X5.pool.ne nt3)
    generalize upd H5 t3 (.tup [.int 1, .int 1, .int 2, .int 0]) = H6 at *
    refine ⟨_, rfl, p, a, 4, rfl, by decide, by decide, X6.pool, fun v3 H7 hv3 X7 _ => ?_⟩
    obtain ⟨fi, gf, bf⟩ := pick (l := [1, 1, 2, 0]) (v := v3) (by show v3 < 4; omega) (P := fun x => 0 ≤ x ∧ x ≤ 2) (by decide)
    refine ⟨_, _, _, _, rfl, rfl, SqT.of (hid_get (X7.get ht3)), atI_nat gf, _, _, rfl, rfl, ?_⟩
    obtain ⟨fst, ef⟩ : ∃ z : Int, z = wd + ho + fi := ⟨_, rfl⟩
    dsimp only
    rw [← ef]
    refine ⟨_, rfl, _, rfl, _, _, rfl, rfl, fst, ho + 1, rfl, _, rfl, p, a, 3, rfl, by decide, by decide, X7.pool, fun v4 H8 hv4 X8 _ => ?_⟩
    refine ⟨_, _, rfl, rfl, ?_⟩
    obtain ⟨lst, el⟩ : ∃ z : Int, z = (if ho + 1 > fst then ho + 1 else fst) + (v4 : Int) := ⟨_, rfl⟩
    dsimp only
    rw [← el]
    have bl : fst ≤ lst ∧ ho < lst ∧ lst ≤ 9 := by
      rw [el]
      by_cases c : ho + 1 > fst
      · rw [if_pos c]; omega
      · rw [if_neg c]; omega
    have X9 := (X6.trans X7).trans X8
    refine ⟨_, rfl, _, rfl, _, rfl, _, _, rfl, rfl, by show 2 ≤ sizeLine; decide, fun e1 ne1 => ⟨_, rfl, _, rfl, by show 2 ≤ sizeLine; decide, fun e2 ne2 => ?_⟩⟩
    have X10 := (X9.new (o := .tup [.int lo, .int ((lo : Int) + wd)]) ne1).new (o := .tup [.int fst, .int lst]) ne2
    have g1 : upd (upd H8 e1 (.tup [.int lo, .int ((lo : Int) + wd)])) e2 (.tup [.int fst, .int lst]) e1 = some (.tup [.int lo, .int ((lo : Int) + wd)]) := Ex.new ne2 _ _ upd_same
    have g2 : upd (upd H8 e1 (.tup [.int lo, .int ((lo : Int) + wd)])) e2 (.tup [.int fst, .int lst]) e2 = some (.tup [.int fst, .int lst]) := upd_same
    generalize upd (upd H8 e1 (.tup [.int lo, .int ((lo : Int) + wd)])) e2 (.tup [.int fst, .int lst]) = H9 at *
    refine ⟨_, rfl, p, a, 3, rfl, by decide, by decide, X10.pool, fun su H10 hsu X11 _ => ⟨_, rfl, by show 4 ≤ sizeLine; decide, fun t nt => ?_⟩⟩
    have T11 := (TEx.px X11).trans (TEx.new (o := .tup [.ref e1, .ref e2, .int su, .int ho]) nt)
    exact q t e1 e2 (lo, (lo : Int) + wd) (fst, lst) su ho _ ((X10.trans X11).new nt) upd_same (T11 _ _ g1) (T11 _ _ g2)
      ⟨by constructor <;> simp <;> omega, by constructor <;> simp <;> omega, by constructor <;> simp <;> omega, by constructor <;> simp <;> omega, by constructor <;> omega, by omega⟩
end
end G
namespace G
open PySem PySem.Spec PyProof.Rows L2 Evl TL
structure GateW (ns : List Str) (g : GateD) : Prop where
  few : g.pins.length ≤ 3
  pins : ∀ x ∈ g.pins, x ∈ ns
  tab : g.tab.length = 2 ^ g.pins.length
  many : g.rng.length = g.pins.length
  rng : ∀ r ∈ g.rng, SpanW r
theorem pow3 {k : Nat} (h : k ≤ 3) : 2 ^ k ≤ 8 ∧ 2 ^ 2 ^ k ≤ 256 ∧ 0 < 2 ^ k ∧ 0 < 2 ^ 2 ^ k := by
  match k, h with
  | 0, _ => decide
  | 1, _ => decide
  | 2, _ => decide
  | 3, _ => decide
  | n + 4, h => exact absurd h (by omega)
theorem shl1 (k : Nat) : (1 : Int) * 2 ^ ((k : Nat) : Int).toNat = ((2 ^ k : Nat) : Int) := by
  rw [Int.toNat_natCast, Int.one_mul]
  exact (Int.natCast_pow 2 k).symm
section
variable {P : Program} {w : World} {K : PySem.W.Frag} {mg : Str → Option Value} {base : Heap}
def spLGate : Sp := fun vs H Q _ => ∃ (p a L : Addr) (n : Str) (ns : List Str), vs = [.ref p, .str n, .ref L] ∧ PoolOk p a H ∧ hid p H L = some (.lst (ns.map V.str)) ∧ ns.length ≤ 40 ∧ ∀ (g : Addr) (gd : GateD) (H' : Hp), Px p a H H' → H g = none → GateAt H' g gd → gd.name = n → GateW ns gd → Q (.ref g) H'
theorem sc_law_gate : FnScope ["pool", "name", "nets", "pins", "chosen", "code", "table", "k"] ["pool", "name", "nets"] (defScope s_law_gate) := ⟨rfl, rfl, rfl, by decide +kernel, rfl, by decide +kernel, by decide +kernel⟩
theorem ok_law_gate (D : Dfd K mg "_law_gate" s_law_gate ["pool", "name", "nets"]) (T : TxtD mg) (C : Has P w K mg base 2 "_law_draw" ["pool", "many"] spDrawX) (C2 : Has P w K mg base 3 "_law_span" ["pool"] spLSpan) : Has P w K mg base 4 "_law_gate" ["pool", "name", "nets"] spLGate := by
  obtain ⟨f_law_draw, d_law_draw, G_law_draw, g_law_draw, k_law_draw, b_law_draw⟩ := C
  obtain ⟨f_law_span, d_law_span, G_law_span, g_law_span, k_law_span, b_law_span⟩ := C2
  refine D.has fun f fd F => F.ok sc_law_gate (fun vs H Q E h => ?_) (fun cdv A outer s H vs Q E hr h => ?_)
  · obtain ⟨p, a, L, n, ns, rfl, _⟩ := h
    rfl
  · obtain ⟨p, a, L, n, ns, rfl, hp, hL, hln, q⟩ := h
    refine ⟨_, (pss_cons (ps_set (i := 3) sc_law_gate.nd rfl (.inl rfl) (pe_ifExp (pt_cmpR op_gt (pe_callB call_len_seq (by rfl) T.len (by decide +kernel) (pa_cons (pv 2) pa_nil)) pe_int (nomark _)) (pe_ix ix_tup (pe_tup (pa_cons pe_int (pa_cons pe_int (pa_cons pe_int (pa_cons pe_int (pa_cons pe_int (pa_cons pe_int (pa_cons pe_int (pa_cons pe_int pa_nil))))))))) (pe_call G_law_draw (hr.mono (by omega)) (by rfl) g_law_draw k_law_draw b_law_draw .nil pass0 (pa_cons (pv 0) (pa_cons pe_int pa_nil))) (fun _ _ => rfl)) pe_int))
    (pss_cons (ps_set (i := 4) sc_law_gate.nd rfl (.inl rfl) (pe_callTy call_tuple_of (by rfl) T.tuple (by decide +kernel) (pa_cons (pe_lc (own := [("k", 7)]) (g := gName 7) (tt := tYes) rfl sc_law_gate.nd (pi_range1 rfl T.range (pa_cons (pv 3) pa_nil)) (blkOk_by (N := ["pool", "name", "nets", "pins", "chosen", "code", "table", "k"]) (sc := defScope s_law_gate) (own := [("k", 7)]) (by decide +kernel)) (fun _ _ _ _ _ => (pg_name (i := 7) sc_law_gate.nd rfl (.inl rfl))) (fun _ _ _ _ _ => pts_nil) (fun _ _ _ _ _ => (pe_ix (kIxL (K := K) rfl) (pv 2) (pe_call G_law_draw (hr.mono (by omega)) (by rfl) g_law_draw k_law_draw b_law_draw .nil pass0 (pa_cons (pv 0) (pa_cons (pe_callB (kLen (K := K) rfl) (by rfl) T.len (by decide +kernel) (pa_cons (pv 2) pa_nil)) pa_nil))) (fun _ _ => rfl)))) pa_nil)))
    (pss_cons (ps_set (i := 5) sc_law_gate.nd rfl (.inr rfl) (pe_call G_law_draw (hr.mono (by omega)) (by rfl) g_law_draw k_law_draw b_law_draw .nil pass0 (pa_cons (pv 0) (pa_cons (pe_op op_shl pe_int (pe_op op_shl pe_int (pv 3))) pa_nil))))
    (pss_cut (ps_if (PW.pt (pw_and (pt_cmpR op_eq (pv 3) pe_int (nomark _)) (pw_and1 (pt_cmpR op_eq (pe_call G_law_draw (hr.mono (by omega)) (by rfl) g_law_draw k_law_draw b_law_draw .nil pass0 (pa_cons (pv 0) (pa_cons pe_int pa_nil))) pe_int (nomark _)))))
      (pss_one (ps_set (i := 5) sc_law_gate.nd rfl (.inr rfl) (pe_ix ix_tup (pe_tup (pa_cons pe_int (pa_cons pe_int (pa_cons pe_int (pa_cons pe_int (pa_cons pe_int (pa_cons pe_int pa_nil))))))) (pe_call G_law_draw (hr.mono (by omega)) (by rfl) g_law_draw k_law_draw b_law_draw .nil pass0 (pa_cons (pv 0) (pa_cons pe_int pa_nil))) (fun _ _ => rfl))))
      pss_nil)
    (pss_cons (ps_set (i := 6) sc_law_gate.nd rfl (.inl rfl) (pe_callTy call_tuple_of (by rfl) T.tuple (by decide +kernel) (pa_cons (pe_lc (own := [("k", 7)]) (g := gName 7) (tt := tYes) rfl sc_law_gate.nd (pi_range1 rfl T.range (pa_cons (pe_op op_shl pe_int (pv 3)) pa_nil)) (blkOk_by (N := ["pool", "name", "nets", "pins", "chosen", "code", "table", "k"]) (sc := defScope s_law_gate) (own := [("k", 7)]) (by decide +kernel)) (fun _ _ _ _ _ => (pg_name (i := 7) sc_law_gate.nd rfl (.inl rfl))) (fun _ _ _ _ _ => pts_nil) (fun _ _ _ _ _ => (pe_cmpR op_eq (pe_op op_and (pe_op op_shr (pv 5) (pv 7)) pe_int) pe_int (nomark _)))) pa_nil)))
    (pss_one (ps_ret (pe_tup (pa_cons (pv 1) (pa_cons (pv 6) (pa_cons (pv 4) (pa_cons (pe_callTy call_tuple_of (by rfl) T.tuple (by decide +kernel) (pa_cons (pe_lc (own := [("k", 7)]) (g := gName 7) (tt := tYes) rfl sc_law_gate.nd (pi_range1 rfl T.range (pa_cons (pv 3) pa_nil)) (blkOk_by (N := ["pool", "name", "nets", "pins", "chosen", "code", "table", "k"]) (sc := defScope s_law_gate) (own := [("k", 7)]) (by decide +kernel)) (fun _ _ _ _ _ => (pg_name (i := 7) sc_law_gate.nd rfl (.inl rfl))) (fun _ _ _ _ _ => pts_nil) (fun _ _ _ _ _ => (pe_call G_law_span (hr.mono (by omega)) (by rfl) g_law_span k_law_span b_law_span .nil pass0 (pa_cons (pv 0) pa_nil)))) pa_nil)) pa_nil)))))))))))), ?_⟩
    dsimp only [gName, tSeq, tAsg]
    refine tif_by (tt := tIf _ _ _) (fun v H' => ∃ k : Nat, v = .int k ∧ k ≤ 3 ∧ (0 < k → 0 < ns.length) ∧ Px p a H H') (fun Q' kk => ?_) ?_
    · refine ⟨_, rfl, _, _, rfl, .inl (SqL.of (hid_get hL)), _, _, rfl, rfl, _, rfl, ite2 (fun c => ?_) (fun c => kk _ _ ⟨0, rfl, by decide, fun z => absurd z (by decide), Px.refl hp⟩)⟩
      have hpos : 0 < ns.length := by
        have := of_decide_eq_true c
        rw [List.length_map] at this
        omega
      refine ⟨by show 8 ≤ sizeLine; decide, fun t1 nt1 => ?_⟩
      have X1 := (Px.refl hp).new (o := .tup [.int 0, .int 1, .int 1, .int 2, .int 2, .int 2, .int 2, .int 3]) nt1
      have ht1 : hid p (upd H t1 (.tup [.int 0, .int 1, .int 1, .int 2, .int 2, .int 2, .int 2, .int 3])) t1 = some (.tup (([0, 1, 1, 2, 2, 2, 2, 3] : List Int).map V.int)) := hid_new (hp.ne nt1)
      generalize upd H t1 (.tup [.int 0, .int 1, .int 1, .int 2, .int 2, .int 2, .int 2, .int 3]) = H1 at *
      refine ⟨_, rfl, p, a, 8, rfl, by decide, by decide, X1.pool, fun v H2 hv X2 _ => ?_⟩
      obtain ⟨x, gx, bx⟩ := pick (l := [0, 1, 1, 2, 2, 2, 2, 3]) (v := v) (by show v < 8; omega) (P := fun x => 0 ≤ x ∧ x ≤ 3) (by decide)
      refine ⟨_, _, _, _, rfl, rfl, SqT.of (hid_get (X2.get ht1)), atI_nat gx, kk _ _ ⟨x.toNat, ?_, by omega, fun _ => hpos, X1.trans X2⟩⟩
      rw [show ((x.toNat : Nat) : Int) = x by omega]
    rintro _ H1 ⟨k, rfl, hk3, hkn, X1⟩
    obtain ⟨p8, p256, pp, ppp⟩ := pow3 hk3
    have nsV : ∀ {u : Nat} (h : u < ns.length), (ns.map V.str)[u]? = some (.str ns[u]) := fun h => strV_at h
    refine ⟨_, rfl, k, rfl, by omega, by omega, fun L7 nL7 => lc_range (lo := 0) (n := ((k : Nat) : Int).toNat)
      (fun j H' => Px p a H1 H' ∧ ∃ ps : List Str, hid p H' L7 = some (.lst (ps.map V.str)) ∧ ps.length = j ∧ ∀ x ∈ ps, x ∈ ns)
      ⟨(Px.refl X1.pool).new nL7, [], hid_new (X1.pool.ne nL7), rfl, (fun _ h => nomatch h)⟩ ?_ ?_⟩
    · rintro j H2 hj ⟨X2, ps, hps, hpl, hpm⟩
      rw [Int.toNat_natCast] at hj
      have hL2 := X2.get (X1.get hL)
      refine ⟨rfl, tYes_in ?_⟩
      simp only [wipe, _root_.L2.start, List.map_cons, List.map_nil, List.length_cons, List.length_nil, Nat.reduceAdd, Nat.reduceSub, List.replicate_succ, List.replicate_zero, List.cons_append, List.nil_append, List.set_cons_zero, List.set_cons_succ]
      refine ⟨_, rfl, _, rfl, _, rfl, _, _, rfl, .inl (SqL.of (hid_get hL2)), p, a, ns.length, by rw [List.length_map]; rfl, by have := hkn (by omega); omega, by omega, X2.pool, fun u H3 hu X3 _ => ?_⟩
      have hu' : u < ns.length := by omega
      refine ⟨_, _, _, _, rfl, rfl, SqL.of (hid_get (X3.get hL2)), atI_nat (nsV hu'), _, hid_get (X3.get hps), sz_lt (by rw [List.length_map]; omega), (X2.trans X3).mut nL7, ps ++ [ns[u]], ?_, by rw [List.length_append, hpl]; rfl, fun x hx => ?_⟩
      · rw [hid_new (X1.pool.ne nL7), List.map_append]; rfl
      · rcases List.mem_append.mp hx with z | z
        · exact hpm x z
        · rw [List.mem_singleton.mp z]; exact List.getElem_mem hu'
    rintro H2 ⟨X2, ps, hps, hpl, hpm⟩
    rw [Int.toNat_natCast] at hpl
    refine ⟨_, _, rfl, .inl ⟨SqL.of (hid_get hps), fun pt npt => ?_⟩⟩
    have X3 := (X1.trans X2).new (o := .tup (ps.map V.str)) npt
    have hpt : upd H2 pt (.tup (ps.map V.str)) pt = some (.tup (ps.map V.str)) := upd_same
    generalize upd H2 pt (.tup (ps.map V.str)) = H3 at *
    refine ⟨_, rfl, _, rfl, _, _, rfl, rfl, ⟨by omega, by omega, by decide⟩, ?_⟩
    simp only [shl1]
    refine ⟨_, _, rfl, rfl, ⟨by omega, by omega, by decide⟩, ?_⟩
    simp only [shl1]
    refine ⟨p, a, ((2 ^ 2 ^ k : Nat) : Int), rfl, by omega, by omega, X3.pool, fun cd H4 hcd X4 _ => ?_⟩
    have T4 := TEx.px X4
    refine ⟨fun σ H' => Px p a H3 H' ∧ ∃ c : Int, σ = [some (.ref p), some (.str n), some (.ref L), some (.int (k : Int)), some (.ref pt), some (.int c), none, none], ?_, ?_⟩
    · refine ⟨_, rfl, rfl, _, rfl, ite2 (fun c1 => ?_) (fun c1 => iteF ⟨X4, _, rfl⟩)⟩
      refine ⟨_, rfl, p, a, 2, rfl, by decide, by decide, X4.pool, fun v H5 hv X5 _ => ⟨rfl, _, rfl, ite2 (fun c2 => ?_) (fun c2 => ⟨X4.trans X5, _, rfl⟩)⟩⟩
      refine ⟨by show 6 ≤ sizeLine; decide, fun t2 nt2 => ?_⟩
      have X6 := (Px.refl X5.pool).new (o := .tup [.int 8, .int 14, .int 6, .int 2, .int 7, .int 1]) nt2
      have ht2 : hid p (upd H5 t2 (.tup [.int 8, .int 14, .int 6, .int 2, .int 7, .int 1])) t2 = some (.tup (([8, 14, 6, 2, 7, 1] : List Int).map V.int)) := hid_new (X5.pool.ne nt2)
      generalize upd H5 t2 (.tup [.int 8, .int 14, .int 6, .int 2, .int 7, .int 1]) = H6 at *
      refine ⟨_, rfl, p, a, 6, rfl, by decide, by decide, X6.pool, fun v2 H7 hv2 X7 _ => ?_⟩
      obtain ⟨x, gx, bx⟩ := pick (l := [8, 14, 6, 2, 7, 1]) (v := v2) (by show v2 < 6; omega) (P := fun x => True) (fun _ _ => trivial)
      exact ⟨_, _, _, _, rfl, rfl, SqT.of (hid_get (X7.get ht2)), atI_nat gx, (X4.trans X5).trans (X6.trans X7), _, rfl⟩
    rintro σ H5 ⟨X5, cd2, rfl⟩
    refine ⟨_, rfl, _, _, rfl, rfl, ⟨by omega, by omega, by decide⟩, ?_⟩
    simp only [shl1]
    refine ⟨((2 ^ k : Nat) : Int), rfl, by omega, by omega, fun L8 nL8 => lc_range (lo := 0) (n := ((2 ^ k : Nat) : Int).toNat)
      (fun j H' => Ex H5 H' ∧ ∃ bs : List Bool, H' L8 = some (.lst (bs.map V.bl)) ∧ bs.length = j) ⟨Ex.new nL8, [], upd_same, rfl⟩ ?_ ?_⟩
    · rintro j H6 hj ⟨E6, bs, hbs, hbl⟩
      rw [Int.toNat_natCast] at hj
      refine ⟨rfl, tYes_in ?_⟩
      simp only [wipe, _root_.L2.start, List.map_cons, List.map_nil, List.length_cons, List.length_nil, Nat.reduceAdd, Nat.reduceSub, List.replicate_succ, List.replicate_zero, List.cons_append, List.nil_append, List.set_cons_zero, List.set_cons_succ]
      refine ⟨_, rfl, _, rfl, _, _, rfl, rfl, by omega, _, _, rfl, rfl, rfl, _, hbs, sz_lt (by rw [List.length_map]; omega), E6.mut nL8, bs ++ [decide (V.int (Builtin.bitAnd (cd2 / 2 ^ ((0 : Int) + (j : Int)).toNat) 1) = V.int 1)], ?_, by rw [List.length_append, hbl]; rfl⟩
      rw [upd_same, List.map_append]; rfl
    rintro H6 ⟨E6, bs, hbs, hbl⟩
    rw [Int.toNat_natCast] at hbl
    refine ⟨_, _, rfl, .inl ⟨SqL.of hbs, fun tt ntt => ?_⟩⟩
    have X7 := (X5.more E6).new (o := .tup (bs.map V.bl)) ntt
    have htt : upd H6 tt (.tup (bs.map V.bl)) tt = some (.tup (bs.map V.bl)) := upd_same
    generalize upd H6 tt (.tup (bs.map V.bl)) = H7 at *
    refine ⟨_, rfl, _, rfl, _, rfl, _, rfl, k, rfl, by omega, by omega, fun L9 nL9 => lc_range (lo := 0) (n := ((k : Nat) : Int).toNat)
      (fun j H' => Px p a H7 H' ∧ ∃ (ra : List Addr) (R : List (Int × Int)), hid p H' L9 = some (.lst (ra.map V.ref)) ∧ All2 (IntsAt H') ra R ∧ R.length = j ∧ ∀ r ∈ R, SpanW r)
      ⟨(Px.refl X7.pool).new nL9, [], [], hid_new (X7.pool.ne nL9), .nil, rfl, (fun _ h => nomatch h)⟩ ?_ ?_⟩
    · rintro j H8 hj ⟨X8, ra, R, hra, hR, hRl, hRm⟩
      rw [Int.toNat_natCast] at hj
      refine ⟨rfl, tYes_in ?_⟩
      simp only [wipe, _root_.L2.start, List.map_cons, List.map_nil, List.length_cons, List.length_nil, Nat.reduceAdd, Nat.reduceSub, List.replicate_succ, List.replicate_zero, List.cons_append, List.nil_append, List.set_cons_zero, List.set_cons_succ]
      refine ⟨_, rfl, p, a, rfl, X8.pool, fun e r H9 X9 ne he hw => ?_⟩
      have hra9 := X9.get hra
      refine ⟨_, hid_get hra9, sz_lt (by rw [List.length_map, hR.1]; omega), (X8.trans X9).mut nL9, ra ++ [e], R ++ [r], ?_, ?_, by rw [List.length_append, hRl]; rfl, fun r' hr' => ?_⟩
      · rw [hid_new (X7.pool.ne nL9), List.map_append]; rfl
      · exact ((hR.imp fun _ _ z => z.te (TEx.px X9)).snoc he).imp fun _ _ z => z.te (TEx.mut (hid_get hra9))
      · rcases List.mem_append.mp hr' with z | z
        · exact hRm r' z
        · rw [List.mem_singleton.mp z]; exact hw
    rintro H8 ⟨X8, ra, R, hra, hR, hRl, hRm⟩
    rw [Int.toNat_natCast] at hRl
    refine ⟨_, _, rfl, .inl ⟨SqL.of (hid_get hra), fun rt nrt => ⟨by show 4 ≤ sizeLine; decide, fun g ng => ?_⟩⟩⟩
    have X9 := ((Px.refl X8.pool).new (o := .tup (ra.map V.ref)) nrt).new (o := .tup [.str n, .ref tt, .ref pt, .ref rt]) ng
    have hrt : upd (upd H8 rt (.tup (ra.map V.ref))) g (.tup [.str n, .ref tt, .ref pt, .ref rt]) rt = some (.tup (ra.map V.ref)) := Ex.new ng _ _ upd_same
    have hg : upd (upd H8 rt (.tup (ra.map V.ref))) g (.tup [.str n, .ref tt, .ref pt, .ref rt]) g = some (.tup [.str n, .ref tt, .ref pt, .ref rt]) := upd_same
    have ngH : H8 g = none := ((Px.refl X8.pool).new (o := .tup (ra.map V.ref)) nrt).free ng
    generalize upd (upd H8 rt (.tup (ra.map V.ref))) g (.tup [.str n, .ref tt, .ref pt, .ref rt]) = H9 at *
    have Z := X8.trans X9
    have Tz := TEx.px Z
    exact q g ⟨n, bs, ps, R⟩ H9 ((X3.trans X7).trans Z) ((X3.trans (X7.trans X8)).free ngH) ⟨tt, pt, rt, ra, hg, Tz _ _ htt, Tz _ _ (TEx.px X7 _ _ hpt), hrt, hR.imp fun _ _ z => z.te (TEx.px X9)⟩ rfl ⟨by show ps.length ≤ 3; omega, hpm, by show bs.length = 2 ^ ps.length; rw [hbl, hpl], by show R.length = ps.length; omega, hRm⟩
end
end G
namespace G
open PySem PySem.Spec PyProof.Rows L2 Evl TL
/-- the drawn circuit: its gates in the order of their making, each reads what stood before it -/
structure CircN (ni nr most : Nat) (d : CircD) (Gs : List GateD) (ns : List Str) : Prop where
  nm : NamesK ns
  len : ns.length = ni + nr + most
  ins : d.ins = ns.take ni
  few : Gs.length ≤ most
  gates : ∀ k g, Gs[k]? = some g → ns[ni + nr + k]? = some g.name ∧ GateW (ns.take (ni + nr + k)) g
  perm : d.gates.Perm Gs
  rlen : d.regs.length = nr
  regs : ∀ k r, d.regs[k]? = some r → ns[ni + k]? = some r.name ∧ r.net ∈ ns.take (ni + nr + Gs.length) ∧ TimesW r.edge r.out r.setup r.hold
  outs : d.outs = []
theorem All2.ins {α β : Type} {R : α → β → Prop} {as : List α} {bs : List β} {a : α} {b : β} (h : All2 R as bs) (r : R a b) (v : Nat) : All2 R (as.take v ++ [a] ++ as.drop v) (bs.take v ++ [b] ++ bs.drop v) := by
  have hl := h.1
  refine ⟨by simp only [List.length_append, List.length_take, List.length_drop, List.length_cons, List.length_nil, hl], fun i x y hx hy => ?_⟩
  rw [List.append_assoc] at hx hy
  rcases Nat.lt_or_ge i (as.take v).length with lt | ge
  · have lt' : i < (bs.take v).length := by rw [List.length_take, ← hl, ← List.length_take]; exact lt
    rw [List.getElem?_append_left lt] at hx
    rw [List.getElem?_append_left lt'] at hy
    rw [List.getElem?_take] at hx hy
    have c : i < v := by rw [List.length_take] at lt; omega
    rw [if_pos c] at hx hy
    exact h.2 i x y hx hy
  · have ge' : (bs.take v).length ≤ i := by rw [List.length_take, ← hl, ← List.length_take]; exact ge
    have el : (as.take v).length = (bs.take v).length := by rw [List.length_take, List.length_take, hl]
    rw [List.getElem?_append_right ge] at hx
    rw [List.getElem?_append_right ge'] at hy
    rw [← el] at hy
    generalize i - (as.take v).length = m at hx hy
    cases m with
    | zero => cases hx; cases hy; exact r
    | succ m =>
      rw [List.cons_append, List.getElem?_cons_succ, List.nil_append, List.getElem?_drop] at hx hy
      exact h.2 _ x y hx hy
theorem ins_perm {α : Type} {F Gs : List α} {g : α} (v : Nat) (h : F.Perm Gs) : (F.take v ++ [g] ++ F.drop v).Perm (Gs ++ [g]) := by
  have e : (F.take v ++ [g] ++ F.drop v).Perm (F ++ [g]) := by
    rw [List.append_assoc]
    conv => rhs; rw [← List.take_append_drop v F, List.append_assoc]
    exact List.Perm.append_left _ List.perm_append_comm
  exact e.trans (h.append_right _)
theorem take_at {α : Type} {l : List α} {k j : Nat} {x : α} (h : l[k]? = some x) (lt : k < j) : x ∈ l.take j := by
  obtain ⟨hk, rfl⟩ := List.getElem?_eq_some_iff.mp h
  exact List.mem_iff_getElem.mpr ⟨k, by rw [List.length_take]; omega, by rw [List.getElem_take]⟩
theorem take_mono {α : Type} {l : List α} {i j : Nat} (h : i ≤ j) {x : α} (m : x ∈ l.take i) : x ∈ l.take j := by
  obtain ⟨k, hk, e⟩ := List.getElem_of_mem m
  rw [List.getElem_take] at e
  rw [List.length_take] at hk
  exact take_at (k := k) (List.getElem?_eq_some_iff.mpr ⟨by omega, e⟩) (by omega)
section
variable {P : Program} {w : World} {K : PySem.W.Frag} {mg : Str → Option Value} {base : Heap}
def spLCirc : Sp := fun vs H Q _ => ∃ (p a : Addr) (ni nr most : Nat), vs = [.ref p, .int ni, .int nr, .int most] ∧ ni + nr + most ≤ 16 ∧ PoolOk p a H ∧ ∀ (c : Addr) (d : CircD) (Gs : List GateD) (ns : List Str) (it gt rt ot : Addr) (ga ra oa : List Addr) (H' : Hp),
  Px p a H H' → H c = none → CircAt H' c d it gt rt ot ga ra oa → CircN ni nr most d Gs ns → Q (.ref c) H'
theorem sc_law_circuit : FnScope ["pool", "inputs", "regs", "most", "names", "nets", "gates", "k", "gate", "rows", "net", "times"] ["pool", "inputs", "regs", "most"] (defScope s_law_circuit) := ⟨rfl, rfl, rfl, by decide +kernel, rfl, by decide +kernel, by decide +kernel⟩
theorem ok_law_circuit (D : Dfd K mg "_law_circuit" s_law_circuit ["pool", "inputs", "regs", "most"]) (T : TxtD mg) (C : Has P w K mg base 2 "_law_draw" ["pool", "many"] spDrawX) (C2 : Has P w K mg base 3 "_law_names" ["pool", "many"] spLNames) (C3 : Has P w K mg base 4 "_law_gate" ["pool", "name", "nets"] spLGate) (C4 : Has P w K mg base 3 "_law_times" ["pool"] spLTimes) :
    Has P w K mg base 5 "_law_circuit" ["pool", "inputs", "regs", "most"] spLCirc := by
  obtain ⟨f_law_draw, d_law_draw, G_law_draw, g_law_draw, k_law_draw, b_law_draw⟩ := C
  obtain ⟨f_law_names, d_law_names, G_law_names, g_law_names, k_law_names, b_law_names⟩ := C2
  obtain ⟨f_law_gate, d_law_gate, G_law_gate, g_law_gate, k_law_gate, b_law_gate⟩ := C3
  obtain ⟨f_law_times, d_law_times, G_law_times, g_law_times, k_law_times, b_law_times⟩ := C4
  refine D.has fun f fd F => F.ok sc_law_circuit (fun vs H Q E h => ?_) (fun cdv A outer s H vs Q E hr h => ?_)
  · obtain ⟨p, a, ni, nr, most, rfl, _⟩ := h
    rfl
  · obtain ⟨p, a, ni, nr, most, rfl, h16, hp, q⟩ := h
    refine ⟨_, (pss_cons (ps_set (i := 4) sc_law_circuit.nd rfl (.inl rfl) (pe_call G_law_names (hr.mono (by omega)) (by rfl) g_law_names k_law_names b_law_names .nil pass0 (pa_cons (pv 0) (pa_cons (pe_op op_add (pe_op op_add (pv 1) (pv 2)) (pv 3)) pa_nil))))
    (pss_cons (ps_set (i := 5) sc_law_circuit.nd rfl (.inl rfl) (pe_callTy call_list_of (by rfl) T.list (by decide +kernel) (pa_cons (pe_slice sl_list (pv 4) po_none (po_some (pe_op op_add (pv 1) (pv 2)))) pa_nil)))
    (pss_cons (ps_set (i := 6) sc_law_circuit.nd rfl (.inl rfl) (pe_lst pa_nil))
    (pss_cons (ps_for PassesOwn.never rfl (pi_range1 rfl T.range (pa_cons (pe_call G_law_draw (hr.mono (by omega)) (by rfl) g_law_draw k_law_draw b_law_draw .nil pass0 (pa_cons (pv 0) (pa_cons (pe_op op_add (pv 3) pe_int) pa_nil))) pa_nil)) (pg_name (i := 7) sc_law_circuit.nd rfl (.inl rfl))
      (pss_cons (ps_set (i := 8) sc_law_circuit.nd rfl (.inl rfl) (pe_call G_law_gate (hr.mono (by omega)) (by rfl) g_law_gate k_law_gate b_law_gate .nil pass0 (pa_cons (pv 0) (pa_cons (pe_ix ix_list (pv 4) (pe_op op_add (pe_op op_add (pv 1) (pv 2)) (pv 7)) (fun _ _ => rfl)) (pa_cons (pv 5) pa_nil)))))
      (pss_cons (ps_expr (pe_bm PySem.F.plainAttrs_list PySem.F.slot_list_append PySem.F.type_list_append mt_append (pv 5) (pa_cons (pe_ix ix_tup (pv 8) pe_int (fun _ _ => rfl)) pa_nil)))
      (pss_one (ps_expr (pe_bm PySem.F.plainAttrs_list PySem.F.slot_list_insert PySem.F.type_list_insert mt_insert (pv 6) (pa_cons (pe_call G_law_draw (hr.mono (by omega)) (by rfl) g_law_draw k_law_draw b_law_draw .nil pass0 (pa_cons (pv 0) (pa_cons (pe_op op_add (pe_callB call_len_seq (by rfl) T.len (by decide +kernel) (pa_cons (pv 6) pa_nil)) pe_int) pa_nil))) (pa_cons (pv 8) pa_nil))))))))
    (pss_cons (ps_set (i := 9) sc_law_circuit.nd rfl (.inl rfl) (pe_lst pa_nil))
    (pss_cons (ps_for PassesOwn.never rfl (pi_range1 rfl T.range (pa_cons (pv 2) pa_nil)) (pg_name (i := 7) sc_law_circuit.nd rfl (.inl rfl))
      (pss_cons (ps_set (i := 10) sc_law_circuit.nd rfl (.inl rfl) (pe_ix ix_list (pv 5) (pe_op op_sub (pe_op op_sub (pe_callB call_len_seq (by rfl) T.len (by decide +kernel) (pa_cons (pv 5) pa_nil)) pe_int) (pe_op op_fdiv (pe_call G_law_draw (hr.mono (by omega)) (by rfl) g_law_draw k_law_draw b_law_draw .nil pass0 (pa_cons (pv 0) (pa_cons (pe_callB call_len_seq (by rfl) T.len (by decide +kernel) (pa_cons (pv 5) pa_nil)) pa_nil))) pe_int)) (fun _ _ => rfl)))
      (pss_cons (ps_set (i := 11) sc_law_circuit.nd rfl (.inl rfl) (pe_call G_law_times (hr.mono (by omega)) (by rfl) g_law_times k_law_times b_law_times .nil pass0 (pa_cons (pv 0) pa_nil)))
      (pss_one (ps_expr (pe_bm PySem.F.plainAttrs_list PySem.F.slot_list_append PySem.F.type_list_append mt_append (pv 9) (pa_cons (pe_tup (pa_cons (pe_ix ix_list (pv 4) (pe_op op_add (pv 1) (pv 7)) (fun _ _ => rfl)) (pa_cons (pv 10) (pa_cons (pe_ix ix_tup (pv 11) pe_int (fun _ _ => rfl)) (pa_cons (pe_ix ix_tup (pv 11) pe_int (fun _ _ => rfl)) (pa_cons (pe_ix ix_tup (pv 11) pe_int (fun _ _ => rfl)) (pa_cons (pe_ix ix_tup (pv 11) pe_int (fun _ _ => rfl)) (pa_cons (pe_cmpR op_eq (pe_call G_law_draw (hr.mono (by omega)) (by rfl) g_law_draw k_law_draw b_law_draw .nil pass0 (pa_cons (pv 0) (pa_cons pe_int pa_nil))) pe_int (nomark _)) pa_nil)))))))) pa_nil)))))))
    (pss_one (ps_ret (pe_tup (pa_cons (pe_callTy call_tuple_of (by rfl) T.tuple (by decide +kernel) (pa_cons (pe_slice sl_list (pv 4) po_none (po_some (pv 1))) pa_nil)) (pa_cons (pe_callTy call_tuple_of (by rfl) T.tuple (by decide +kernel) (pa_cons (pv 6) pa_nil)) (pa_cons (pe_callTy call_tuple_of (by rfl) T.tuple (by decide +kernel) (pa_cons (pv 9) pa_nil)) (pa_cons (pe_tup pa_nil) pa_nil))))))))))))), ?_⟩
    refine ⟨_, rfl, _, rfl, _, rfl, _, _, rfl, rfl, _, rfl, _, _, rfl, rfl, p, a, ni + nr + most, rfl, h16, hp, fun l4 ns H1 X1 nl4 hl4 hns hnk => ?_⟩
    refine ⟨_, rfl, _, rfl, _, rfl, _, _, rfl, rfl, _, rfl, l4, _, rfl, SqL.of (hid_get hl4), fun cc ncc => ?_⟩
    rw [show ((ni : Int) + (nr : Int)) = ((ni + nr : Nat) : Int) from rfl, cutV_head (by rw [List.length_map]; omega), ← List.map_take]
    refine ⟨_, _, rfl, .inl (SqL.of upd_same), fun n5 nn5 => ⟨Nat.zero_le _, fun l6 nl6 => ?_⟩⟩
    have Xa := (Px.refl X1.pool).new (o := .lst ((ns.take (ni + nr)).map V.str)) ncc
    have Xb := (Px.refl Xa.pool).new (o := .lst ((ns.take (ni + nr)).map V.str)) nn5
    have Xc := (Px.refl Xb.pool).new (o := .lst []) nl6
    have n5p : n5 ≠ p := Xa.pool.ne nn5
    have l6p : l6 ≠ p := Xb.pool.ne nl6
    have h5 : hid p (upd (upd (upd H1 cc (.lst ((ns.take (ni + nr)).map V.str))) n5 (.lst ((ns.take (ni + nr)).map V.str))) l6 (.lst [])) n5 = some (.lst ((ns.take (ni + nr)).map V.str)) := Xc.get (hid_new n5p)
    have h6 : hid p (upd (upd (upd H1 cc (.lst ((ns.take (ni + nr)).map V.str))) n5 (.lst ((ns.take (ni + nr)).map V.str))) l6 (.lst [])) l6 = some (.lst []) := hid_new l6p
    have h4 := (Xa.trans (Xb.trans Xc)).get hl4
    have n56 : n5 ≠ l6 := ne_of_none (hid_get (hid_new n5p (H := upd H1 cc (.lst ((ns.take (ni + nr)).map V.str))) (o := .lst ((ns.take (ni + nr)).map V.str)))) nl6
    have fr5 : H1 n5 = none := Xa.free nn5
    have fr6 : H1 l6 = none := (Xa.trans Xb).free nl6
    have X2 := Xa.trans (Xb.trans Xc)
    have n54 : l4 ≠ n5 := ne_of_none (hid_get hl4) fr5
    have n64 : l4 ≠ l6 := ne_of_none (hid_get hl4) fr6
    generalize upd (upd (upd H1 cc (.lst ((ns.take (ni + nr)).map V.str))) n5 (.lst ((ns.take (ni + nr)).map V.str))) l6 (.lst []) = H2 at *
    clear Xa Xb Xc ncc nn5 nl6
    refine ⟨_, rfl, _, rfl, _, _, rfl, rfl, p, a, (most : Int) + 1, rfl, by omega, by omega, X2.pool, fun m H3 hm X3 _ => ⟨m, rfl, by omega, by omega, for_range (n := ((m : Nat) : Int).toNat)
      (fun i σ H' => Px p a H1 H' ∧ hid p H' l4 = some (.lst (ns.map V.str)) ∧ hid p H' n5 = some (.lst ((ns.take (ni + nr + i)).map V.str)) ∧ ∃ (ga : List Addr) (Fs Gs : List GateD) (y z : Option V), hid p H' l6 = some (.lst (ga.map V.ref)) ∧ All2 (GateAt H') ga Fs ∧ Fs.Perm Gs ∧ Gs.length = i ∧
        (∀ k g, Gs[k]? = some g → ns[ni + nr + k]? = some g.name ∧ GateW (ns.take (ni + nr + k)) g) ∧ σ = [some (.ref p), some (.int ni), some (.int nr), some (.int most), some (.ref l4), some (.ref n5), some (.ref l6), y, z, none, none, none])
      ⟨X2.trans X3, X3.get h4, X3.get h5, [], [], [], _, _, X3.get h6, .nil, .refl _, rfl, (fun _ _ h => by cases h), rfl⟩ ?_ ?_⟩⟩
    · rintro i σ H4 hi ⟨X4, g4, g5, ga, Fs, Gs, y, z, g6, hF, hperm, hGl, hG, rfl⟩
      rw [Int.toNat_natCast] at hi
      have hlt : ni + nr + i < ns.length := by omega
      have gn := strV_at hlt
      have ei : (0 : Int) + (i : Int) = (i : Int) := Int.zero_add _
      rw [ei]
      refine ⟨_, rfl, _, rfl, _, rfl, _, rfl, _, _, rfl, rfl, _, rfl, _, _, rfl, rfl, _, _, _, _, rfl, rfl, SqL.of (hid_get g4), at_of (j := ni + nr + i) (by omega) gn, _, rfl, p, a, n5, ns[ni + nr + i], ns.take (ni + nr + i), rfl, X4.pool, g5, by rw [List.length_take]; omega, fun g gd H5 X5 ng hg hgn hgw => ?_⟩
      obtain ⟨t', pt', rt', ra', e1, e2, e3, e4, e5⟩ := id hg
      have g5' := X5.get g5
      have g6' := X5.get g6
      have g4' := X5.get g4
      refine ⟨_, rfl, .inl ⟨rfl, _, SqL.of (hid_get g5')⟩, _, rfl, _, _, _, _, rfl, rfl, SqT.of e1, atI_nat (j := 0) rfl, n5, _, .str gd.name, rfl, rfl, hid_get g5', sz_lt (by rw [List.length_map, List.length_take]; omega), ?_⟩
      have T6 : TEx H5 (upd H5 n5 (.lst ((ns.take (ni + nr + i)).map V.str ++ [.str gd.name]))) := TEx.mut (hid_get g5')
      have X6 : Px p a H1 (upd H5 n5 (.lst ((ns.take (ni + nr + i)).map V.str ++ [.str gd.name]))) := (X4.trans X5).mut fr5
      have r4 := keep1 (o' := .lst ((ns.take (ni + nr + i)).map V.str ++ [.str gd.name])) g4' n54 n5p
      have r6 := keep1 (o' := .lst ((ns.take (ni + nr + i)).map V.str ++ [.str gd.name])) g6' n56.symm n5p
      have r5 : hid p (upd H5 n5 (.lst ((ns.take (ni + nr + i)).map V.str ++ [.str gd.name]))) n5 = some (.lst ((ns.take (ni + nr + (i + 1))).map V.str)) := by
        rw [hid_new n5p, hgn, ← Nat.add_assoc, List.take_add_one, List.getElem?_eq_getElem hlt, List.map_append]; rfl
      have hF6 : All2 (GateAt (upd H5 n5 (.lst ((ns.take (ni + nr + i)).map V.str ++ [.str gd.name])))) ga Fs := hF.imp fun _ _ z => (z.te (TEx.px X5)).te T6
      have hg6 := hg.te T6
      generalize upd H5 n5 (.lst ((ns.take (ni + nr + i)).map V.str ++ [.str gd.name])) = H6 at *
      refine ⟨_, rfl, .inl ⟨rfl, _, SqL.of (hid_get r6)⟩, _, rfl, _, rfl, _, _, rfl, .inl (SqL.of (hid_get r6)), _, _, rfl, rfl, p, a, (((ga.map V.ref).length : Nat) : Int) + 1, rfl, by omega, by rw [List.length_map, hF.1, hperm.length_eq, hGl]; omega, X6.pool, fun v H7 hv X7 _ => ?_⟩
      have s6 := X7.get r6
      have T8 : TEx H7 (upd H7 l6 (.lst ((ga.map V.ref).take ((v : Nat) : Int).toNat ++ [.ref g] ++ (ga.map V.ref).drop ((v : Nat) : Int).toNat))) := TEx.mut (hid_get s6)
      have hgl : ga.length = i := by rw [hF.1, hperm.length_eq, hGl]
      refine ⟨_, rfl, l6, ga.map V.ref, (v : Int), .ref g, rfl, rfl, hid_get s6, sz_lt (by rw [List.length_map]; omega), by omega, by rw [List.length_map] at hv; omega, (X6.trans X7).mut fr6, keep1 (X7.get r4) n64 l6p, keep1 (X7.get r5) n56 l6p, ga.take v ++ [g] ++ ga.drop v, Fs.take v ++ [gd] ++ Fs.drop v, Gs ++ [gd], _, _, ?_, ?_, ins_perm v hperm, by rw [List.length_append, hGl]; rfl, fun k g' hk => ?_, rfl⟩
      · rw [hid_new l6p, Int.toNat_natCast, List.map_append, List.map_append, List.map_take, List.map_drop]; rfl
      · exact ((hF6.imp fun _ _ z => z.te (TEx.px X7)).ins (hg6.te (TEx.px X7)) v).imp fun _ _ z => z.te T8
      · rcases Nat.lt_or_ge k Gs.length with lt | ge
        · rw [List.getElem?_append_left lt] at hk
          exact hG k g' hk
        · rw [List.getElem?_append_right ge] at hk
          have hk0 : k - Gs.length = 0 := by
            cases e : k - Gs.length with
            | zero => rfl
            | succ n => rw [e] at hk; cases hk
          rw [hk0] at hk
          cases hk
          have : k = i := by omega
          subst this
          exact ⟨by rw [hgn]; exact List.getElem?_eq_getElem hlt, hgw⟩
    rintro σ H4 ⟨X4, g4, g5, ga, Fs, Gs, y, z, g6, hF, hperm, hGl, hG, rfl⟩
    rw [Int.toNat_natCast] at hGl g5
    refine ⟨Nat.zero_le _, fun l9 nl9 => ?_⟩
    have X5 := (Px.refl X4.pool).new (o := .lst []) nl9
    have l9p : l9 ≠ p := X4.pool.ne nl9
    have g9 : hid p (upd H4 l9 (.lst [])) l9 = some (.lst []) := hid_new l9p
    generalize upd H4 l9 (.lst []) = H5 at *
    refine ⟨_, rfl, nr, rfl, by omega, by omega, for_range (n := ((nr : Nat) : Int).toNat)
      (fun j σ H' => Px p a H4 H' ∧ ∃ (ra : List Addr) (R : List RegD) (y z x10 x11 : Option V), hid p H' l9 = some (.lst (ra.map V.ref)) ∧ All2 (RegAt H') ra R ∧ R.length = j ∧
        (∀ k r, R[k]? = some r → ns[ni + k]? = some r.name ∧ r.net ∈ ns.take (ni + nr + Gs.length) ∧ TimesW r.edge r.out r.setup r.hold) ∧
        σ = [some (.ref p), some (.int ni), some (.int nr), some (.int most), some (.ref l4), some (.ref n5), some (.ref l6), y, z, some (.ref l9), x10, x11])
      ⟨X5, [], [], _, _, _, _, g9, .nil, rfl, (fun _ _ h => by cases h), rfl⟩ ?_ ?_⟩
    · rintro j σ H6 hj ⟨X6, ra, R, y, z, x10, x11, k9, hR, hRl, hRm, rfl⟩
      rw [Int.toNat_natCast] at hj
      have k5 := X6.get g5
      have hN : ((ns.take (ni + nr + m)).map V.str).length = ni + nr + m := by rw [List.length_map, List.length_take]; omega
      have hN2 : (ns.take (ni + nr + m)).length = ni + nr + m := by rw [List.length_take]; omega
      have ei : (0 : Int) + (j : Int) = (j : Int) := Int.zero_add _
      rw [ei]
      refine ⟨_, rfl, _, rfl, _, _, rfl, .inl (SqL.of (hid_get k5)), _, _, rfl, rfl, _, rfl, _, rfl, _, _, rfl, .inl (SqL.of (hid_get k5)), ?_⟩
      rw [hN]
      refine ⟨p, a, ((ni + nr + m : Nat) : Int), rfl, by omega, by omega, X6.pool, fun v H7 hv X7 _ => ?_⟩
      have hu : ni + nr + m - 1 - v / 2 < (ns.take (ni + nr + m)).length := by omega
      refine ⟨_, _, rfl, rfl, ⟨by decide, by decide⟩, _, _, rfl, rfl, _, _, _, _, rfl, rfl, SqL.of (hid_get (X7.get k5)), at_of (j := ni + nr + m - 1 - v / 2) (by omega) (strV_at hu), ?_⟩
      have hnet := List.getElem_mem hu
      generalize (ns.take (ni + nr + m))[ni + nr + m - 1 - v / 2] = net at *
      refine ⟨_, rfl, p, a, rfl, X7.pool, fun t ea oa e o su ho H8 X8 ht he ho' hw => ?_⟩
      have Z8 := X7.trans X8
      have k4 := (X6.trans Z8).get g4
      have k9' := Z8.get k9
      have gn := strV_at (us := ns) (i := ni + j) (by omega)
      refine ⟨_, rfl, .inl ⟨rfl, _, SqL.of (hid_get k9')⟩, _, rfl, _, rfl, _, rfl, _, _, rfl, rfl, _, _, _, _, rfl, rfl, SqL.of (hid_get k4), at_of (j := ni + j) (by omega) gn, _, rfl, _, rfl, _, _, _, _, rfl, rfl, SqT.of ht, atI_nat (j := 0) rfl, _, rfl, _, _, _, _, rfl, rfl, SqT.of ht, atI_nat (j := 1) rfl, _, rfl, _, _, _, _, rfl, rfl, SqT.of ht, atI_nat (j := 2) rfl, _, rfl, _, _, _, _, rfl, rfl, SqT.of ht, atI_nat (j := 3) rfl, ?_⟩
      refine ⟨_, rfl, p, a, 2, rfl, by decide, by decide, X8.pool, fun v2 H9 hv2 X9 _ => ⟨rfl, by show 7 ≤ sizeLine; decide, fun x nx => ?_⟩⟩
      have X10 := X9.new (o := .tup [.str ns[ni + j], .str net, .ref ea, .ref oa, .int su, .int ho, .bl (decide (V.int (v2 : Int) = V.int 1))]) nx
      have hx : upd H9 x (.tup [.str ns[ni + j], .str net, .ref ea, .ref oa, .int su, .int ho, .bl (decide (V.int (v2 : Int) = V.int 1))]) x = some (.tup [.str ns[ni + j], .str net, .ref ea, .ref oa, .int su, .int ho, .bl (decide (V.int (v2 : Int) = V.int 1))]) := upd_same
      generalize upd H9 x (.tup [.str ns[ni + j], .str net, .ref ea, .ref oa, .int su, .int ho, .bl (decide (V.int (v2 : Int) = V.int 1))]) = H10 at *
      have T10 := TEx.px X10
      have k9'' := X10.get k9'
      have T11 : TEx H10 (upd H10 l9 (.lst (ra.map V.ref ++ [.ref x]))) := TEx.mut (hid_get k9'')
      have hr10 : RegAt H10 x ⟨ns[ni + j], net, e, o, su, ho, decide (V.int (v2 : Int) = V.int 1)⟩ := ⟨ea, oa, hx, T10 _ _ he, T10 _ _ ho'⟩
      refine ⟨l9, ra.map V.ref, .ref x, rfl, rfl, hid_get k9'', sz_lt (by rw [List.length_map, hR.1]; omega), (X6.trans (Z8.trans X10)).mut nl9, ra ++ [x], R ++ [⟨ns[ni + j], net, e, o, su, ho, decide (V.int (v2 : Int) = V.int 1)⟩], _, _, _, _, ?_, ?_, by rw [List.length_append, hRl]; rfl, fun k r hk => ?_, rfl⟩
      · rw [hid_new l9p, List.map_append]; rfl
      · exact ((hR.imp fun _ _ z => z.te ((TEx.px Z8).trans T10)).snoc hr10).imp fun _ _ z => z.te T11
      · rcases Nat.lt_or_ge k R.length with lt | ge
        · rw [List.getElem?_append_left lt] at hk
          exact hRm k r hk
        · rw [List.getElem?_append_right ge] at hk
          have hk0 : k - R.length = 0 := by
            cases e : k - R.length with
            | zero => rfl
            | succ n => rw [e] at hk; cases hk
          rw [hk0] at hk
          cases hk
          have : k = j := by omega
          subst this
          refine ⟨List.getElem?_eq_getElem (by omega), ?_, hw⟩
          rw [hGl]; exact hnet
    rintro σ H6 ⟨X6, ra, R, y, z, x10, x11, k9, hR, hRl, hRm, rfl⟩
    rw [Int.toNat_natCast] at hRl
    have k4 := X6.get g4
    refine ⟨_, rfl, _, rfl, _, rfl, l4, _, rfl, SqL.of (hid_get k4), fun c1 nc1 => ?_⟩
    rw [cutV_head (by rw [List.length_map]; omega), ← List.map_take]
    refine ⟨_, _, rfl, .inl ⟨SqL.of upd_same, fun it nit => ?_⟩⟩
    have Y1 := ((Px.refl X6.pool).new (o := .lst ((ns.take ni).map V.str)) nc1).new (o := .tup ((ns.take ni).map V.str)) nit
    have hit : upd (upd H6 c1 (.lst ((ns.take ni).map V.str))) it (.tup ((ns.take ni).map V.str)) it = some (.tup ((ns.take ni).map V.str)) := upd_same
    generalize upd (upd H6 c1 (.lst ((ns.take ni).map V.str))) it (.tup ((ns.take ni).map V.str)) = H7 at *
    refine ⟨_, rfl, _, _, rfl, .inl ⟨SqL.of ((X6.trans Y1).at_ g6), fun gt ngt => ?_⟩⟩
    have Y2 := (Px.refl Y1.pool).new (o := .tup (ga.map V.ref)) ngt
    have hgt : upd H7 gt (.tup (ga.map V.ref)) gt = some (.tup (ga.map V.ref)) := upd_same
    generalize upd H7 gt (.tup (ga.map V.ref)) = H8 at *
    refine ⟨_, rfl, _, _, rfl, .inl ⟨SqL.of ((Y1.trans Y2).at_ k9), fun rt nrt => ⟨Nat.zero_le _, fun ot not => ⟨by show 4 ≤ sizeLine; decide, fun c nc => ?_⟩⟩⟩⟩
    have Y3 := (((Px.refl Y2.pool).new (o := .tup (ra.map V.ref)) nrt).new (o := .tup []) not).new (o := .tup [.ref it, .ref gt, .ref rt, .ref ot]) nc
    have hrt : upd (upd (upd H8 rt (.tup (ra.map V.ref))) ot (.tup [])) c (.tup [.ref it, .ref gt, .ref rt, .ref ot]) rt = some (.tup (ra.map V.ref)) := Ex.new nc _ _ (Ex.new not _ _ upd_same)
    have hot : upd (upd (upd H8 rt (.tup (ra.map V.ref))) ot (.tup [])) c (.tup [.ref it, .ref gt, .ref rt, .ref ot]) ot = some (.tup []) := Ex.new nc _ _ upd_same
    have hct : upd (upd (upd H8 rt (.tup (ra.map V.ref))) ot (.tup [])) c (.tup [.ref it, .ref gt, .ref rt, .ref ot]) c = some (.tup [.ref it, .ref gt, .ref rt, .ref ot]) := upd_same
    have ncH : H8 c = none := (((Px.refl Y2.pool).new (o := .tup (ra.map V.ref)) nrt).new (o := .tup []) not).free nc
    generalize upd (upd (upd H8 rt (.tup (ra.map V.ref))) ot (.tup [])) c (.tup [.ref it, .ref gt, .ref rt, .ref ot]) = H9 at *
    have W := X6.trans (Y1.trans (Y2.trans Y3))
    have T6 := TEx.px (Y1.trans (Y2.trans Y3))
    refine q c ⟨ns.take ni, Fs, R, []⟩ Gs ns it gt rt ot ga ra [] H9 ((X1.trans X4).trans W) ((X1.trans (X4.trans (X6.trans (Y1.trans Y2)))).free ncH) ⟨hct, TEx.px (Y2.trans Y3) _ _ hit, TEx.px Y3 _ _ hgt, hrt, hot, hF.imp fun _ _ z => z.te (TEx.px W), hR.imp fun _ _ z => z.te T6, .nil⟩
      ⟨hnk, hns, rfl, by omega, hG, hperm, hRl, hRm, rfl⟩
end
end G
namespace G
open PySem PySem.Spec PyProof.Rows L2 Evl TL
/-! ## the drawn circuit is sound -/
section
variable {ni nr most : Nat} {d : CircD} {Gs : List GateD} {ns : List Str}
theorem CircN.srcs_eq (W : CircN ni nr most d Gs ns) : srcs d = ns.take (ni + nr) := by
  unfold srcs
  rw [W.ins, List.take_add]
  congr 1
  refine List.ext_getElem? fun k => ?_
  rw [List.getElem?_map, List.getElem?_take, List.getElem?_drop]
  rcases Nat.lt_or_ge k nr with lt | ge
  · obtain ⟨r, hr⟩ : ∃ r, d.regs[k]? = some r := ⟨_, List.getElem?_eq_getElem (by rw [W.rlen]; exact lt)⟩
    rw [hr, if_pos lt, (W.regs k r hr).1]; rfl
  · rw [List.getElem?_eq_none (by rw [W.rlen]; exact ge), if_neg (by omega)]; rfl
theorem CircN.gs_eq (W : CircN ni nr most d Gs ns) : Gs.map (·.name) = (ns.drop (ni + nr)).take Gs.length := by
  refine List.ext_getElem? fun k => ?_
  rw [List.getElem?_map, List.getElem?_take, List.getElem?_drop]
  rcases Nat.lt_or_ge k Gs.length with lt | ge
  · obtain ⟨g, hg⟩ : ∃ g, Gs[k]? = some g := ⟨_, List.getElem?_eq_getElem lt⟩
    rw [hg, if_pos lt, (W.gates k g hg).1]; rfl
  · rw [List.getElem?_eq_none ge, if_neg (by omega)]; rfl
theorem CircN.all_eq (W : CircN ni nr most d Gs ns) (k : Nat) (hk : k ≤ Gs.length) : srcs d ++ (Gs.take k).map (·.name) = ns.take (ni + nr + k) := by
  rw [W.srcs_eq, List.map_take, W.gs_eq, List.take_take, Nat.min_eq_left hk, ← List.take_add]
theorem CircN.perm_names (W : CircN ni nr most d Gs ns) : (srcs d ++ gnames d).Perm (ns.take (ni + nr + Gs.length)) := by
  rw [← W.all_eq Gs.length (Nat.le_refl _), List.take_length]
  exact List.Perm.append_left _ (W.perm.map _)
theorem CircN.nets (W : CircN ni nr most d Gs ns) (h16 : ni + nr + most ≤ 16) : Nets d := by
  have hnd := W.nm.nodup
  have hlen := W.len
  have hfew := W.few
  have hmem : ∀ g ∈ d.gates, ∃ k, Gs[k]? = some g := fun g hg => by
    obtain ⟨k, hk, e⟩ := List.getElem_of_mem (W.perm.mem_iff.mp hg)
    exact ⟨k, List.getElem?_eq_some_iff.mpr ⟨hk, e⟩⟩
  refine ⟨W.perm_names.nodup_iff.mpr (hnd.sublist (List.take_sublist _ _)), fun g hg x hx => ?_, ?_, fun g hg => ?_, fun g hg => ?_, ?_, ?_, fun r hr => ?_, fun x hx => ?_⟩
  · obtain ⟨k, hk⟩ := hmem g hg
    have hkl := (List.getElem?_eq_some_iff.mp hk).1
    exact W.perm_names.mem_iff.mpr (take_mono (by omega) ((W.gates k g hk).2.pins x hx))
  · rw [W.perm.length_eq]; omega
  · obtain ⟨k, hk⟩ := hmem g hg
    exact (W.gates k g hk).2.few
  · obtain ⟨k, hk⟩ := hmem g hg
    exact (W.gates k g hk).2.tab
  · rw [W.srcs_eq, List.length_take]; omega
  · refine ⟨fun x => ns.idxOf x, fun g hg x hx _ => ?_⟩
    obtain ⟨k, hk⟩ := hmem g hg
    obtain ⟨h1, h2⟩ := W.gates k g hk
    obtain ⟨j, hj, e⟩ := List.getElem_of_mem (h2.pins x hx)
    rw [List.getElem_take] at e
    rw [List.length_take] at hj
    obtain ⟨hl, e2⟩ := List.getElem?_eq_some_iff.mp h1
    show ns.idxOf x < ns.idxOf g.name
    rw [← e, ← e2, hnd.idxOf_getElem, hnd.idxOf_getElem]
    omega
  · obtain ⟨k, hk, e⟩ := List.getElem_of_mem hr
    exact W.perm_names.mem_iff.mpr (W.regs k r (List.getElem?_eq_some_iff.mpr ⟨hk, e⟩)).2.1
  · exact (W.nm.ok (List.mem_of_mem_take (W.perm_names.mem_iff.mp hx))).2.1
end
/-! ## when the nets change: the earliest and the latest -/
abbrev Pr := Int × Int
def knownP (A : Str → Option Pr) (xs : List Str) (rs : List Pr) : List (Pr × Pr) := (xs.zip rs).filterMap fun z => (A z.1).map fun p => (p, z.2)
def earlyL (ks : List (Pr × Pr)) : List Int := ks.map fun k => k.1.1 + k.2.1
def lateL (ks : List (Pr × Pr)) : List Int := ks.map fun k => k.1.2 + k.2.2
def ArrG (A : Str → Option Pr) (g : GateD) : Option Pr → Prop
  | none => knownP A g.pins g.rng = []
  | some p => (p.1 ∈ earlyL (knownP A g.pins g.rng) ∧ ∀ y ∈ earlyL (knownP A g.pins g.rng), p.1 ≤ y) ∧ p.2 ∈ lateL (knownP A g.pins g.rng) ∧ ∀ y ∈ lateL (knownP A g.pins g.rng), y ≤ p.2
structure Arr (d : CircD) (S : List Pr) (A : Str → Option Pr) : Prop where
  src : ∀ (i : Nat) (x : Str), (srcs d)[i]? = some x → S[i]? = A x
  gate : ∀ g ∈ d.gates, ArrG A g (A g.name)
theorem ArrG.none_eq {A : Str → Option Pr} {g : GateD} {o : Option Pr} (h : ArrG A g o) (e : knownP A g.pins g.rng = []) : o = none := by
  cases o with
  | none => rfl
  | some p =>
    obtain ⟨⟨h1, _⟩, _⟩ := h
    rw [e] at h1
    cases h1
theorem ArrG.some_eq {A : Str → Option Pr} {g : GateD} {o : Option Pr} (h : ArrG A g o) {m M : Int} (h1 : m ∈ earlyL (knownP A g.pins g.rng)) (h2 : ∀ y ∈ earlyL (knownP A g.pins g.rng), m ≤ y) (h3 : M ∈ lateL (knownP A g.pins g.rng)) (h4 : ∀ y ∈ lateL (knownP A g.pins g.rng), y ≤ M) : o = some (m, M) := by
  cases o with
  | none =>
    have e : knownP A g.pins g.rng = [] := h
    rw [e] at h1
    cases h1
  | some p =>
    obtain ⟨⟨a1, a2⟩, a3, a4⟩ := h
    have e1 : p.1 = m := Int.le_antisymm (a2 m h1) (h2 _ a1)
    have e2 : p.2 = M := Int.le_antisymm (h4 _ a3) (a4 M h3)
    rw [← e1, ← e2]
theorem knownP_snoc {A : Str → Option Pr} {xs : List Str} {rs : List Pr} {k : Nat} {x : Str} {r : Pr} (hx : xs[k]? = some x) (hr : rs[k]? = some r) :
    knownP A (xs.take (k + 1)) (rs.take (k + 1)) = knownP A (xs.take k) (rs.take k) ++ (match A x with | none => [] | some p => [(p, r)]) := by
  have l1 : (xs.take k).length = k := by rw [List.length_take]; have := (List.getElem?_eq_some_iff.mp hx).1; omega
  have l2 : (rs.take k).length = k := by rw [List.length_take]; have := (List.getElem?_eq_some_iff.mp hr).1; omega
  unfold knownP
  rw [take_snoc1 hx, take_snoc1 hr, List.zip_append (by rw [l1, l2]), List.filterMap_append]
  congr 1
  show List.filterMap _ [(x, r)] = _
  cases e : A x with
  | none => rw [List.filterMap_cons_none (by simp [e])]; rfl
  | some p => rw [List.filterMap_cons_some (b := (p, r)) (by simp [e])]; rfl
theorem knownP_congr {A B : Str → Option Pr} {xs : List Str} {rs : List Pr} (h : ∀ x ∈ xs, A x = B x) : knownP A xs rs = knownP B xs rs := by
  have key : ∀ l : List (Str × Pr), (∀ z ∈ l, A z.1 = B z.1) → (l.filterMap fun z => (A z.1).map fun p => (p, z.2)) = l.filterMap fun z => (B z.1).map fun p => (p, z.2) := fun l => by
    induction l with
    | nil => intro _; rfl
    | cons z r ih =>
      intro hz
      rw [List.filterMap_cons, List.filterMap_cons, hz z (List.mem_cons_self ..), ih fun y hy => hz y (List.mem_cons_of_mem _ hy)]
  exact key _ fun z hz => h z.1 (List.of_mem_zip hz).1
theorem knownP_len {A : Str → Option Pr} {xs : List Str} {rs : List Pr} : (knownP A xs rs).length ≤ xs.length := by
  unfold knownP
  refine Nat.le_trans (List.length_filterMap_le _ _) ?_
  rw [List.length_zip]; omega
def arrO (A : Str → Option Pr) (g : GateD) : Option Pr := match (earlyL (knownP A g.pins g.rng)).min?, (lateL (knownP A g.pins g.rng)).max? with
  | some a, some b => some (a, b)
  | _, _ => none
theorem arrO_ok (A : Str → Option Pr) (g : GateD) : ArrG A g (arrO A g) := by
  unfold arrO
  cases e1 : (earlyL (knownP A g.pins g.rng)).min? with
  | none =>
    have := List.min?_eq_none_iff.mp e1
    exact List.map_eq_nil_iff.mp this
  | some a =>
    cases e2 : (lateL (knownP A g.pins g.rng)).max? with
    | none =>
      have := List.max?_eq_none_iff.mp e2
      exact List.map_eq_nil_iff.mp this
    | some b => exact ⟨List.min?_eq_some_iff.mp e1, List.max?_eq_some_iff.mp e2⟩
def arrN (d : CircD) (S : List Pr) : Nat → Str → Option Pr
  | 0, x => S[(srcs d).idxOf x]?
  | n + 1, x => match d.gates.find? (fun g => decide (g.name = x)) with
    | some g => arrO (arrN d S n) g
    | none => S[(srcs d).idxOf x]?
theorem find_gate {d : CircD} (nd : (gnames d).Nodup) {g : GateD} (hg : g ∈ d.gates) : d.gates.find? (fun g' => decide (g'.name = g.name)) = some g := by
  obtain ⟨k, hk, e⟩ := List.getElem_of_mem hg
  rw [List.find?_eq_some_iff_getElem]
  refine ⟨decide_eq_true rfl, k, hk, e, fun j hj => ?_⟩
  rw [Bool.not_eq_true', decide_eq_false_iff_not]
  intro z
  have h1 : (gnames d)[j]'(by unfold gnames; rw [List.length_map]; omega) = (gnames d)[k]'(by unfold gnames; rw [List.length_map]; omega) := by
    unfold gnames
    rw [List.getElem_map, List.getElem_map, z, e]
  have := (List.getElem_inj nd).mp h1
  omega
theorem find_src {d : CircD} {x : Str} (h : x ∉ gnames d) : d.gates.find? (fun g => decide (g.name = x)) = none := by
  rw [List.find?_eq_none]
  intro g hg z
  exact h (List.mem_map.mpr ⟨g, hg, of_decide_eq_true z⟩)
theorem arr_ex {d : CircD} (N : Nets d) (S : List Pr) : ∃ A, Arr d S A := by
  obtain ⟨rank, hr⟩ := N.rank
  have ndg : (gnames d).Nodup := (List.nodup_append.mp N.nd).2.1
  have nds : (srcs d).Nodup := (List.nodup_append.mp N.nd).1
  have dis : ∀ x ∈ srcs d, x ∉ gnames d := fun x hx hg => (List.nodup_append.mp N.nd).2.2 x hx x hg rfl
  have src : ∀ n x, x ∉ gnames d → arrN d S n x = S[(srcs d).idxOf x]? := fun n x h => by
    cases n with
    | zero => rfl
    | succ n => show (match d.gates.find? _ with | some g => _ | none => _) = _; rw [find_src h]
  have stab : ∀ n m x, (x ∈ gnames d → rank x < n ∧ rank x < m) → arrN d S n x = arrN d S m x := fun n => by
    induction n with
    | zero =>
      intro m x h
      by_cases hx : x ∈ gnames d
      · exact absurd (h hx).1 (Nat.not_lt_zero _)
      · rw [src 0 x hx, src m x hx]
    | succ n ih =>
      intro m x h
      by_cases hx : x ∈ gnames d
      · obtain ⟨g, hg, rfl⟩ := List.mem_map.mp hx
        obtain ⟨h1, h2⟩ := h hx
        cases m with
        | zero => exact absurd h2 (Nat.not_lt_zero _)
        | succ m =>
          show (match d.gates.find? _ with | some g => _ | none => _) = (match d.gates.find? _ with | some g => _ | none => _)
          rw [find_gate ndg hg]
          show arrO _ g = arrO _ g
          unfold arrO
          rw [knownP_congr fun y hy => ih m y fun hyg => by have := hr g hg y hy hyg; omega]
      · rw [src _ x hx, src _ x hx]
  refine ⟨fun x => arrN d S (rank x + 1) x, fun i x hx => ?_, fun g hg => ?_⟩
  · have hm := List.mem_of_getElem? hx
    show _ = arrN d S _ x
    rw [src _ x (dis x hm)]
    obtain ⟨hi, e⟩ := List.getElem?_eq_some_iff.mp hx
    rw [← e, nds.idxOf_getElem]
  · have e : arrN d S (rank g.name + 1) g.name = arrO (arrN d S (rank g.name)) g := by
      show (match d.gates.find? _ with | some g => _ | none => _) = _
      rw [find_gate ndg hg]
    show ArrG _ g (arrN d S (rank g.name + 1) g.name)
    rw [e]
    have ek : knownP (fun x => arrN d S (rank x + 1) x) g.pins g.rng = knownP (arrN d S (rank g.name)) g.pins g.rng := knownP_congr fun y hy => stab _ _ y fun hyg => by have := hr g hg y hy hyg; omega
    have := arrO_ok (arrN d S (rank g.name)) g
    unfold ArrG at *
    rw [ek]
    exact this
end G
namespace G
open PySem PySem.Spec PyProof.Rows L2 Evl TL
section
variable {P : Program} {w : World} {K : PySem.W.Frag} {mg : Str → Option Value} {base : Heap}
theorem sc_law_sources : FnScope ["circuit", "row"] ["circuit"] (defScope s_law_sources) := ⟨rfl, rfl, rfl, by decide +kernel, rfl, by decide +kernel, by decide +kernel⟩
theorem ok_law_sources (D : Dfd K mg "_law_sources" s_law_sources ["circuit"]) (T : TxtD mg) : Has P w K mg base 1 "_law_sources" ["circuit"] spSources := by
  refine D.has fun f fd F => F.ok sc_law_sources (fun vs H Q E h => ?_) (fun cdv A outer s H vs Q E hr h => ?_)
  · obtain ⟨c, d, it, gt, rt, ot, ga, ra, oa, rfl, _⟩ := h
    rfl
  · obtain ⟨c, d, it, gt, rt, ot, ga, ra, oa, rfl, hc, hn, q⟩ := h
    have hlen : d.ins.length + d.regs.length ≤ 100 := by
      unfold srcs at hn
      rw [List.length_append, List.length_map] at hn
      exact hn
    refine ⟨_, (pss_one (ps_ret (pe_op op_cat (pe_callTy call_list_of (by rfl) T.list (by decide +kernel) (pa_cons (pe_ix ix_tup (pv 0) pe_int (fun _ _ => rfl)) pa_nil)) (pe_lc (own := [("row", 1)]) (g := gName 1) (tt := tYes) rfl sc_law_sources.nd (pi_tup (pe_ix ix_tup (pv 0) pe_int (fun _ _ => rfl))) (blkOk_by (N := ["circuit", "row"]) (sc := defScope s_law_sources) (own := [("row", 1)]) (by decide +kernel)) (fun _ _ _ _ _ => (pg_name (i := 1) sc_law_sources.nd rfl (.inl rfl))) (fun _ _ _ _ _ => pts_nil) (fun _ _ _ _ _ => (pe_ix (kIxT (K := K) rfl) (pv 1) pe_int (fun _ _ => rfl))))))), ?_⟩
    refine ⟨_, rfl, _, _, _, _, rfl, rfl, SqT.of hc.top, atI_nat (j := 0) rfl, _, _, rfl, .inr (SqT.of hc.ins), fun l1 n1 => ?_⟩
    have E1 : Ex H (upd H l1 (.lst (d.ins.map V.str))) := Ex.new n1
    have h1 : upd H l1 (.lst (d.ins.map V.str)) l1 = some (.lst (d.ins.map V.str)) := upd_same
    generalize upd H l1 (.lst (d.ins.map V.str)) = H1 at *
    have hc1 := hc.te (.of E1)
    refine ⟨_, rfl, _, _, _, _, rfl, rfl, SqT.of hc1.top, atI_nat (j := 2) rfl, rt, rfl, ⟨_, SqT.of hc1.rgs⟩, fun L2 nL2 => wk_tup (K := K) (a := rt) (xs := ra.map V.ref) (fun j H' => Ex H1 H' ∧ H' L2 = some (.lst (((d.regs.map (·.name)).take j).map V.str))) ⟨Ex.new nL2, by rw [upd_same]; rfl⟩ (fun j H' _ g => SqT.of (g.1 _ _ hc1.rgs)) ?_ ?_⟩
    · rintro j x H2 hx ⟨E2, hL⟩
      obtain ⟨b, hb, rfl⟩ := refs_get hx
      obtain ⟨g, hg, ea, oa', hgt, _⟩ := hc1.regs.at_ hb
      have hj : j < d.regs.length := (List.getElem?_eq_some_iff.mp hg).1
      refine ⟨rfl, tYes_in ⟨_, rfl, _, _, _, _, rfl, rfl, SqT.of (E2 _ _ hgt), atI_nat (j := 0) rfl, _, hL, sz_lt (by rw [List.length_map, List.length_take]; omega), E2.mut nL2, ?_⟩⟩
      rw [upd_same, List.take_add_one, List.getElem?_map, hg, List.map_append]; rfl
    rintro H2 ⟨E2, hL⟩
    rw [List.length_map, hc1.regs.1, ← List.length_map (f := fun g : RegD => g.name), List.take_length] at hL
    refine ⟨l1, L2, _, _, rfl, rfl, E2 _ _ h1, hL, sz_of (by rw [List.length_map, List.length_map, List.length_map]; omega), fun l3 n3 => ?_⟩
    rw [← List.map_append]
    exact q l3 _ (fresh_back (E1.trans E2) n3) ((E1.trans E2).trans (Ex.new n3)) upd_same

theorem inV_sL4 {x : Str} {l : List Str} : inV (.str x) (l.map V.str) = decide (x ∈ l) := by
  unfold inV
  rw [List.any_map, Bool.eq_iff_iff, List.any_eq_true, decide_eq_true_iff]
  constructor
  · rintro ⟨y, hy, h⟩
    have : y = x := eq_of_beq h
    rw [← this]; exact hy
  · intro h
    exact ⟨x, h, (beq_self_eq_true x : (x == x) = true)⟩
def spLNets : Sp := fun vs H Q _ => ∃ (c : Addr) (d : CircD) (it gt rt ot : Addr) (ga ra oa : List Addr), vs = [.ref c] ∧ CircAt H c d it gt rt ot ga ra oa ∧ Nets d ∧ ∀ (l : Addr) (H' : Hp), H l = none → Ex H H' → H' l = some (.lst ((srcs d ++ gnames d).map V.str)) → Q (.ref l) H'
theorem sc_law_nets : FnScope ["circuit", "gate"] ["circuit"] (defScope s_law_nets) := ⟨rfl, rfl, rfl, by decide +kernel, rfl, by decide +kernel, by decide +kernel⟩
theorem ok_law_nets (D : Dfd K mg "_law_nets" s_law_nets ["circuit"]) (T : TxtD mg) (C1 : Has P w K mg base 1 "_law_sources" ["circuit"] spSources) : Has P w K mg base 2 "_law_nets" ["circuit"] spLNets := by
  obtain ⟨f_law_sources, d_law_sources, G_law_sources, g_law_sources, k_law_sources, b_law_sources⟩ := C1
  refine D.has fun f fd F => F.ok sc_law_nets (fun vs H Q E h => ?_) (fun cdv A outer s H vs Q E hr h => ?_)
  · obtain ⟨c, d, it, gt, rt, ot, ga, ra, oa, rfl, _⟩ := h
    rfl
  · obtain ⟨c, d, it, gt, rt, ot, ga, ra, oa, rfl, hc, hN, q⟩ := h
    refine ⟨_, (pss_one (ps_ret (pe_op op_cat (pe_call G_law_sources (hr.mono (by omega)) (by rfl) g_law_sources k_law_sources b_law_sources .nil pass0 (pa_cons (pv 0) pa_nil)) (pe_lc (own := [("gate", 1)]) (g := gName 1) (tt := tYes) rfl sc_law_nets.nd (pi_tup (pe_ix ix_tup (pv 0) pe_int (fun _ _ => rfl))) (blkOk_by (N := ["circuit", "gate"]) (sc := defScope s_law_nets) (own := [("gate", 1)]) (by decide +kernel)) (fun _ _ _ _ _ => (pg_name (i := 1) sc_law_nets.nd rfl (.inl rfl))) (fun _ _ _ _ _ => pts_nil) (fun _ _ _ _ _ => (pe_ix (kIxT (K := K) rfl) (pv 1) pe_int (fun _ _ => rfl))))))), ?_⟩
    have hs := hN.fews
    have hg := hN.few
    refine ⟨_, rfl, c, d, it, gt, rt, ot, ga, ra, oa, rfl, hc, by omega, fun l1 H1 n1 E1 h1 => ?_⟩
    have hc1 := hc.te (.of E1)
    refine ⟨_, rfl, _, _, _, _, rfl, rfl, SqT.of hc1.top, atI_nat (j := 1) rfl, gt, rfl, ⟨_, SqT.of hc1.gts⟩, fun L2 nL2 => wk_tup (K := K) (a := gt) (xs := ga.map V.ref) (fun j H' => Ex H1 H' ∧ H' L2 = some (.lst (((gnames d).take j).map V.str))) ⟨Ex.new nL2, by rw [upd_same]; rfl⟩ (fun j H' _ g => SqT.of (g.1 _ _ hc1.gts)) ?_ ?_⟩
    · rintro j x H2 hx ⟨E2, hL⟩
      obtain ⟨b, hb, rfl⟩ := refs_get hx
      obtain ⟨g, hg', t, pt, rgt, rla, hgt, _⟩ := hc1.gates.at_ hb
      have hj : j < d.gates.length := (List.getElem?_eq_some_iff.mp hg').1
      refine ⟨rfl, tYes_in ⟨_, rfl, _, _, _, _, rfl, rfl, SqT.of (E2 _ _ hgt), atI_nat (j := 0) rfl, _, hL, sz_lt (by rw [List.length_map, List.length_take]; omega), E2.mut nL2, ?_⟩⟩
      unfold gnames
      rw [upd_same, List.take_add_one, List.getElem?_map, hg', List.map_append]; rfl
    rintro H2 ⟨E2, hL⟩
    have hgl : (gnames d).length = d.gates.length := List.length_map _
    rw [List.length_map, hc1.gates.1, ← hgl, List.take_length] at hL
    refine ⟨l1, L2, _, _, rfl, rfl, E2 _ _ h1, hL, sz_of (by rw [List.length_map, List.length_map]; omega), fun l3 n3 => ?_⟩
    rw [← List.map_append]
    exact q l3 _ (fresh_back (E1.trans E2) n3) ((E1.trans E2).trans (Ex.new n3)) upd_same
/-! ## the starts of the sources -/
def StartW (r : Pr) : Prop := -5 ≤ r.1 ∧ r.1 ≤ 6 ∧ r.1 ≤ r.2 ∧ r.2 ≤ r.1 + 4
def spLStarts : Sp := fun vs H Q _ => ∃ (p a c : Addr) (d : CircD) (it gt rt ot : Addr) (ga ra oa : List Addr), vs = [.ref p, .ref c] ∧ PoolOk p a H ∧ CircAt H c d it gt rt ot ga ra oa ∧ Nets d ∧
  ∀ (l : Addr) (sa : List Addr) (S : List Pr) (H' : Hp), Px p a H H' → H l = none → hid p H' l = some (.lst (sa.map V.ref)) → All2 (IntsAt H') sa S → S.length = (srcs d).length → (∀ r ∈ S, StartW r) → Q (.ref l) H'
theorem sc_law_starts : FnScope ["pool", "circuit", "starts", "net", "early"] ["pool", "circuit"] (defScope s_law_starts) := ⟨rfl, rfl, rfl, by decide +kernel, rfl, by decide +kernel, by decide +kernel⟩
theorem ok_law_starts (D : Dfd K mg "_law_starts" s_law_starts ["pool", "circuit"]) (C : Has P w K mg base 2 "_law_draw" ["pool", "many"] spDrawX) (C1 : Has P w K mg base 1 "_law_sources" ["circuit"] spSources) : Has P w K mg base 3 "_law_starts" ["pool", "circuit"] spLStarts := by
  obtain ⟨f_law_draw, d_law_draw, G_law_draw, g_law_draw, k_law_draw, b_law_draw⟩ := C
  obtain ⟨f_law_sources, d_law_sources, G_law_sources, g_law_sources, k_law_sources, b_law_sources⟩ := C1
  refine D.has fun f fd F => F.ok sc_law_starts (fun vs H Q E h => ?_) (fun cdv A outer s H vs Q E hr h => ?_)
  · obtain ⟨p, a, c, d, it, gt, rt, ot, ga, ra, oa, rfl, _⟩ := h
    rfl
  · obtain ⟨p, a, c, d, it, gt, rt, ot, ga, ra, oa, rfl, hp, hc, hN, q⟩ := h
    refine ⟨_, (pss_cons (ps_set (i := 2) sc_law_starts.nd rfl (.inl rfl) (pe_lst pa_nil))
    (pss_cons (ps_for PassesOwn.never rfl (pi_list (pe_call G_law_sources (hr.mono (by omega)) (by rfl) g_law_sources k_law_sources b_law_sources .nil pass0 (pa_cons (pv 1) pa_nil))) (pg_name (i := 3) sc_law_starts.nd rfl (.inl rfl))
      (pss_cons (ps_set (i := 4) sc_law_starts.nd rfl (.inl rfl) (pe_op op_sub (pe_call G_law_draw (hr.mono (by omega)) (by rfl) g_law_draw k_law_draw b_law_draw .nil pass0 (pa_cons (pv 0) (pa_cons pe_int pa_nil))) pe_int))
      (pss_one (ps_expr (pe_bm PySem.F.plainAttrs_list PySem.F.slot_list_append PySem.F.type_list_append mt_append (pv 2) (pa_cons (pe_tup (pa_cons (pv 4) (pa_cons (pe_op op_add (pv 4) (pe_ix ix_tup (pe_tup (pa_cons pe_int (pa_cons pe_int (pa_cons pe_int (pa_cons pe_int pa_nil))))) (pe_call G_law_draw (hr.mono (by omega)) (by rfl) g_law_draw k_law_draw b_law_draw .nil pass0 (pa_cons (pv 0) (pa_cons pe_int pa_nil))) (fun _ _ => rfl))) pa_nil))) pa_nil))))))
    (pss_one (ps_ret (pv 2))))), ?_⟩
    have hs := hN.fews
    refine ⟨Nat.zero_le _, fun l nl => ?_⟩
    have X0 := (Px.refl hp).new (o := .lst []) nl
    have hpl := hp.ne nl
    have hl0 : hid p (upd H l (.lst [])) l = some (.lst []) := hid_new hpl
    generalize upd H l (.lst []) = H0 at *
    refine ⟨_, rfl, c, d, it, gt, rt, ot, ga, ra, oa, rfl, hc.te (TEx.px X0), by omega, fun nl1 H1 n1 E1 h1 => ?_⟩
    have X1 := Px.ofEx X0.pool E1
    have h1' : hid p H1 nl1 = some (.lst ((srcs d).map V.str)) := X1.seen n1 h1
    refine ⟨nl1, rfl, ⟨_, SqL.of h1⟩, for_list (K := K) (a := nl1) (xs := (srcs d).map V.str)
      (fun i σ H' => Px p a H H' ∧ hid p H' nl1 = some (.lst ((srcs d).map V.str)) ∧ ∃ (sa : List Addr) (S : List Pr) (y z : Option V), hid p H' l = some (.lst (sa.map V.ref)) ∧ All2 (IntsAt H') sa S ∧ S.length = i ∧ (∀ r ∈ S, StartW r) ∧ σ = [some (.ref p), some (.ref c), some (.ref l), y, z])
      ⟨X0.trans X1, h1', [], [], _, _, X1.get hl0, .nil, rfl, (fun _ h => nomatch h), rfl⟩ (fun i σ H' _ g => SqL.of (hid_get g.2.1)) ?_ ?_⟩
    · rintro i x σ H2 hx ⟨X2, hn2, sa, S, y, z, hl, hS, hSl, hSw, rfl⟩
      have hi : i < (srcs d).length := by have := (List.getElem?_eq_some_iff.mp hx).1; rwa [List.length_map] at this
      refine ⟨_, rfl, p, a, 12, rfl, by decide, by decide, X2.pool, fun v1 H3 h3 X3 _ => ⟨_, _, rfl, rfl, ?_⟩⟩
      obtain ⟨e, ee⟩ : ∃ e : Int, e = (v1 : Int) - 5 := ⟨_, rfl⟩
      dsimp only
      rw [← ee]
      refine ⟨_, rfl, .inl ⟨rfl, _, SqL.of (hid_get (X3.get hl))⟩, _, rfl, _, rfl, by show 4 ≤ sizeLine; decide, fun t nt => ?_⟩
      have X4 := X3.new (o := .tup [.int 0, .int 0, .int 1, .int 4]) nt
      have ht : hid p (upd H3 t (.tup [.int 0, .int 0, .int 1, .int 4])) t = some (.tup (([0, 0, 1, 4] : List Int).map V.int)) := hid_new (X3.pool.ne nt)
      generalize upd H3 t (.tup [.int 0, .int 0, .int 1, .int 4]) = H4 at *
      refine ⟨_, rfl, p, a, 4, rfl, by decide, by decide, X4.pool, fun v2 H5 h5 X5 _ => ?_⟩
      obtain ⟨m, gm, bm⟩ := pick (l := [0, 0, 1, 4]) (v := v2) (by show v2 < 4; omega) (P := fun x => 0 ≤ x ∧ x ≤ 4) (by decide)
      refine ⟨_, _, _, _, rfl, rfl, SqT.of (hid_get (X5.get ht)), atI_nat gm, _, _, rfl, rfl, by show 2 ≤ sizeLine; decide, fun b nb => ?_⟩
      have X6 := (X4.trans X5).new (o := .tup [.int e, .int (e + m)]) nb
      have hb : upd H5 b (.tup [.int e, .int (e + m)]) b = some (.tup [.int e, .int (e + m)]) := upd_same
      generalize upd H5 b (.tup [.int e, .int (e + m)]) = H6 at *
      have hl6 := X6.get hl
      refine ⟨l, sa.map V.ref, .ref b, rfl, rfl, hid_get hl6, sz_lt (by rw [List.length_map, hS.1]; omega), (X2.trans X6).mut nl, keep1 (X6.get hn2) (fun z => by rw [z] at n1; exact absurd (hid_get hl0) (by rw [n1]; intro q; cases q)) hpl, sa ++ [b], S ++ [(e, e + m)], _, _, ?_, ?_, by rw [List.length_append, hSl]; rfl, fun r hr => ?_, rfl⟩
      · rw [hid_new hpl, List.map_append]; rfl
      · exact ((hS.imp fun _ _ z => z.te (TEx.px X6)).snoc (show IntsAt H6 b (e, e + m) from hb)).imp fun _ _ z => z.te (TEx.mut (hid_get hl6))
      · rcases List.mem_append.mp hr with z | z
        · exact hSw r z
        · rw [List.mem_singleton.mp z]
          exact ⟨by show -5 ≤ e; omega, by show e ≤ 6; omega, by show e ≤ e + m; omega, by show e + m ≤ e + 4; omega⟩
    · rintro σ H2 ⟨X2, hn2, sa, S, y, z, hl, hS, hSl, hSw, rfl⟩
      rw [List.length_map] at hSl
      exact ⟨_, rfl, q l sa S H2 X2 nl hl hS hSl hSw⟩
/-! ## the gates, each behind what it reads -/
structure Crea (d : CircD) (Gs : List GateD) : Prop where
  perm : d.gates.Perm Gs
  cl : ∀ (k : Nat) (g : GateD), Gs[k]? = some g → ∀ x ∈ g.pins, x ∈ srcs d ++ (Gs.take k).map (·.name)
theorem CircN.crea {ni nr most : Nat} {d : CircD} {Gs : List GateD} {ns : List Str} (W : CircN ni nr most d Gs ns) : Crea d Gs := ⟨W.perm, fun k g hk x hx => by
  have hkl := (List.getElem?_eq_some_iff.mp hk).1
  rw [W.all_eq k (by omega)]
  exact (W.gates k g hk).2.pins x hx⟩
structure SortedG (d : CircD) (FG : List GateD) : Prop where
  sub : ∀ g ∈ FG, g ∈ d.gates
  cl : ∀ (k : Nat) (g : GateD), FG[k]? = some g → ∀ x ∈ g.pins, x ∈ srcs d ++ (FG.take k).map (·.name)
def spSorted : Sp := fun vs H Q _ => ∃ (c : Addr) (d : CircD) (Gs : List GateD) (it gt rt ot : Addr) (ga ra oa : List Addr), vs = [.ref c] ∧ CircAt H c d it gt rt ot ga ra oa ∧ Nets d ∧ Crea d Gs ∧
  ∀ (l : Addr) (fa : List Addr) (FG : List GateD) (H' : Hp), Ex H H' → H' l = some (.lst (fa.map V.ref)) → All2 (GateAt H) fa FG → SortedG d FG → (∀ g ∈ d.gates, g ∈ FG) → FG.length ≤ 256 → Q (.ref l) H'
theorem same_gate {d : CircD} (N : Nets d) {g g' : GateD} (h : g ∈ d.gates) (h' : g' ∈ d.gates) (e : g.name = g'.name) : g = g' := by
  have nd : (gnames d).Nodup := (List.nodup_append.mp N.nd).2.1
  have h1 := find_gate nd h
  have h2 := find_gate nd h'
  rw [e, h2] at h1
  exact (Option.some.inj h1).symm
theorem sc_law_sorted_gates : FnScope ["circuit", "placed", "found", "k", "gate", "net"] ["circuit"] (defScope s_law_sorted_gates) := ⟨rfl, rfl, rfl, by decide +kernel, rfl, by decide +kernel, by decide +kernel⟩
theorem ok_law_sorted_gates (D : Dfd K mg "_law_sorted_gates" s_law_sorted_gates ["circuit"]) (T : TxtD mg) (C1 : Has P w K mg base 1 "_law_sources" ["circuit"] spSources) : Has P w K mg base 2 "_law_sorted_gates" ["circuit"] spSorted := by
  obtain ⟨f_law_sources, d_law_sources, G_law_sources, g_law_sources, k_law_sources, b_law_sources⟩ := C1
  refine D.has fun f fd F => F.ok sc_law_sorted_gates (fun vs H Q E h => ?_) (fun cdv A outer s H vs Q E hr h => ?_)
  · obtain ⟨c, d, Gs, it, gt, rt, ot, ga, ra, oa, rfl, _⟩ := h
    rfl
  · obtain ⟨c, d, Gs, it, gt, rt, ot, ga, ra, oa, rfl, hc, hN, hW, q⟩ := h
    refine ⟨_, (pss_cons (ps_set (i := 1) sc_law_sorted_gates.nd rfl (.inr rfl) (pe_call G_law_sources (hr.mono (by omega)) (by rfl) g_law_sources k_law_sources b_law_sources .nil pass0 (pa_cons (pv 0) pa_nil)))
    (pss_cons (ps_set (i := 2) sc_law_sorted_gates.nd rfl (.inl rfl) (pe_lst pa_nil))
    (pss_cons (ps_for PassesOwn.never rfl (pi_range1 rfl T.range (pa_cons (pe_callB call_len_seq (by rfl) T.len (by decide +kernel) (pa_cons (pe_ix ix_tup (pv 0) pe_int (fun _ _ => rfl)) pa_nil)) pa_nil)) (pg_name (i := 3) sc_law_sorted_gates.nd rfl (.inl rfl))
      (pss_one (ps_for PassesOwn.never rfl (pi_tup (pe_ix ix_tup (pv 0) pe_int (fun _ _ => rfl))) (pg_name (i := 4) sc_law_sorted_gates.nd rfl (.inl rfl))
        (pss_one (ps_if (PW.pt (pw_and (pt_cmpR op_notIn_seq (pe_ix ix_tup (pv 4) pe_int (fun _ _ => rfl)) (pv 1) (by rfl)) (pw_and1 (pt_cmpR op_eq (pe_callB call_len_seq (by rfl) T.len (by decide +kernel) (pa_cons (pe_lc (own := [("net", 5)]) (g := gName 5) (tt := _) rfl sc_law_sorted_gates.nd (pi_tup (pe_ix ix_tup (pv 4) pe_int (fun _ _ => rfl))) (blkOk_by (N := ["circuit", "placed", "found", "k", "gate", "net"]) (sc := defScope s_law_sorted_gates) (own := [("net", 5)]) (by decide +kernel)) (fun _ _ _ _ _ => (pg_name (i := 5) sc_law_sorted_gates.nd rfl (.inl rfl))) (fun _ _ _ _ _ => pts_one (pt_cmpR (kNotIn (K := K) rfl) (pv 5) (pv 1) (by rfl))) (fun _ _ _ _ _ => (pv 5))) pa_nil)) pe_int (nomark _)))))
          (pss_cons (ps_expr (pe_bm PySem.F.plainAttrs_list PySem.F.slot_list_append PySem.F.type_list_append mt_append (pv 1) (pa_cons (pe_ix ix_tup (pv 4) pe_int (fun _ _ => rfl)) pa_nil)))
          (pss_one (ps_expr (pe_bm PySem.F.plainAttrs_list PySem.F.slot_list_append PySem.F.type_list_append mt_append (pv 2) (pa_cons (pv 4) pa_nil)))))
          pss_nil)))))
    (pss_one (ps_ret (pv 2)))))), ?_⟩
    have hs := hN.fews
    have hg16 := hN.few
    have dis : ∀ x ∈ srcs d, x ∉ gnames d := fun x hx hg => (List.nodup_append.mp hN.nd).2.2 x hx x hg rfl
    refine ⟨_, rfl, c, d, it, gt, rt, ot, ga, ra, oa, rfl, hc, by omega, fun pl H1 npl E1 hpl => ⟨Nat.zero_le _, fun fl nfl => ?_⟩⟩
    have E2 : Ex H1 (upd H1 fl (.lst [])) := Ex.new nfl
    have hpl2 := E2 _ _ hpl
    have hfl : upd H1 fl (.lst []) fl = some (.lst []) := upd_same
    have nfp : fl ≠ pl := (ne_of_none hpl nfl).symm
    have nflH : H fl = none := fresh_back E1 nfl
    replace E2 := E1.trans E2
    generalize upd H1 fl (.lst []) = H2 at *
    have hgl := hc.gates.1
    refine ⟨_, rfl, _, _, _, _, rfl, rfl, SqT.of (E2 _ _ hc.top), atI_nat (j := 1) rfl, _, _, rfl, .inr (SqT.of (E2 _ _ hc.gts)), d.gates.length, by rw [List.length_map, hgl], by omega, by omega, for_range (n := ((d.gates.length : Nat) : Int).toNat)
      (fun i σ H' => Ex H H' ∧ ∃ (fa : List Addr) (FG : List GateD) (y z : Option V), H' pl = some (.lst ((srcs d ++ FG.map (·.name)).map V.str)) ∧ H' fl = some (.lst (fa.map V.ref)) ∧ All2 (GateAt H) fa FG ∧ SortedG d FG ∧ FG.length ≤ i * d.gates.length ∧ (∀ k g, k < i → Gs[k]? = some g → g ∈ FG) ∧
        σ = [some (.ref c), some (.ref pl), some (.ref fl), y, z, none])
      ⟨E2, [], [], _, _, by rw [List.map_nil, List.append_nil]; exact hpl2, hfl, .nil, ⟨(fun _ h => nomatch h), (fun _ _ h => by cases h)⟩, by show 0 ≤ _; omega, (fun k g h => absurd h (Nat.not_lt_zero _)), rfl⟩ ?_ ?_⟩
    · rintro i σ H3 hi ⟨E3, fa, FG, y, z, hpl3, hfl3, hF, hS, hFl, hFk, rfl⟩
      rw [Int.toNat_natCast] at hi
      refine ⟨_, rfl, _, _, _, _, rfl, rfl, SqT.of (E3 _ _ hc.top), atI_nat (j := 1) rfl, gt, rfl, ⟨_, SqT.of (E3 _ _ hc.gts)⟩, for_tup (K := K) (a := gt) (xs := ga.map V.ref)
        (fun j σ H' => Ex H H' ∧ ∃ (fa : List Addr) (FG : List GateD) (y z : Option V), H' pl = some (.lst ((srcs d ++ FG.map (·.name)).map V.str)) ∧ H' fl = some (.lst (fa.map V.ref)) ∧ All2 (GateAt H) fa FG ∧ SortedG d FG ∧ FG.length ≤ i * d.gates.length + j ∧ (∀ k g, k < i → Gs[k]? = some g → g ∈ FG) ∧ (∀ g, Gs[i]? = some g → g ∈ d.gates.take j → g ∈ FG) ∧
          σ = [some (.ref c), some (.ref pl), some (.ref fl), y, z, none])
        ⟨E3, fa, FG, _, _, hpl3, hfl3, hF, hS, by omega, hFk, (fun g _ h => by rw [List.take_zero] at h; cases h), rfl⟩ (fun j σ H' _ g => SqT.of (g.1 _ _ hc.gts)) ?_ ?_⟩
      · rintro j x σ H4 hx ⟨E4, fa, FG, y, z, hpl4, hfl4, hF, hS, hFl, hFk, hFi, rfl⟩
        obtain ⟨b, hb, rfl⟩ := refs_get hx
        obtain ⟨g, hg, hgA⟩ := hc.gates.at_ hb
        obtain ⟨t, pt, rgt, rla, hg1, hg2, hg3, hg4, hg5⟩ := id hgA
        have hgm := List.mem_of_getElem? hg
        have hjl : j < d.gates.length := (List.getElem?_eq_some_iff.mp hg).1
        have hmul : i * d.gates.length ≤ 16 * 16 := Nat.mul_le_mul (by omega) hg16
        have hpins := hN.fewp g hgm
        have stay : (g.name ∈ srcs d ++ FG.map (·.name) ∨ ¬ (∀ x ∈ g.pins, x ∈ srcs d ++ FG.map (·.name))) → ∀ g', Gs[i]? = some g' → g' ∈ d.gates.take (j + 1) → g' ∈ FG := fun h g' hi' hm => by
          rw [take_snoc1 hg] at hm
          rcases List.mem_append.mp hm with m | m
          · exact hFi g' hi' m
          · have eg : g' = g := List.mem_singleton.mp m
            subst eg
            rcases h with h | h
            · rcases List.mem_append.mp h with m2 | m2
              · exact absurd (List.mem_map.mpr ⟨g', hgm, rfl⟩) (dis _ m2)
              · obtain ⟨g2, h2, e2⟩ := List.mem_map.mp m2
                rw [← same_gate hN (hS.sub g2 h2) hgm e2]; exact h2
            · refine absurd (fun x hx => ?_) h
              rcases List.mem_append.mp (hW.cl i g' hi' x hx) with m2 | m2
              · exact List.mem_append_left _ m2
              · obtain ⟨g2, h2, e2⟩ := List.mem_map.mp m2
                obtain ⟨k, hk, e⟩ := List.getElem_of_mem h2
                rw [List.length_take] at hk
                rw [List.getElem_take] at e
                exact List.mem_append_right _ (List.mem_map.mpr ⟨g2, hFk k g2 (by omega) (List.getElem?_eq_some_iff.mpr ⟨by omega, e⟩), e2⟩)
        refine ⟨_, rfl, _, _, _, _, rfl, rfl, SqT.of (E4 _ _ hg1), atI_nat (j := 0) rfl, _, rfl, pl, _, rfl, .inl (SqL.of hpl4), rfl, flat_map (fun _ => rfl) _, ?_⟩
        rw [if_pos rfl, inV_sL4]
        refine ⟨_, rfl, ite2 (fun c1 => ?_) (fun c1 => iteF ⟨E4, fa, FG, _, _, hpl4, hfl4, hF, hS, by omega, hFk, stay (.inl ?_), rfl⟩)⟩
        · have c1' : g.name ∉ srcs d ++ FG.map (·.name) := fun z => by rw [decide_eq_true z] at c1; cases c1
          refine ⟨_, rfl, _, _, _, _, rfl, rfl, SqT.of (E4 _ _ hg1), atI_nat (j := 2) rfl, pt, rfl, ⟨_, SqT.of (E4 _ _ hg3)⟩, fun DL nDL => wk_tup (K := K) (a := pt) (xs := g.pins.map V.str)
            (fun m H' => Ex H4 H' ∧ H' DL = some (.lst (((g.pins.take m).filter fun x => decide (x ∉ srcs d ++ FG.map (·.name))).map V.str))) ⟨Ex.new nDL, upd_same⟩ (fun m H' _ z => SqT.of ((E4.trans z.1) _ _ hg3)) ?_ ?_⟩
          · rintro m yv H5 hy ⟨E5, hD⟩
            obtain ⟨x, hx, rfl⟩ : ∃ x, g.pins[m]? = some x ∧ yv = .str x := by
              rw [List.getElem?_map] at hy
              cases e : g.pins[m]? with
              | none => rw [e] at hy; cases hy
              | some x => rw [e] at hy; cases hy; exact ⟨x, rfl, rfl⟩
            have hml : m < g.pins.length := (List.getElem?_eq_some_iff.mp hx).1
            refine ⟨rfl, ?_⟩
            simp only [wipe, _root_.L2.start, List.map_cons, List.map_nil, List.length_cons, List.length_nil, Nat.reduceAdd, Nat.reduceSub, List.replicate_succ, List.replicate_zero, List.cons_append, List.nil_append, List.set_cons_zero, List.set_cons_succ]
            refine ⟨_, rfl, _, rfl, pl, _, rfl, .inl (SqL.of (E5 _ _ hpl4)), rfl, flat_map (fun _ => rfl) _, ?_⟩
            rw [if_pos rfl, inV_sL4]
            refine ⟨_, rfl, ite2 (fun cc => ?_) (fun cc => ?_)⟩
            · have cc' : x ∉ srcs d ++ FG.map (·.name) := fun z => by rw [decide_eq_true z] at cc; cases cc
              refine ⟨_, rfl, _, hD, sz_lt ?_, E5.mut nDL, ?_⟩
              · rw [List.length_map]
                have := List.length_filter_le (fun x => decide (x ∉ srcs d ++ FG.map (·.name))) (g.pins.take m)
                rw [List.length_take] at this
                omega
              · rw [upd_same, take_snoc1 hx, List.filter_append, List.map_append, List.filter_cons, if_pos (decide_eq_true cc')]; rfl
            · have cc' : x ∈ srcs d ++ FG.map (·.name) := Classical.byContradiction fun z => cc (by rw [decide_eq_false z]; rfl)
              refine ⟨E5, ?_⟩
              rw [hD, take_snoc1 hx, List.filter_append, List.filter_cons, if_neg (by rw [decide_eq_true_iff]; exact fun z => z cc'), List.filter_nil, List.append_nil]
          rintro H5 ⟨E5, hD⟩
          rw [List.length_map, List.take_length] at hD
          refine ⟨_, _, rfl, .inl (SqL.of hD), rfl, _, rfl, ite2 (fun c2 => ?_) (fun c2 => ⟨E4.trans E5, fa, FG, _, _, E5 _ _ hpl4, E5 _ _ hfl4, hF, hS, by omega, hFk, stay (.inr ?_), rfl⟩)⟩
          · have hall : ∀ x ∈ g.pins, x ∈ srcs d ++ FG.map (·.name) := fun x hx => Classical.byContradiction fun z => by
              have h0 : ((g.pins.filter fun x => decide (x ∉ srcs d ++ FG.map (·.name))).map V.str).length = 0 := by
                have := V.int.inj (of_decide_eq_true c2)
                omega
              rw [List.length_map] at h0
              have := List.length_eq_zero_iff.mp h0
              have m : x ∈ g.pins.filter fun x => decide (x ∉ srcs d ++ FG.map (·.name)) := List.mem_filter.mpr ⟨hx, decide_eq_true z⟩
              rw [this] at m
              cases m
            have hpl5 := E5 _ _ hpl4
            have hfl5 := E5 _ _ hfl4
            have e45 := E4.trans E5
            refine ⟨_, rfl, .inl ⟨rfl, _, SqL.of hpl5⟩, _, rfl, _, _, _, _, rfl, rfl, SqT.of (e45 _ _ hg1), atI_nat (j := 0) rfl, pl, _, .str g.name, rfl, rfl, hpl5, sz_lt (by rw [List.length_map, List.length_append, List.length_map]; omega), ?_⟩
            have E6 : Ex H (upd H5 pl (.lst ((srcs d ++ FG.map (·.name)).map V.str ++ [.str g.name]))) := e45.mut npl
            have k1 : upd H5 pl (.lst ((srcs d ++ FG.map (·.name)).map V.str ++ [.str g.name])) pl = some (.lst ((srcs d ++ (FG ++ [g]).map (·.name)).map V.str)) := by
              rw [upd_same, List.map_append, List.map_append (l₁ := srcs d) , List.map_append (l₁ := FG), List.map_append, List.append_assoc]; rfl
            have k2 : upd H5 pl (.lst ((srcs d ++ FG.map (·.name)).map V.str ++ [.str g.name])) fl = some (.lst (fa.map V.ref)) := by rw [upd_ne nfp]; exact hfl5
            generalize upd H5 pl (.lst ((srcs d ++ FG.map (·.name)).map V.str ++ [.str g.name])) = H6 at *
            refine ⟨_, rfl, .inl ⟨rfl, _, SqL.of k2⟩, _, rfl, fl, _, .ref b, rfl, rfl, k2, sz_lt (by rw [List.length_map, hF.1]; omega), E6.mut nflH, fa ++ [b], FG ++ [g], _, _, ?_, ?_, hF.snoc hgA, ⟨fun g' h' => ?_, fun k g' hk x hx => ?_⟩, by rw [List.length_append]; show _ + 1 ≤ _; omega, fun k g' hk h' => List.mem_append_left _ (hFk k g' hk h'), fun g' h' hm => ?_, rfl⟩
            · rw [upd_ne nfp.symm]; exact k1
            · rw [upd_same, List.map_append]; rfl
            · rcases List.mem_append.mp h' with m | m
              · exact hS.sub g' m
              · rw [List.mem_singleton.mp m]; exact hgm
            · rcases Nat.lt_or_ge k FG.length with lt | ge
              · rw [List.getElem?_append_left lt] at hk
                rw [List.take_append_of_le_length (by omega)]
                exact hS.cl k g' hk x hx
              · rw [List.getElem?_append_right ge] at hk
                have hk0 : k - FG.length = 0 := by
                  cases e : k - FG.length with
                  | zero => rfl
                  | succ n => rw [e] at hk; cases hk
                rw [hk0] at hk
                cases hk
                have ek : k = FG.length := by omega
                rw [ek, List.take_append_of_le_length (Nat.le_refl _), List.take_length]
                exact hall x hx
            · rw [take_snoc1 hg] at hm
              rcases List.mem_append.mp hm with m | m
              · exact List.mem_append_left _ (hFi g' h' m)
              · exact List.mem_append_right _ m
          · intro hall
            refine c2 (decide_eq_true ?_)
            rw [List.filter_eq_nil_iff.mpr fun x hx => by rw [decide_eq_true_iff]; exact fun z => z (hall x hx)]; rfl
        · exact Classical.byContradiction fun z => c1 (by rw [decide_eq_false z]; rfl)
      · rintro σ H4 ⟨E4, fa, FG, y, z, hpl4, hfl4, hF, hS, hFl, hFk, hFi, rfl⟩
        rw [List.length_map, hgl] at hFl hFi
        rw [List.take_length] at hFi
        refine ⟨E4, fa, FG, _, _, hpl4, hfl4, hF, hS, by rw [Nat.succ_mul]; exact hFl, fun k g hk hg => ?_, rfl⟩
        rcases Nat.lt_or_eq_of_le (Nat.le_of_lt_succ hk) with lt | rfl
        · exact hFk k g lt hg
        · exact hFi g hg (hW.perm.mem_iff.mpr (List.mem_of_getElem? hg))
    · rintro σ H3 ⟨E3, fa, FG, y, z, hpl3, hfl3, hF, hS, hFl, hFk, rfl⟩
      rw [Int.toNat_natCast] at hFl hFk
      refine ⟨_, rfl, q fl fa FG H3 E3 hfl3 hF hS (fun g hg => ?_) (Nat.le_trans hFl (Nat.mul_le_mul hg16 hg16))⟩
      obtain ⟨k, hk, e⟩ := List.getElem_of_mem (hW.perm.mem_iff.mp hg)
      exact hFk k g (by rw [hW.perm.length_eq]; exact hk) (List.getElem?_eq_some_iff.mpr ⟨hk, e⟩)
end
end G
namespace G
open PySem PySem.Spec PyProof.Rows L2 Evl TL
/-- the pair of a net, or None -/
def PairAt (H : Hp) (v : V) : Option Pr → Prop
  | none => v = .non
  | some p => ∃ a, v = .ref a ∧ IntsAt H a p
theorem PairAt.te {H H' : Hp} {v : V} {o : Option Pr} (e : TEx H H') (h : PairAt H v o) : PairAt H' v o := by
  cases o with
  | none => exact h
  | some p =>
    obtain ⟨a, h1, h2⟩ := h
    exact ⟨a, h1, h2.te e⟩
/-- a dict of the pairs of the nets in ns -/
structure HoldsP (H : Hp) (es : List (Key × V)) (ns : List Str) (A : Str → Option Pr) : Prop where
  ex : ∃ v : Str → V, HoldsV es ns v ∧ ∀ x ∈ ns, PairAt H (v x) (A x)
theorem HoldsP.te {H H' : Hp} {es : List (Key × V)} {ns : List Str} {A : Str → Option Pr} (e : TEx H H') (h : HoldsP H es ns A) : HoldsP H' es ns A := by
  obtain ⟨v, h1, h2⟩ := h.ex
  exact ⟨v, h1, fun x hx => (h2 x hx).te e⟩
theorem HoldsP.put {H : Hp} {es : List (Key × V)} {ns : List Str} {A : Str → Option Pr} (h : HoldsP H es ns A) {n : Str} {y : V} (hy : PairAt H y (A n)) : HoldsP H (putK es (.inr n) y) (ns ++ [n]) A := by
  obtain ⟨v, h1, h2⟩ := h.ex
  refine ⟨_, HoldsV.put h1 n y, fun x hx => ?_⟩
  show PairAt H (if x = n then y else v x) (A x)
  by_cases e : x = n
  · rw [if_pos e, e]; exact hy
  · rw [if_neg e]
    rcases List.mem_append.mp hx with m | m
    · exact h2 x m
    · exact absurd (List.mem_singleton.mp m) e
theorem HoldsP.congr {H : Hp} {es : List (Key × V)} {ns ns' : List Str} {A : Str → Option Pr} (h : HoldsP H es ns A) (e : ∀ x, x ∈ ns ↔ x ∈ ns') : HoldsP H es ns' A := by
  obtain ⟨v, h1, h2⟩ := h.ex
  exact ⟨v, h1.congr e, fun x hx => h2 x ((e x).mpr hx)⟩
theorem HoldsP.at_ {H H' : Hp} {es : List (Key × V)} {ns : List Str} {A : Str → Option Pr} {Dc : Addr} (h : HoldsP H es ns A) (hD : H' Dc = some (.dK es)) {x : Str} (hx : x ∈ ns) : ∃ v, DGet H' Dc (kV (Sum.inr x)) (some v) ∧ PairAt H v (A x) := by
  obtain ⟨v, h1, h2⟩ := h.ex
  exact ⟨v x, h1.at_ hD hx, h2 x hx⟩
section
variable {P : Program} {w : World} {K : PySem.W.Frag} {mg : Str → Option Value} {base : Heap}
theorem kMin4 {X : Cx} {K : PySem.W.Frag} (h : X.K = K) (hc : X.calm = true) : CallR X (.builtin "min") (rMin K) := by subst h; exact cr_min hc
theorem kMax4 {X : Cx} {K : PySem.W.Frag} (h : X.K = K) (hc : X.calm = true) : CallR X (.builtin "max") (rMax K) := by subst h; exact cr_max hc
def spLArr : Sp := fun vs H Q _ => ∃ (c sl : Addr) (d : CircD) (Gs : List GateD) (it gt rt ot : Addr) (ga ra oa sa : List Addr) (S : List Pr) (A : Str → Option Pr), vs = [.ref c, .ref sl] ∧ CircAt H c d it gt rt ot ga ra oa ∧ Nets d ∧ Crea d Gs ∧ (∀ g ∈ d.gates, g.rng.length = g.pins.length) ∧
  H sl = some (.lst (sa.map V.ref)) ∧ All2 (IntsAt H) sa S ∧ S.length = (srcs d).length ∧ Arr d S A ∧ ∀ (q : Addr) (es : List (Key × V)) (H' : Hp), Ex H H' → H' q = some (.dK es) → HoldsP H' es (srcs d ++ gnames d) A → Q (.ref q) H'
theorem sc_law_arrivals : FnScope ["circuit", "starts", "names", "found", "k", "gate", "early", "late", "pair"] ["circuit", "starts"] (defScope s_law_arrivals) := ⟨rfl, rfl, rfl, by decide +kernel, rfl, by decide +kernel, by decide +kernel⟩
theorem ok_law_arrivals (D : Dfd K mg "_law_arrivals" s_law_arrivals ["circuit", "starts"]) (T : TxtD mg) (C1 : Has P w K mg base 1 "_law_sources" ["circuit"] spSources) (C2 : Has P w K mg base 2 "_law_sorted_gates" ["circuit"] spSorted) : Has P w K mg base 3 "_law_arrivals" ["circuit", "starts"] spLArr := by
  obtain ⟨f_law_sources, d_law_sources, G_law_sources, g_law_sources, k_law_sources, b_law_sources⟩ := C1
  obtain ⟨f_law_sorted_gates, d_law_sorted_gates, G_law_sorted_gates, g_law_sorted_gates, k_law_sorted_gates, b_law_sorted_gates⟩ := C2
  refine D.has fun f fd F => F.ok sc_law_arrivals (fun vs H Q E h => ?_) (fun cdv Ar outer s H vs Q E hr h => ?_)
  · obtain ⟨c, sl, d, Gs, it, gt, rt, ot, ga, ra, oa, sa, S, A, rfl, _⟩ := h
    rfl
  · obtain ⟨c, sl, d, Gs, it, gt, rt, ot, ga, ra, oa, sa, S, A, rfl, hc, hN, hW, hrp, hsl, hS, hSl, hA, q⟩ := h
    refine ⟨_, (pss_cons (ps_set (i := 2) sc_law_arrivals.nd rfl (.inl rfl) (pe_call G_law_sources (hr.mono (by omega)) (by rfl) g_law_sources k_law_sources b_law_sources .nil pass0 (pa_cons (pv 0) pa_nil)))
    (pss_cons (ps_set (i := 3) sc_law_arrivals.nd rfl (.inl rfl) pe_dnewK)
    (pss_cons (ps_for PassesOwn.never rfl (pi_range1 rfl T.range (pa_cons (pe_callB call_len_seq (by rfl) T.len (by decide +kernel) (pa_cons (pv 2) pa_nil)) pa_nil)) (pg_name (i := 4) sc_law_arrivals.nd rfl (.inl rfl))
      (pss_one (ps_asg (pe_ix ix_list (pv 1) (pv 4) (fun _ _ => rfl)) (pg_sub (pv 3) (pe_ix ix_list (pv 2) (pv 4) (fun _ _ => rfl)) (set_dict (hu_of hr))))))
    (pss_cons (ps_for PassesOwn.never rfl (pi_list (pe_call G_law_sorted_gates (hr.mono (by omega)) (by rfl) g_law_sorted_gates k_law_sorted_gates b_law_sorted_gates .nil pass0 (pa_cons (pv 0) pa_nil))) (pg_name (i := 5) sc_law_arrivals.nd rfl (.inl rfl))
      (pss_cons (ps_set (i := 6) sc_law_arrivals.nd rfl (.inl rfl) (pe_lst pa_nil))
      (pss_cons (ps_set (i := 7) sc_law_arrivals.nd rfl (.inl rfl) (pe_lst pa_nil))
      (pss_cons (ps_for PassesOwn.never rfl (pi_range1 rfl T.range (pa_cons (pe_callB call_len_seq (by rfl) T.len (by decide +kernel) (pa_cons (pe_ix ix_tup (pv 5) pe_int (fun _ _ => rfl)) pa_nil)) pa_nil)) (pg_name (i := 4) sc_law_arrivals.nd rfl (.inl rfl))
        (pss_cons (ps_set (i := 8) sc_law_arrivals.nd rfl (.inl rfl) (pe_dget (hu_of hr) (pv 3) (pe_ix ix_tup (pe_ix ix_tup (pv 5) pe_int (fun _ _ => rfl)) (pv 4) (fun _ _ => rfl)) (fun _ _ => rfl)))
        (pss_one (ps_if (pt_cmpR op_notN (pv 8) pe_non (nomark _))
          (pss_cons (ps_expr (pe_bm PySem.F.plainAttrs_list PySem.F.slot_list_append PySem.F.type_list_append mt_append (pv 6) (pa_cons (pe_op op_add (pe_ix ix_tup (pv 8) pe_int (fun _ _ => rfl)) (pe_ix ix_tup (pe_ix ix_tup (pe_ix ix_tup (pv 5) pe_int (fun _ _ => rfl)) (pv 4) (fun _ _ => rfl)) pe_int (fun _ _ => rfl))) pa_nil)))
          (pss_one (ps_expr (pe_bm PySem.F.plainAttrs_list PySem.F.slot_list_append PySem.F.type_list_append mt_append (pv 7) (pa_cons (pe_op op_add (pe_ix ix_tup (pv 8) pe_int (fun _ _ => rfl)) (pe_ix ix_tup (pe_ix ix_tup (pe_ix ix_tup (pv 5) pe_int (fun _ _ => rfl)) (pv 4) (fun _ _ => rfl)) pe_int (fun _ _ => rfl))) pa_nil)))))
          pss_nil))))
      (pss_one (ps_asg (pe_ifExp (pt_cmpR op_gt (pe_callB call_len_seq (by rfl) T.len (by decide +kernel) (pa_cons (pv 6) pa_nil)) pe_int (nomark _)) (pe_tup (pa_cons (pe_callB (kMin4 (K := K) rfl rfl) (by rfl) T.min (by decide +kernel) (pa_cons (pv 6) pa_nil)) (pa_cons (pe_callB (kMax4 (K := K) rfl rfl) (by rfl) T.max (by decide +kernel) (pa_cons (pv 7) pa_nil)) pa_nil))) pe_non) (pg_sub (pv 3) (pe_ix ix_tup (pv 5) pe_int (fun _ _ => rfl)) (set_dict (hu_of hr)))))))))
    (pss_one (ps_ret (pv 3))))))), ?_⟩
    have hs := hN.fews
    have hg16 := hN.few
    refine ⟨_, rfl, c, d, it, gt, rt, ot, ga, ra, oa, rfl, hc, by omega, fun nl H1 nnl E1 hnl => fun Dc nD => ?_⟩
    have nDH : H Dc = none := fresh_back E1 nD
    have hD0 : upd H1 Dc (.dK []) Dc = some (.dK []) := upd_same
    have E2 := E1.trans (Ex.new (o := .dK []) nD)
    have hnl2 : upd H1 Dc (.dK []) nl = some (.lst ((srcs d).map V.str)) := Ex.new nD _ _ hnl
    generalize upd H1 Dc (.dK []) = H2 at *
    have nDn : nl ≠ Dc := ne_of_none hnl nD
    refine ⟨_, rfl, _, _, rfl, .inl (SqL.of hnl2), (srcs d).length, by rw [List.length_map], by omega, by omega, for_range (n := (((srcs d).length : Nat) : Int).toNat)
      (fun j σ H' => Ex H H' ∧ H' nl = some (.lst ((srcs d).map V.str)) ∧ ∃ (es : List (Key × V)) (y : Option V), H' Dc = some (.dK es) ∧ es.length ≤ j ∧ HoldsP H' es ((srcs d).take j) A ∧ σ = [some (.ref c), some (.ref sl), some (.ref nl), some (.ref Dc), y, none, none, none, none])
      ⟨E2, hnl2, [], _, hD0, Nat.le_refl _, ⟨⟨fun _ => .non, HoldsV.nil, (fun _ h => nomatch h)⟩⟩, rfl⟩ ?_ ?_⟩
    · rintro j σ H3 hj ⟨E3, hnl3, es, y, hD, hel, hP, rfl⟩
      rw [Int.toNat_natCast] at hj
      obtain ⟨r, hr'⟩ : ∃ r, S[j]? = some r := ⟨_, List.getElem?_eq_getElem (by omega)⟩
      obtain ⟨b, hb, hbr⟩ := hS.of hr'
      have hx := strV_at hj
      have hAx : A (srcs d)[j] = some r := by rw [← hA.src j _ (List.getElem?_eq_getElem hj)]; exact hr'
      refine ⟨_, rfl, _, rfl, _, _, _, _, rfl, rfl, SqL.of (E3 _ _ hsl), at_of (j := j) (by omega) (by rw [List.getElem?_map, hb]; rfl), _, rfl, _, rfl, _, rfl, _, _, _, _, rfl, rfl, SqL.of hnl3, at_of (j := j) (by omega) hx, Dc, _, rfl, .inl ⟨es, .inr (srcs d)[j], hD, rfl, sz_lt (by omega), rfl⟩, ?_⟩
      refine ⟨E3.mut nDH, by rw [upd_ne nDn]; exact hnl3, _, _, upd_same, Nat.le_trans (length_putK _ _ _) (by omega), ?_, rfl⟩
      rw [take_snoc1 (List.getElem?_eq_getElem hj)]
      have T : TEx H3 (upd H3 Dc (.dK (putK es (.inr (srcs d)[j]) (.ref b)))) := fun a xs h => by rw [upd_ne (ne_of h hD (by intro z; cases z))]; exact h
      refine (hP.te T).put ?_
      rw [hAx]
      exact ⟨b, rfl, (hbr.te (TEx.of E3)).te T⟩
    rintro σ H3 ⟨E3, hnl3, es, y, hD, hel, hP, rfl⟩
    rw [Int.toNat_natCast, List.take_length] at hP
    rw [Int.toNat_natCast] at hel
    refine ⟨_, rfl, c, d, Gs, it, gt, rt, ot, ga, ra, oa, rfl, hc.te (TEx.of E3), hN, hW, fun fl fa FG H4 E4 hfl hF hSG hall hFl => ?_⟩
    have hE4 := E3.trans E4
    have hD4 := E4 _ _ hD
    have hP4 := hP.te (TEx.of E4)
    have hF4 : All2 (GateAt H4) fa FG := hF.imp fun _ _ z => z.te (TEx.of E4)
    refine ⟨fl, rfl, ⟨_, SqL.of hfl⟩, for_list (K := K) (a := fl) (xs := fa.map V.ref)
      (fun i σ H' => Ex H H' ∧ TEx H4 H' ∧ H' fl = some (.lst (fa.map V.ref)) ∧ ∃ (es : List (Key × V)) (y4 y5 y6 y7 y8 : Option V), H' Dc = some (.dK es) ∧ es.length ≤ (srcs d).length + i ∧ HoldsP H' es (srcs d ++ (FG.take i).map (·.name)) A ∧ σ = [some (.ref c), some (.ref sl), some (.ref nl), some (.ref Dc), y4, y5, y6, y7, y8])
      ⟨hE4, .refl _, hfl, es, _, _, _, _, _, hD4, by omega, by rw [List.take_zero, List.map_nil, List.append_nil]; exact hP4, rfl⟩ (fun i σ H' _ g => SqL.of g.2.2.1) ?_ ?_⟩
    · rintro i x σ H5 hx ⟨E5, T5, hfl5, es, y4, y5, y6, y7, y8, hD5, hel5, hP5, rfl⟩
      obtain ⟨b, hb, rfl⟩ := refs_get hx
      obtain ⟨g, hg, hgA⟩ := hF4.at_ hb
      have hgm := hSG.sub g (List.mem_of_getElem? hg)
      have hil : i < FG.length := (List.getElem?_eq_some_iff.mp hg).1
      have hp3 := hN.fewp g hgm
      have hrl := hrp g hgm
      have hin := hSG.cl i g hg
      refine ⟨Nat.zero_le _, fun el nel => ⟨Nat.zero_le _, fun ll nll => ?_⟩⟩
      have E7 : Ex H5 (upd (upd H5 el (.lst [])) ll (.lst [])) := (Ex.new nel).trans (Ex.new nll)
      have hel7 : upd (upd H5 el (.lst [])) ll (.lst []) el = some (.lst []) := Ex.new nll _ _ upd_same
      have hll7 : upd (upd H5 el (.lst [])) ll (.lst []) ll = some (.lst []) := upd_same
      have nle : el ≠ ll := ne_of_none upd_same nll
      have nll5 : H5 ll = none := fresh_back (Ex.new (o := .lst []) nel) nll
      generalize upd (upd H5 el (.lst [])) ll (.lst []) = H7 at *
      have hgA7 : ∀ H', Ex H5 H' → GateAt H' b g := fun H' e => (hgA.te T5).te (TEx.of e)
      obtain ⟨t, pt, rgt, rla, hg1, hg2, hg3, hg4, hg5⟩ := hgA.te T5
      refine ⟨_, rfl, _, _, _, _, rfl, rfl, SqT.of (E7 _ _ hg1), atI_nat (j := 2) rfl, _, _, rfl, .inr (SqT.of (E7 _ _ hg3)), g.pins.length, by rw [List.length_map], by omega, by omega, for_range (n := ((g.pins.length : Nat) : Int).toNat)
        (fun k σ H' => Ex H5 H' ∧ H' el = some (.lst ((earlyL (knownP A (g.pins.take k) (g.rng.take k))).map V.int)) ∧ H' ll = some (.lst ((lateL (knownP A (g.pins.take k) (g.rng.take k))).map V.int)) ∧ ∃ (z4 z8 : Option V), σ = [some (.ref c), some (.ref sl), some (.ref nl), some (.ref Dc), z4, some (.ref b), some (.ref el), some (.ref ll), z8])
        ⟨E7, hel7, hll7, _, _, rfl⟩ ?_ ?_⟩
      · rintro k σ H8 hk ⟨E8, hel8, hll8, z4, z8, rfl⟩
        rw [Int.toNat_natCast] at hk
        have ek : (0 : Int) + (k : Int) = (k : Int) := Int.zero_add _
        rw [ek]
        obtain ⟨x, hx⟩ : ∃ x, g.pins[k]? = some x := ⟨_, List.getElem?_eq_getElem hk⟩
        obtain ⟨r, hr'⟩ : ∃ r, g.rng[k]? = some r := ⟨_, List.getElem?_eq_getElem (by omega)⟩
        obtain ⟨rb, hrb, hrI⟩ := hg5.of hr'
        obtain ⟨v, hv, hvP⟩ := hP5.at_ (E8 _ _ hD5) (hin x (List.mem_of_getElem? hx))
        have hvP8 := hvP.te (TEx.of E8)
        have kn := knownP_snoc (A := A) hx hr'
        have klen := knownP_len (A := A) (xs := g.pins.take k) (rs := g.rng.take k)
        rw [List.length_take] at klen
        refine ⟨_, rfl, _, rfl, _, _, _, _, rfl, rfl, SqT.of (E8 _ _ hg1), atI_nat (j := 2) rfl, _, rfl, _, _, _, _, rfl, rfl, SqT.of (E8 _ _ hg3), at_of (j := k) rfl (by rw [List.getElem?_map, hx]; rfl), Dc, _, rfl, hv, _, rfl, rfl, _, rfl, ?_⟩
        cases hAx : A x with
        | none =>
          rw [hAx] at hvP8 kn
          have e : v = .non := hvP8
          subst e
          refine iteF ⟨E8, ?_, ?_, _, _, rfl⟩
          · rw [kn, List.append_nil]; exact hel8
          · rw [kn, List.append_nil]; exact hll8
        | some pr =>
          rw [hAx] at hvP8 kn
          obtain ⟨vb, rfl, hvI⟩ := hvP8
          refine iteT ?_
          refine ⟨_, rfl, .inl ⟨rfl, _, SqL.of hel8⟩, _, rfl, _, _, _, _, rfl, rfl, SqT.of hvI, atI_nat (j := 0) rfl, _, rfl, _, _, _, _, rfl, rfl, SqT.of (E8 _ _ hg1), atI_nat (j := 3) rfl, _, rfl, _, _, _, _, rfl, rfl, SqT.of (E8 _ _ hg4), at_of (j := k) rfl (by rw [List.getElem?_map, hrb]; rfl), _, _, _, _, rfl, rfl, SqT.of (E8 _ _ hrI), atI_nat (j := 0) rfl, _, _, rfl, rfl, el, _, .int (pr.1 + r.1), rfl, rfl, hel8, sz_lt (by rw [List.length_map]; unfold earlyL; rw [List.length_map]; omega), ?_⟩
          have E9 : Ex H5 (upd H8 el (.lst ((earlyL (knownP A (g.pins.take k) (g.rng.take k))).map V.int ++ [.int (pr.1 + r.1)]))) := E8.mut nel
          have hel9 : upd H8 el (.lst ((earlyL (knownP A (g.pins.take k) (g.rng.take k))).map V.int ++ [.int (pr.1 + r.1)])) el = some (.lst ((earlyL (knownP A (g.pins.take (k + 1)) (g.rng.take (k + 1)))).map V.int)) := by
            rw [upd_same, kn]
            unfold earlyL
            rw [List.map_append, List.map_append]; rfl
          have hll9 : upd H8 el (.lst ((earlyL (knownP A (g.pins.take k) (g.rng.take k))).map V.int ++ [.int (pr.1 + r.1)])) ll = some (.lst ((lateL (knownP A (g.pins.take k) (g.rng.take k))).map V.int)) := by rw [upd_ne nle.symm]; exact hll8
          have hvI9 : IntsAt (upd H8 el (.lst ((earlyL (knownP A (g.pins.take k) (g.rng.take k))).map V.int ++ [.int (pr.1 + r.1)]))) vb pr := hvI.te (TEx.mut hel8)
          generalize upd H8 el (.lst ((earlyL (knownP A (g.pins.take k) (g.rng.take k))).map V.int ++ [.int (pr.1 + r.1)])) = H9 at *
          refine ⟨_, rfl, .inl ⟨rfl, _, SqL.of hll9⟩, _, rfl, _, _, _, _, rfl, rfl, SqT.of hvI9, atI_nat (j := 1) rfl, _, rfl, _, _, _, _, rfl, rfl, SqT.of (E9 _ _ hg1), atI_nat (j := 3) rfl, _, rfl, _, _, _, _, rfl, rfl, SqT.of (E9 _ _ hg4), at_of (j := k) rfl (by rw [List.getElem?_map, hrb]; rfl), _, _, _, _, rfl, rfl, SqT.of (E9 _ _ hrI), atI_nat (j := 1) rfl, _, _, rfl, rfl, ll, _, .int (pr.2 + r.2), rfl, rfl, hll9, sz_lt (by rw [List.length_map]; unfold lateL; rw [List.length_map]; omega), E9.mut nll5, ?_, ?_, _, _, rfl⟩
          · rw [upd_ne nle]; exact hel9
          · rw [upd_same, kn]
            unfold lateL
            rw [List.map_append, List.map_append]; rfl
      · rintro σ H8 ⟨E8, hel8, hll8, z4, z8, rfl⟩
        rw [Int.toNat_natCast, List.take_length, ← hrl, List.take_length] at hel8 hll8
        have hG := hA.gate g hgm
        dsimp only [gName, tSeq, tAsg]
        refine tif_by (tt := tIf _ _ _) (fun v H' => Ex H8 H' ∧ PairAt H' v (A g.name)) (fun Q' kk => ?_) ?_
        · refine ⟨_, rfl, _, _, rfl, .inl (SqL.of hel8), _, _, rfl, rfl, _, rfl, ite2 (fun c1 => ?_) (fun c1 => kk _ _ ⟨.refl _, ?_⟩)⟩
          · have hpos : 0 < (earlyL (knownP A g.pins g.rng)).length := by
              have := of_decide_eq_true c1
              rw [List.length_map] at this
              omega
            have hpos2 : 0 < (lateL (knownP A g.pins g.rng)).length := by
              unfold lateL
              unfold earlyL at hpos
              rw [List.length_map] at hpos ⊢
              exact hpos
            refine ⟨_, rfl, el, _, rfl, SqL.of hel8, hpos, fun m hm hmin => ⟨_, rfl, ll, _, rfl, SqL.of hll8, hpos2, fun M hM hmax => ⟨by show 2 ≤ sizeLine; decide, fun o no => kk _ _ ⟨Ex.new no, ?_⟩⟩⟩⟩
            rw [hG.some_eq hm hmin hM hmax]
            exact ⟨o, rfl, upd_same⟩
          · have h0 : knownP A g.pins g.rng = [] := by
              have h1 : ¬ (0 : Int) < (((earlyL (knownP A g.pins g.rng)).map V.int).length : Nat) := fun z => c1 (decide_eq_true z)
              rw [List.length_map] at h1
              unfold earlyL at h1
              rw [List.length_map] at h1
              exact List.length_eq_zero_iff.mp (by omega)
            rw [hG.none_eq h0]; rfl
        rintro v H9 ⟨E9, hvP⟩
        have e59 := E8.trans E9
        have hD9 := e59 _ _ hD5
        refine ⟨_, rfl, _, rfl, _, _, _, _, rfl, rfl, SqT.of (e59 _ _ hg1), atI_nat (j := 0) rfl, Dc, _, rfl, .inl ⟨es, .inr g.name, hD9, rfl, sz_lt (by omega), rfl⟩, ?_⟩
        have T : TEx H9 (upd H9 Dc (.dK (putK es (.inr g.name) v))) := fun a xs h => by rw [upd_ne (ne_of h hD9 (by intro z; cases z))]; exact h
        refine ⟨(E5.trans e59).mut nDH, (T5.trans (TEx.of e59)).trans T, ?_, _, _, _, _, _, _, upd_same, Nat.le_trans (length_putK _ _ _) (by omega), ?_, rfl⟩
        · rw [upd_ne (ne_of hfl5 hD5 (by intro z; cases z))]; exact e59 _ _ hfl5
        · rw [take_snoc1 hg, List.map_append, ← List.append_assoc]
          exact ((hP5.te (TEx.of e59)).te T).put (hvP.te T)
    · rintro σ H5 ⟨E5, T5, hfl5, es, y4, y5, y6, y7, y8, hD5, hel5, hP5, rfl⟩
      rw [List.length_map, hF.1, List.take_length] at hP5
      refine ⟨_, rfl, q Dc es H5 E5 hD5 (hP5.congr fun x => ?_)⟩
      rw [List.mem_append, List.mem_append]
      refine or_congr Iff.rfl ⟨fun z => ?_, fun z => ?_⟩
      · obtain ⟨g, hg, rfl⟩ := List.mem_map.mp z
        exact List.mem_map.mpr ⟨g, hSG.sub g hg, rfl⟩
      · obtain ⟨g, hg, rfl⟩ := List.mem_map.mp z
        exact List.mem_map.mpr ⟨g, hall g hg, rfl⟩
end
end G
namespace G
open PySem PySem.Spec PyProof.Rows L2 Evl TL
def rTupOf (K : PySem.W.Frag) : List V → Hp → VK → Prop := fun xs H Q => ∃ p ys, xs = [.ref p] ∧ ((SqL K H p ys ∧ ∀ l, H l = none → Q (.ref l) (upd H l (.tup ys))) ∨ (SqT K H p ys ∧ Q (.ref p) H))
theorem kTupOf {X : Cx} {K : PySem.W.Frag} (h : X.K = K) : CallR X (.type "tuple") (rTupOf K) := by subst h; exact call_tuple_of
end G
namespace G
open PySem PySem.Spec PyProof.Rows L2 Evl TL
/-! ## circuits with other ranges -/
def RowAt (H : Hp) (a : Addr) (r : List (Int × Int)) : Prop := ∃ pl : List Addr, (H a = some (.lst (pl.map V.ref)) ∨ H a = some (.tup (pl.map V.ref))) ∧ All2 (IntsAt H) pl r
def withD (gs : List GateD) (R : List (List (Int × Int))) : List GateD := List.zipWith (fun g r => { g with rng := r }) gs R
theorem withD_snoc {gs : List GateD} {R : List (List (Int × Int))} {j : Nat} {g : GateD} {r : List (Int × Int)} (hg : gs[j]? = some g) (hr : R[j]? = some r) : withD (gs.take (j + 1)) (R.take (j + 1)) = withD (gs.take j) (R.take j) ++ [{ g with rng := r }] := by
  have h1 := (List.getElem?_eq_some_iff.mp hg).1
  have h2 := (List.getElem?_eq_some_iff.mp hr).1
  unfold withD
  rw [take_snoc1 hg, take_snoc1 hr, List.zipWith_append (by rw [List.length_take, List.length_take]; omega)]
  rfl
structure TxtA (mg : Str → Option Value) : Prop where
  zip : mg "zip" = none
  tuple : mg "tuple" = none
section
variable {P : Program} {w : World} {K : PySem.W.Frag} {mg : Str → Option Value} {base : Heap}
def spWith : Sp := fun vs H Q _ => ∃ (c l : Addr) (d : CircD) (R : List (List (Int × Int))) (rl : List Addr) (it gt rt ot : Addr) (ga ra oa : List Addr), vs = [.ref c, .ref l] ∧ CircAt H c d it gt rt ot ga ra oa ∧ H l = some (.lst (rl.map V.ref)) ∧ All2 (RowAt H) rl R ∧ R.length = d.gates.length ∧ d.gates.length ≤ 1000 ∧
  ∀ (c' gt' : Addr) (ga' : List Addr) (H' : Hp), Ex H H' → H c' = none → CircAt H' c' { d with gates := withD d.gates R } it gt' rt ot ga' ra oa → Q (.ref c') H'
theorem sc_with_ranges : FnScope ["circuit", "rows", "inputs", "gates", "regs", "outputs", "changed", "row", "name", "table", "nets", "_"] ["circuit", "rows"] (defScope s_with_ranges) := ⟨rfl, rfl, rfl, by decide +kernel, rfl, by decide +kernel, by decide +kernel⟩
theorem ok_with_ranges (D : Dfd K mg "with_ranges" s_with_ranges ["circuit", "rows"]) (T : TxtA mg) : Has P w K mg base 1 "with_ranges" ["circuit", "rows"] spWith := by
  refine D.has fun f fd F => F.ok sc_with_ranges (fun vs H Q E h => ?_) (fun cdv A outer s H vs Q E hr h => ?_)
  · obtain ⟨c, l, d, R, rl, it, gt, rt, ot, ga, ra, oa, rfl, _⟩ := h
    rfl
  · obtain ⟨c, l, d, R, rl, it, gt, rt, ot, ga, ra, oa, rfl, hc, hl, hR, hRl, hn, q⟩ := h
    refine ⟨_, (pss_cons (ps_asg (pv 0) (pg_tup rfl (pgs_cons (pg_name (i := 2) sc_with_ranges.nd rfl (.inl rfl)) (pgs_cons (pg_name (i := 3) sc_with_ranges.nd rfl (.inl rfl)) (pgs_cons (pg_name (i := 4) sc_with_ranges.nd rfl (.inl rfl)) (pgs_cons (pg_name (i := 5) sc_with_ranges.nd rfl (.inl rfl)) pgs_nil))))))
    (pss_cons (ps_setLc (i := 6) (own := [("row", 7), ("name", 8), ("table", 9), ("nets", 10), ("_", 11)]) (g := gTup K 2 (gCons (gTup K 4 (gCons (gName 8) (gCons (gName 9) (gCons (gName 10) (gCons (gName 11) gNil))))) (gCons (gName 7) gNil))) (tt := tYes) rfl sc_with_ranges.nd rfl rfl (sw_true rfl rfl rfl (by decide +kernel)) (pi_zipM true false (by rfl) T.zip (pa_cons (pv 3) (pa_cons (pv 1) pa_nil))) (blkOk_by (N := ["circuit", "rows", "inputs", "gates", "regs", "outputs", "changed", "row", "name", "table", "nets", "_"]) (sc := defScope s_with_ranges) (own := [("row", 7), ("name", 8), ("table", 9), ("nets", 10), ("_", 11)]) (by decide +kernel)) (fun _ _ _ _ _ => (pg_tup rfl (pgs_cons (pg_tup rfl (pgs_cons (pg_name (i := 8) sc_with_ranges.nd rfl (.inl rfl)) (pgs_cons (pg_name (i := 9) sc_with_ranges.nd rfl (.inl rfl)) (pgs_cons (pg_name (i := 10) sc_with_ranges.nd rfl (.inl rfl)) (pgs_cons (pg_name (i := 11) sc_with_ranges.nd rfl (.inl rfl)) pgs_nil))))) (pgs_cons (pg_name (i := 7) sc_with_ranges.nd rfl (.inl rfl)) pgs_nil)))) (fun _ _ _ _ _ => pts_nil) (fun _ _ _ _ _ => (pe_tup (pa_cons (pv 8) (pa_cons (pv 9) (pa_cons (pv 10) (pa_cons (pe_callTy (kTupOf (K := K) rfl) (by rfl) T.tuple (by decide +kernel) (pa_cons (pv 7) pa_nil)) pa_nil)))))))
    (pss_one (ps_ret (pe_tup (pa_cons (pv 2) (pa_cons (pe_callTy call_tuple_of (by rfl) T.tuple (by decide +kernel) (pa_cons (pv 6) pa_nil)) (pa_cons (pv 4) (pa_cons (pv 5) pa_nil))))))))), ?_⟩
    refine ⟨_, rfl, c, _, rfl, SqT.of hc.top, rfl, _, _, rfl, _, _, rfl, _, _, rfl, _, _, rfl, rfl, ?_⟩
    have hgl := hc.gates.1
    refine ⟨_, rfl, _, rfl, gt, l, ga.map V.ref, rl.map V.ref, rfl, SqT.of hc.gts, SqL.of hl, fun L nL => wk_it (walk_zipM (n := d.gates.length) (by rw [List.length_map]; exact hgl) (by rw [List.length_map, hR.1, hRl]))
      (fun j H' => Ex H H' ∧ ∃ as : List Addr, H' L = some (.lst (as.map V.ref)) ∧ All2 (GateAt (hid L H')) as (withD (d.gates.take j) (R.take j))) ⟨Ex.new nL, [], upd_same, by rw [List.take_zero, List.take_zero]; exact .nil⟩ (fun j H' _ g => ⟨SqT.of (g.1 _ _ hc.gts), SqL.of (g.1 _ _ hl)⟩) ?_ ?_⟩
    · rintro j x H3 H4 hj ⟨E3, as, hL, hA⟩ ⟨T1, x0, y0, rfl, nT, rfl, hx, hy⟩
      obtain ⟨b, hb, rfl⟩ := refs_get hx
      obtain ⟨p, hp, rfl⟩ := refs_get hy
      obtain ⟨g, hg, t, pt, rgt, rga, hg1, hg2, hg3, hg4, hg5⟩ := hc.gates.at_ hb
      obtain ⟨r, hr, pl, hp1, hp2⟩ := hR.at_ hp
      have E4 : Ex H3 (upd H3 T1 (.tup [.ref b, .ref p])) := Ex.new nT
      have e34 := E3.trans E4
      refine ⟨T1, _, rfl, SqT.of upd_same, rfl, _, _, rfl, b, _, rfl, SqT.of (e34 _ _ hg1), rfl, _, _, rfl, _, _, rfl, _, _, rfl, _, _, rfl, rfl, _, _, rfl, rfl, (by rw [wipe_set (by decide), wipe_set (by decide), wipe_set (by decide), wipe_set (by decide), wipe_set (by decide), wipe_wipe]), tYes_in ?_⟩
      generalize upd H3 T1 (.tup [.ref b, .ref p]) = H4 at *
      simp only [wipe, _root_.L2.start, List.map_cons, List.map_nil, List.length_cons, List.length_nil, Nat.reduceAdd, Nat.reduceSub, List.replicate_succ, List.replicate_zero, List.cons_append, List.nil_append, List.set_cons_zero, List.set_cons_succ]
      have nLH3 : ∀ {c : Addr}, H4 c = none → L ≠ c := fun {c} z => ne_of_none (E4 _ _ hL) z
      have fin : ∀ (rt' : Addr) (H5 : Hp), Ex H4 H5 → H5 rt' = some (.tup (pl.map V.ref)) → ∀ c, H5 c = none → ∃ acc, upd H5 c (.tup [.str g.name, .ref t, .ref pt, .ref rt']) L = some (.lst acc) ∧ acc.length < sizeLine ∧
          Ex H (upd (upd H5 c (.tup [.str g.name, .ref t, .ref pt, .ref rt'])) L (.lst (acc ++ [.ref c]))) ∧ ∃ as : List Addr, upd (upd H5 c (.tup [.str g.name, .ref t, .ref pt, .ref rt'])) L (.lst (acc ++ [.ref c])) L = some (.lst (as.map V.ref)) ∧ All2 (GateAt (hid L (upd (upd H5 c (.tup [.str g.name, .ref t, .ref pt, .ref rt'])) L (.lst (acc ++ [.ref c]))))) as (withD (d.gates.take (j + 1)) (R.take (j + 1))) := fun rt' H5 E5 hrt c nc => by
        have E6 : Ex H5 (upd H5 c (.tup [.str g.name, .ref t, .ref pt, .ref rt'])) := Ex.new nc
        have e46 := E5.trans E6
        have hc6 : upd H5 c (.tup [.str g.name, .ref t, .ref pt, .ref rt']) c = some (.tup [.str g.name, .ref t, .ref pt, .ref rt']) := upd_same
        have nLc : L ≠ c := ne_of_none ((E4.trans E5) _ _ hL) nc
        have hrt6 := E6 _ _ hrt
        generalize upd H5 c (.tup [.str g.name, .ref t, .ref pt, .ref rt']) = H6 at *
        have hL6 := (E4.trans e46) _ _ hL
        have e06 := e34.trans e46
        have tl : ∀ {q : Addr} {xs : List V}, H6 q = some (.tup xs) → hid L H6 q = some (.tup xs) := fun {q xs} z => by rw [hid_ne (ne_of z hL6 (by intro y; cases y))]; exact z
        refine ⟨_, hL6, sz_lt (by rw [List.length_map, hA.1]; unfold withD; rw [List.length_zipWith, List.length_take, List.length_take]; omega), e06.mut nL, as ++ [c], by rw [upd_same, List.map_append]; rfl, ?_⟩
        rw [hid_upd, withD_snoc hg hr]
        refine (hA.imp fun _ _ z => z.te fun q xs hq => ?_).snoc ⟨t, pt, rt', pl, tl hc6, tl (e06 _ _ hg2), tl (e06 _ _ hg3), tl hrt6, hp2.imp fun _ _ z => tl (e06 _ _ z)⟩
        exact tl ((E4.trans e46) _ _ (hid_get hq))
      refine ⟨_, rfl, _, rfl, _, rfl, _, rfl, p, pl.map V.ref, rfl, ?_⟩
      rcases hp1 with h1 | h1
      · refine .inl ⟨SqL.of (e34 _ _ h1), fun rt' nrt => ⟨(by show 4 ≤ sizeLine; decide), fun c nc => ?_⟩⟩
        exact fin rt' _ (Ex.new nrt) upd_same c nc
      · exact .inr ⟨SqT.of (e34 _ _ h1), (by show 4 ≤ sizeLine; decide), fun c nc => fin p H4 (.refl _) (e34 _ _ h1) c nc⟩
    · rintro H3 ⟨E3, as, hL, hA⟩
      rw [List.take_length, show R.take d.gates.length = R by rw [← hRl, List.take_length]] at hA
      refine ⟨_, rfl, _, rfl, L, _, rfl, .inl ⟨SqL.of hL, fun gt' ngt => ?_⟩⟩
      have E4 : Ex H3 (upd H3 gt' (.tup (as.map V.ref))) := Ex.new ngt
      have hg4 : upd H3 gt' (.tup (as.map V.ref)) gt' = some (.tup (as.map V.ref)) := upd_same
      generalize upd H3 gt' (.tup (as.map V.ref)) = H4 at *
      refine ⟨_, rfl, _, rfl, (by show 4 ≤ sizeLine; decide), fun c' nc => ?_⟩
      have E5 : Ex H4 (upd H4 c' (.tup [.ref it, .ref gt', .ref rt, .ref ot])) := Ex.new nc
      have e35 := E4.trans E5
      have e05 := E3.trans e35
      have hcx := hc.te (.of e05)
      exact q c' gt' as _ e05 (fresh_back (E3.trans E4) nc) ⟨upd_same, hcx.ins, E5 _ _ hg4, hcx.rgs, hcx.ots, hA.imp fun _ _ z => z.te (.of (hid_ex.trans e35)), hcx.regs, hcx.outs⟩
end
end G
namespace G
open PySem PySem.Spec PyProof.Rows L2 Evl TL
theorem kFld {X : Cx} {K : PySem.W.Frag} {e : Expr} {f : Str} {pos : Pos} {ta : TE} (h : X.K = K) (he : PE X e ta) (hb : attributeBase e f X.env (eval e X.env) = eval e X.env) : PE X (.Attribute e f pos) (tFld K ta f) := by subst h; exact pe_fld he hb
end G
namespace G
open PySem PySem.Spec PyProof.Rows L2
structure Cl_Arrivals (K : PySem.W.Frag) (mg : Str → Option Value) (C : Addr) : Prop where
  gC : mg "Arrivals" = some (.ref C)
  cl : Cls K C
  m_init : ∃ (f : Addr) (fd : FuncData), Mk K C f ∧ Fun K "__init__" "Arrivals.__init__" s_Arrivals_init f fd ∧ Binds K fd ["self", "circuit", "starts"] []
  m_required : ∃ (f : Addr) (fd : FuncData), Meth K C "required" f ∧ Fun K "required" "Arrivals.required" s_Arrivals_required f fd ∧ Binds K fd ["self", "limits"] []
  m_slack : ∃ (f : Addr) (fd : FuncData), Meth K C "slack" f ∧ Fun K "slack" "Arrivals.slack" s_Arrivals_slack f fd ∧ Binds K fd ["self", "net", "limits"] []
  m_check_net : ∃ (f : Addr) (fd : FuncData), Meth K C "_check_net" f ∧ Fun K "_check_net" "Arrivals._check_net" s_Arrivals_check_net f fd ∧ Binds K fd ["self", "net"] []
  m_computed : ∃ (f : Addr) (fd : FuncData), Meth K C "_computed" f ∧ Fun K "_computed" "Arrivals._computed" s_Arrivals_computed f fd ∧ Binds K fd ["self", "g"] []
  n_circuit : NoAttr K C "_circuit"
  n_roots : NoAttr K C "_roots"
  n_starts : NoAttr K C "_starts"
  n_ranges : NoAttr K C "_ranges"
  n_order : NoAttr K C "_order"
  n_places : NoAttr K C "_places"
  n_followers : NoAttr K C "_followers"
  n_pairs : NoAttr K C "_pairs"
  n_touched : NoAttr K C "_touched"
end G
namespace G
open PySem PySem.Spec PyProof.Rows L2 Evl TL
theorem pss_never {X : Cx} {rest : List Stmt} : PSs X rest (fun _ _ _ => False) := ⟨fun _ _ _ _ _ _ h => h.elim⟩
theorem lk_eq {k : Str} {v : V} {fs : List (Str × V)} : (putF k v fs).lookup k = some v := by rw [lookup_putF, if_pos rfl]
theorem lk_ne {k m : Str} {v : V} {fs : List (Str × V)} (h : ¬ m = k) : (putF k v fs).lookup m = fs.lookup m := by rw [lookup_putF, if_neg h]
/-- the names of the methods: no field of an object bears one -/
def methA : List Str := ["early", "late", "worst_paths", "count_paths", "required", "slack", "present", "starts", "_check_net", "_computed"]
def NoMs (fs : List (Str × V)) : Prop := ∀ m ∈ methA, fs.lookup m = none
theorem NoMs.nil : NoMs [] := fun _ _ => rfl
theorem NoMs.put {fs : List (Str × V)} {k : Str} {v : V} (h : NoMs fs) (hk : k ∉ methA) : NoMs (putF k v fs) := fun m hm => by
  rw [lk_ne fun z => hk (by rw [← z]; exact hm)]; exact h m hm
/-- a row of ranges in a list of its own -/
def RowsAt (H : Hp) (gl : Addr) (rl : List Addr) (R : List (List Pr)) : Prop := H gl = some (.lst (rl.map V.ref)) ∧ All2 (fun a r => ∃ pl : List Addr, H a = some (.lst (pl.map V.ref)) ∧ All2 (IntsAt H) pl r) rl R
theorem RowsAt.ex {H H' : Hp} {gl : Addr} {rl : List Addr} {R : List (List Pr)} (e : Ex H H') (h : RowsAt H gl rl R) : RowsAt H' gl rl R := ⟨e _ _ h.1, h.2.imp fun _ _ ⟨pl, h1, h2⟩ => ⟨pl, e _ _ h1, h2.imp fun _ _ z => z.te (.of e)⟩⟩
structure ArrAt (C : Addr) (H : Hp) (x c sl gl Dc : Addr) (sa rl : List Addr) (d : CircD) (S : List Pr) (A : Str → Option Pr) : Prop where
  ob : ∃ dx fs, H x = some (.ins C dx fs) ∧ fs.lookup ("_circuit" : Str) = some (.ref c) ∧ fs.lookup ("_starts" : Str) = some (.ref sl) ∧ fs.lookup ("_ranges" : Str) = some (.ref gl) ∧ fs.lookup ("_pairs" : Str) = some (.ref Dc) ∧ fs.lookup ("_touched" : Str) = some (.int 0) ∧ NoMs fs
  st : H sl = some (.lst (sa.map V.ref))
  sa : All2 (IntsAt H) sa S
  rg : RowsAt H gl rl (d.gates.map (·.rng))
  ps : ∃ es, H Dc = some (.dK es) ∧ HoldsP H es (srcs d ++ gnames d) A
  od : ∃ dx fs ol ord, H x = some (.ins C dx fs) ∧ fs.lookup ("_order" : Str) = some (.ref ol) ∧ H ol = some (.lst (natsV ord)) ∧ Topo (needN d) ord
theorem ArrAt.ex {C : Addr} {H H' : Hp} {x c sl gl Dc : Addr} {sa rl : List Addr} {d : CircD} {S : List Pr} {A : Str → Option Pr} (e : Ex H H') (h : ArrAt C H x c sl gl Dc sa rl d S A) : ArrAt C H' x c sl gl Dc sa rl d S A := by
  obtain ⟨dx, fs, h1, h2⟩ := h.ob
  obtain ⟨es, h3, h4⟩ := h.ps
  obtain ⟨dx', fs', ol, ord, o1, o2, o3, o4⟩ := h.od
  exact ⟨⟨dx, fs, e _ _ h1, h2⟩, e _ _ h.st, h.sa.imp fun _ _ z => z.te (.of e), h.rg.ex e, ⟨es, e _ _ h3, h4.te (.of e)⟩, dx', fs', ol, ord, e _ _ o1, o2, e _ _ o3, o4⟩
structure TxtP (mg : Str → Option Value) : Prop where
  len : mg "len" = none
  list : mg "list" = none
  tuple : mg "tuple" = none
  zip : mg "zip" = none
  min : mg "min" = none
  max : mg "max" = none
  enumerate : mg "enumerate" = none
  sorted : mg "sorted" = none
  set : mg "set" = none
section
variable {P : Program} {w : World} {K : PySem.W.Frag} {mg : Str → Option Value} {base : Heap}
def spCkNet (C U : Addr) : Sp := fun vs H Q E => ∃ (x c sl gl Dc : Addr) (sa rl : List Addr) (d : CircD) (S : List Pr) (A : Str → Option Pr) (n : Str), vs = [.ref x, .str n] ∧ ArrAt C H x c sl gl Dc sa rl d S A ∧ n.length ≤ 1000 ∧
  (n ∈ srcs d ++ gnames d → Q .non H) ∧ (n ∉ srcs d ++ gnames d → E (.ref U) none H)
theorem sc_Arrivals_check_net : FnScope ["self", "net"] ["self", "net"] (defScope s_Arrivals_check_net) := ⟨rfl, rfl, rfl, by decide +kernel, rfl, by decide +kernel, by decide +kernel⟩
theorem ok_Arrivals_check_net {C U : Addr} {f : Addr} {fd : FuncData} (F : Fun K "_check_net" "Arrivals._check_net" s_Arrivals_check_net f fd) (W : Cl_Arrivals K mg C) (UN : ExcT K mg "UnknownName" U) : FnOk P w K mg base (L2.CX P w) 1 f fd ["self", "net"] (spCkNet C U) := by
  refine F.okX sc_Arrivals_check_net (fun vs H Q E h => ?_) (fun cdv Ar outer s H vs Q E hr h => ?_)
  · obtain ⟨x, c, sl, gl, Dc, sa, rl, d, S, A, n, rfl, _⟩ := h
    rfl
  · obtain ⟨x, c, sl, gl, Dc, sa, rl, d, S, A, n, rfl, hA, hn, q1, q2⟩ := h
    refine ⟨_, (pss_one (ps_if (pt_cmp (pc_dnotin (hu_of hr) (pv 1) (pe_fld (pv 0) rfl)))
      (pss_one (ps_raise rfl (takes_of rfl rfl rfl rfl) (pmk_ownA PySem.F.excBase_ValueError UN.xP UN.gC UN.kC (raises_own UN.bC UN.tC) rfl (pa_cons (pe_joined (.cons (pe_fmt (pv 1)) (.cons pe_str .nil))) pa_nil))))
      pss_nil)), ?_⟩
    obtain ⟨dx, fs, h1, h2, h3, h4, h5, h6, h7⟩ := hA.ob
    obtain ⟨es, hD, hP⟩ := hA.ps
    refine ⟨_, rfl, _, rfl, x, C, dx, fs, _, rfl, h1, W.cl, W.n_pairs, h5, Dc, _, rfl, DGet.k (k := Sum.inr n) hD, _, rfl, ?_⟩
    obtain ⟨v, hv, _⟩ := hP.ex
    rw [hv.val n]
    by_cases hm : n ∈ srcs d ++ gnames d
    · rw [if_pos hm]
      exact iteF (q1 hm)
    · rw [if_neg hm]
      have e1 : (Str.empty ++ n).length = n.length := by
        rw [len_tl, tl_append, List.length_append, len_tl n]
        exact Nat.zero_add _
      refine iteT ⟨_, rfl, .inl ⟨n, rfl, sz_of (by omega), n, rfl, sz_of (by omega), " is not a net", rfl, sz_of ?_, (by show 1 ≤ sizeLine; decide), q2 hm⟩⟩
      rw [len_tl, tl_append, List.length_append, ← len_tl (Str.empty ++ n), e1]
      have : (tl (" is not a net" : Str)).length = 13 := by decide +kernel
      omega
end
end G
namespace G
open PySem PySem.Spec PyProof.Rows L2 Evl TL
section
variable {P : Program} {w : World} {K : PySem.W.Frag} {mg : Str → Option Value} {base : Heap}
def spCkStart (B : Addr) : Sp := fun vs H Q E => ∃ (b : Addr) (r : Pr), vs = [.ref b] ∧ IntsAt H b r ∧ (r.1 ≤ r.2 → Q .non H) ∧ (¬ r.1 ≤ r.2 → E (.ref B) none H)
theorem sc_check_start : FnScope ["pair", "early", "late"] ["pair"] (defScope s_check_start) := ⟨rfl, rfl, rfl, by decide +kernel, rfl, by decide +kernel, by decide +kernel⟩
theorem ok_check_start {B : Addr} (D : Dfd K mg "_check_start" s_check_start ["pair"]) (UB : ExcT K mg "BadRange" B) : HasX P w K mg base 1 "_check_start" ["pair"] (spCkStart B) := by
  obtain ⟨f, fd, F, gf, bf⟩ := D
  refine ⟨f, fd, F.okX sc_check_start (fun vs H Q E h => ?_) (fun cdv A outer s H vs Q E hr h => ?_), gf, F.kp, bf⟩
  · obtain ⟨b, r, rfl, _⟩ := h
    rfl
  · obtain ⟨b, r, rfl, hb, q1, q2⟩ := h
    refine ⟨_, (pss_cons (ps_asg (pv 0) (pg_tup rfl (pgs_cons (pg_name (i := 1) sc_check_start.nd rfl (.inl rfl)) (pgs_cons (pg_name (i := 2) sc_check_start.nd rfl (.inl rfl)) pgs_nil))))
    (pss_one (ps_if (pt_cmpR op_gt (pv 1) (pv 2) (nomark _))
      (pss_one (ps_raise rfl (takes_of rfl rfl rfl rfl) (pmk_ownA PySem.F.excBase_ValueError UB.xP UB.gC UB.kC (raises_own UB.bC UB.tC) rfl (pa_cons pe_str pa_nil))))
      pss_nil))), ?_⟩
    refine ⟨_, rfl, b, _, rfl, SqT.of hb, rfl, _, _, rfl, _, _, rfl, rfl, ?_⟩
    refine ⟨_, rfl, _, rfl, _, _, rfl, rfl, _, rfl, ite2 (fun c => ?_) (fun c => ?_)⟩
    · exact ⟨by show 1 ≤ sizeLine; decide, q2 fun z => by have := of_decide_eq_true c; omega⟩
    · exact q1 (by have : ¬ r.2 < r.1 := fun z => c (decide_eq_true z); omega)
def KnAt (H : Hp) (a : Addr) (k : Pr × Pr) : Prop := ∃ b c : Addr, H a = some (.tup [.ref b, .ref c]) ∧ IntsAt H b k.1 ∧ IntsAt H c k.2
theorem KnAt.te {H H' : Hp} {a : Addr} {k : Pr × Pr} (e : TEx H H') (h : KnAt H a k) : KnAt H' a k := by
  obtain ⟨b, c, h1, h2, h3⟩ := h
  exact ⟨b, c, e _ _ h1, h2.te e, h3.te e⟩
def spComputed (C : Addr) : Sp := fun vs H Q _ => ∃ (x dx c gl Dc : Addr) (fs : List (Str × V)) (rl : List Addr) (d : CircD) (it gt rt ot : Addr) (ga ra oa : List Addr) (k : Nat) (g : GateD) (es : List (Key × V)) (done : List Str) (A : Str → Option Pr) (o : Option Pr), vs = [.ref x, .int k] ∧
  H x = some (.ins C dx fs) ∧ fs.lookup ("_circuit" : Str) = some (.ref c) ∧ fs.lookup ("_ranges" : Str) = some (.ref gl) ∧ fs.lookup ("_pairs" : Str) = some (.ref Dc) ∧ CircAt H c d it gt rt ot ga ra oa ∧ RowsAt H gl rl (d.gates.map (·.rng)) ∧ H Dc = some (.dK es) ∧ HoldsP H es done A ∧
  d.gates[k]? = some g ∧ (∀ y ∈ g.pins, y ∈ done) ∧ g.pins.length ≤ 3 ∧ g.rng.length = g.pins.length ∧ ArrG A g o ∧ ∀ (v : V) (H' : Hp), Ex H H' → PairAt H' v o → Q v H'
theorem sc_Arrivals_computed : FnScope ["self", "g", "nets", "known", "net", "pair", "low", "_", "high"] ["self", "g"] (defScope s_Arrivals_computed) := ⟨rfl, rfl, rfl, by decide +kernel, rfl, by decide +kernel, by decide +kernel⟩
theorem ok_Arrivals_computed {C : Addr} {f : Addr} {fd : FuncData} (F : Fun K "_computed" "Arrivals._computed" s_Arrivals_computed f fd) (W : Cl_Arrivals K mg C) (T : TxtP mg) : FnOk P w K mg base CX0 1 f fd ["self", "g"] (spComputed C) := by
  refine F.ok sc_Arrivals_computed (fun vs H Q E h => ?_) (fun cdv Ar outer s H vs Q E hr h => ?_)
  · obtain ⟨x, dx, c, gl, Dc, fs, rl, d, it, gt, rt, ot, ga, ra, oa, k, g, es, done, A, o, rfl, _⟩ := h
    rfl
  · obtain ⟨x, dx, c, gl, Dc, fs, rl, d, it, gt, rt, ot, ga, ra, oa, k, g, es, done, A, o, rfl, h1, h2, h4, h5, hc, hrw, hD, hP, hg, hin, hp3, hrl, hG, q⟩ := h
    refine ⟨_, (pss_cons (ps_set (i := 2) sc_Arrivals_computed.nd rfl (.inl rfl) (pe_ix ix_tup (pe_ix ix_tup (pe_ix ix_tup (pe_fld (pv 0) rfl) pe_int (fun _ _ => rfl)) (pv 1) (fun _ _ => rfl)) pe_int (fun _ _ => rfl)))
    (pss_cons (ps_setLc (i := 3) (own := [("net", 4), ("pair", 5)]) (g := gTup K 2 (gCons (gName 4) (gCons (gName 5) gNil))) (tt := _) rfl sc_Arrivals_computed.nd rfl rfl (sw_true rfl rfl rfl (by decide +kernel)) (pi_zipM true false (by rfl) T.zip (pa_cons (pv 2) (pa_cons (pe_ix ix_list (pe_fld (pv 0) rfl) (pv 1) (fun _ _ => rfl)) pa_nil))) (blkOk_by (N := ["self", "g", "nets", "known", "net", "pair", "low", "_", "high"]) (sc := defScope s_Arrivals_computed) (own := [("net", 4), ("pair", 5)]) (by decide +kernel)) (fun _ _ _ _ _ => (pg_tup rfl (pgs_cons (pg_name (i := 4) sc_Arrivals_computed.nd rfl (.inl rfl)) (pgs_cons (pg_name (i := 5) sc_Arrivals_computed.nd rfl (.inl rfl)) pgs_nil)))) (fun _ _ _ _ _ => pts_one (pt_cmpR op_notN (pe_dget (hu_of hr) (kFld (K := K) rfl (pv 0) rfl) (pv 4) (fun _ _ => rfl)) pe_non (nomark _))) (fun _ _ _ _ _ => (pe_tup (pa_cons (pe_dget (hu_of hr) (kFld (K := K) rfl (pv 0) rfl) (pv 4) (fun _ _ => rfl)) (pa_cons (pv 5) pa_nil)))))
    (pss_cons (ps_if (pt_not (pt_truth (pv 3) (by intro _; rfl)))
      (pss_one (ps_ret pe_non))
      pss_nil)
    (pss_one (ps_ret (pe_tup (pa_cons (pe_callB (cr_min rfl) (by rfl) T.min (by decide +kernel) (pa_cons (pe_lc (own := [("pair", 5), ("low", 6), ("_", 7)]) (g := gTup K 2 (gCons (gName 5) (gCons (gTup K 2 (gCons (gName 6) (gCons (gName 7) gNil))) gNil))) (tt := tYes) rfl sc_Arrivals_computed.nd (pi_list (pv 3)) (blkOk_by (N := ["self", "g", "nets", "known", "net", "pair", "low", "_", "high"]) (sc := defScope s_Arrivals_computed) (own := [("pair", 5), ("low", 6), ("_", 7)]) (by decide +kernel)) (fun _ _ _ _ _ => (pg_tup rfl (pgs_cons (pg_name (i := 5) sc_Arrivals_computed.nd rfl (.inl rfl)) (pgs_cons (pg_tup rfl (pgs_cons (pg_name (i := 6) sc_Arrivals_computed.nd rfl (.inl rfl)) (pgs_cons (pg_name (i := 7) sc_Arrivals_computed.nd rfl (.inl rfl)) pgs_nil))) pgs_nil)))) (fun _ _ _ _ _ => pts_nil) (fun _ _ _ _ _ => (pe_op op_add (pe_ix (kIxT (K := K) rfl) (pv 5) pe_int (fun _ _ => rfl)) (pv 6)))) pa_nil)) (pa_cons (pe_callB (cr_max rfl) (by rfl) T.max (by decide +kernel) (pa_cons (pe_lc (own := [("pair", 5), ("_", 7), ("high", 8)]) (g := gTup K 2 (gCons (gName 5) (gCons (gTup K 2 (gCons (gName 7) (gCons (gName 8) gNil))) gNil))) (tt := tYes) rfl sc_Arrivals_computed.nd (pi_list (pv 3)) (blkOk_by (N := ["self", "g", "nets", "known", "net", "pair", "low", "_", "high"]) (sc := defScope s_Arrivals_computed) (own := [("pair", 5), ("_", 7), ("high", 8)]) (by decide +kernel)) (fun _ _ _ _ _ => (pg_tup rfl (pgs_cons (pg_name (i := 5) sc_Arrivals_computed.nd rfl (.inl rfl)) (pgs_cons (pg_tup rfl (pgs_cons (pg_name (i := 7) sc_Arrivals_computed.nd rfl (.inl rfl)) (pgs_cons (pg_name (i := 8) sc_Arrivals_computed.nd rfl (.inl rfl)) pgs_nil))) pgs_nil)))) (fun _ _ _ _ _ => pts_nil) (fun _ _ _ _ _ => (pe_op op_add (pe_ix (kIxT (K := K) rfl) (pv 5) pe_int (fun _ _ => rfl)) (pv 8)))) pa_nil)) pa_nil)))))))), ?_⟩
    obtain ⟨b, hb, t, pt, rgt, rla, hg1, hg2, hg3, hg4, hg5⟩ := hc.gates.of hg
    obtain ⟨ra', hra, pl, hpl, hplA⟩ := hrw.2.of (show (d.gates.map (·.rng))[k]? = some g.rng by rw [List.getElem?_map, hg]; rfl)
    refine ⟨_, rfl, x, C, dx, fs, _, rfl, h1, W.cl, W.n_circuit, h2, _, _, _, _, rfl, rfl, SqT.of hc.top, atI_nat (j := 1) rfl, _, rfl, _, _, _, _, rfl, rfl, SqT.of hc.gts, at_of (j := k) rfl (by rw [List.getElem?_map, hb]; rfl), _, _, _, _, rfl, rfl, SqT.of hg1, atI_nat (j := 2) rfl, ?_⟩
    refine ⟨_, rfl, _, rfl, x, C, dx, fs, _, rfl, h1, W.cl, W.n_ranges, h4, _, rfl, _, _, _, _, rfl, rfl, SqL.of hrw.1, at_of (j := k) rfl (by rw [List.getElem?_map, hra]; rfl), pt, ra', g.pins.map V.str, pl.map V.ref, rfl, SqT.of hg3, SqL.of hpl, fun L nL => wk_it (walk_zipM (n := g.pins.length) (by rw [List.length_map]) (by rw [List.length_map, hplA.1, hrl]))
      (fun j H' => Ex H H' ∧ ∃ ka : List Addr, H' L = some (.lst (ka.map V.ref)) ∧ All2 (KnAt H') ka (knownP A (g.pins.take j) (g.rng.take j))) ⟨Ex.new nL, [], upd_same, .nil⟩ (fun j H' _ z => ⟨SqT.of (z.1 _ _ hg3), SqL.of (z.1 _ _ hpl)⟩) ?_ ?_⟩
    · rintro j xv H2 H3 hj ⟨E2, ka, hL, hK⟩ ⟨T1, x0, y0, rfl, nT, rfl, hx0, hy0⟩
      obtain ⟨n, hn⟩ : ∃ n, g.pins[j]? = some n := ⟨_, List.getElem?_eq_getElem hj⟩
      obtain rfl : x0 = .str n := by
        have : (g.pins.map V.str)[j]? = some x0 := hx0
        rw [List.getElem?_map, hn] at this
        cases this; rfl
      obtain ⟨rb, hrb, rfl⟩ := refs_get (show (pl.map V.ref)[j]? = some y0 from hy0)
      obtain ⟨r, hr', hrI⟩ := hplA.at_ hrb
      have E3 : Ex H2 (upd H2 T1 (.tup [.str n, .ref rb])) := Ex.new nT
      refine ⟨T1, _, rfl, SqT.of upd_same, rfl, _, _, rfl, _, _, rfl, rfl, rfl, ?_⟩
      simp only [wipe, _root_.L2.start, List.map_cons, List.map_nil, List.length_cons, List.length_nil, Nat.reduceAdd, Nat.reduceSub, List.replicate_succ, List.replicate_zero, List.cons_append, List.nil_append, List.set_cons_zero, List.set_cons_succ]
      have hL3 := E3 _ _ hL
      have hK3 := hK.imp fun _ _ z => z.te (TEx.of E3)
      generalize upd H2 T1 (.tup [.str n, .ref rb]) = H3 at *
      have e23 := E2.trans E3
      obtain ⟨v, hv, hvP⟩ := hP.at_ (e23 _ _ hD) (hin n (List.mem_of_getElem? hn))
      have hvP3 := hvP.te (TEx.of e23)
      have kn := knownP_snoc (A := A) hn hr'
      have klen := knownP_len (A := A) (xs := g.pins.take j) (rs := g.rng.take j)
      rw [List.length_take] at klen
      refine ⟨_, rfl, x, C, dx, fs, _, rfl, e23 _ _ h1, W.cl, W.n_pairs, h5, _, rfl, Dc, _, rfl, hv, rfl, _, rfl, ?_⟩
      cases hAx : A n with
      | none =>
        rw [hAx] at hvP3 kn
        have e : v = .non := hvP3
        subst e
        refine iteF ⟨e23, ka, hL3, ?_⟩
        rw [kn, List.append_nil]; exact hK3
      | some pr =>
        rw [hAx] at hvP3 kn
        obtain ⟨vb, rfl, hvI⟩ := hvP3
        refine iteT ⟨_, rfl, x, C, dx, fs, _, rfl, e23 _ _ h1, W.cl, W.n_pairs, h5, _, rfl, Dc, _, rfl, hv, _, rfl, by show 2 ≤ sizeLine; decide, fun q1 nq1 => ?_⟩
        have E4 : Ex H3 (upd H3 q1 (.tup [.ref vb, .ref rb])) := Ex.new nq1
        have hq1 : upd H3 q1 (.tup [.ref vb, .ref rb]) q1 = some (.tup [.ref vb, .ref rb]) := upd_same
        generalize upd H3 q1 (.tup [.ref vb, .ref rb]) = H4 at *
        have hL4 := E4 _ _ hL3
        refine ⟨_, hL4, sz_lt (by rw [List.length_map, hK3.1]; omega), (e23.trans E4).mut nL, ka ++ [q1], by rw [upd_same, List.map_append]; rfl, ?_⟩
        rw [kn]
        exact ((hK3.imp fun _ _ z => z.te (TEx.of E4)).snoc ⟨vb, rb, hq1, hvI.te (TEx.of E4), (hrI.te (TEx.of (e23.trans E4)))⟩).imp fun _ _ z => z.te (TEx.mut hL4)
    rintro H2 ⟨E2, ka, hL, hK⟩
    rw [List.take_length, ← hrl, List.take_length] at hK
    have klen := knownP_len (A := A) (xs := g.pins) (rs := g.rng)
    generalize hks : knownP A g.pins g.rng = ks at *
    have hkal := hK.1
    refine ⟨_, rfl, !ks.isEmpty, .inl ⟨_, SqL.of hL, by have := hkal; cases ka <;> cases ks <;> first | rfl | cases this⟩, ?_⟩
    cases hem : ks.isEmpty with
    | true =>
      have e0 : ks = [] := List.isEmpty_iff.mp hem
      refine iteT ?_
      rw [e0] at hks
      rw [hG.none_eq hks] at q
      exact q .non H2 E2 rfl
    | false =>
      refine iteF ?_
      have hpos : 0 < ks.length := by
        cases ks with
        | nil => cases hem
        | cons a r => exact Nat.succ_pos _
      have pos1 : 0 < (earlyL ks).length := by unfold earlyL; rw [List.length_map]; exact hpos
      have pos2 : 0 < (lateL ks).length := by unfold lateL; rw [List.length_map]; exact hpos
      refine ⟨_, rfl, L, rfl, ⟨_, SqL.of hL⟩, fun M nM => wk_list (K := K) (a := L) (xs := ka.map V.ref) (fun j H' => Ex H2 H' ∧ H' M = some (.lst ((earlyL (ks.take j)).map V.int))) ⟨Ex.new nM, upd_same⟩ (fun j H' _ z => SqL.of (z.1 _ _ hL)) ?_ ?_⟩
      · rintro j xv H5 hx ⟨E5, hM⟩
        obtain ⟨a1, ha1, rfl⟩ := refs_get hx
        obtain ⟨kk, hkk, pb, rb, hk1, hk2, hk3⟩ := (hK).at_ ha1
        have hjl := (List.getElem?_eq_some_iff.mp hkk).1
        refine ⟨a1, _, rfl, SqT.of (E5 _ _ hk1), rfl, _, _, rfl, _, _, rfl, rb, _, rfl, SqT.of (E5 _ _ hk3), rfl, _, _, rfl, _, _, rfl, rfl, rfl, (by rw [wipe_set (by decide), wipe_set (by decide), wipe_set (by decide), wipe_wipe]), tYes_in ?_⟩
        simp only [wipe, _root_.L2.start, List.map_cons, List.map_nil, List.length_cons, List.length_nil, Nat.reduceAdd, Nat.reduceSub, List.replicate_succ, List.replicate_zero, List.cons_append, List.nil_append, List.set_cons_zero, List.set_cons_succ]
        refine ⟨_, rfl, _, _, _, _, rfl, rfl, SqT.of (E5 _ _ hk2), atI_nat (j := 0) rfl, _, rfl, _, _, rfl, rfl, _, hM, sz_lt (by rw [List.length_map]; unfold earlyL; rw [List.length_map, List.length_take]; omega), E5.mut nM, ?_⟩
        rw [upd_same, take_snoc1 hkk]
        unfold earlyL
        rw [List.map_append, List.map_append]; rfl
      rintro H3 ⟨E3, hM⟩
      rw [List.length_map, hkal, List.take_length] at hM
      refine ⟨M, _, rfl, SqL.of hM, pos1, fun m hm hmin => ?_⟩
      have hL3 := E3 _ _ hL
      have hK3 := hK.imp fun _ _ z => z.te (TEx.of E3)
      refine ⟨_, rfl, L, rfl, ⟨_, SqL.of hL3⟩, fun M2 nM2 => wk_list (K := K) (a := L) (xs := ka.map V.ref) (fun j H' => Ex H3 H' ∧ H' M2 = some (.lst ((lateL (ks.take j)).map V.int))) ⟨Ex.new nM2, upd_same⟩ (fun j H' _ z => SqL.of (z.1 _ _ hL3)) ?_ ?_⟩
      · rintro j xv H5 hx ⟨E5, hM2⟩
        obtain ⟨a1, ha1, rfl⟩ := refs_get hx
        obtain ⟨kk, hkk, pb, rb, hk1, hk2, hk3⟩ := (hK3).at_ ha1
        have hjl := (List.getElem?_eq_some_iff.mp hkk).1
        refine ⟨a1, _, rfl, SqT.of (E5 _ _ hk1), rfl, _, _, rfl, _, _, rfl, rb, _, rfl, SqT.of (E5 _ _ hk3), rfl, _, _, rfl, _, _, rfl, rfl, rfl, (by rw [wipe_set (by decide), wipe_set (by decide), wipe_set (by decide), wipe_wipe]), tYes_in ?_⟩
        simp only [wipe, _root_.L2.start, List.map_cons, List.map_nil, List.length_cons, List.length_nil, Nat.reduceAdd, Nat.reduceSub, List.replicate_succ, List.replicate_zero, List.cons_append, List.nil_append, List.set_cons_zero, List.set_cons_succ]
        refine ⟨_, rfl, _, _, _, _, rfl, rfl, SqT.of (E5 _ _ hk2), atI_nat (j := 1) rfl, _, rfl, _, _, rfl, rfl, _, hM2, sz_lt (by rw [List.length_map]; unfold lateL; rw [List.length_map, List.length_take]; omega), E5.mut nM2, ?_⟩
        rw [upd_same, take_snoc1 hkk]
        unfold lateL
        rw [List.map_append, List.map_append]; rfl
      rintro H4 ⟨E4, hM2⟩
      rw [List.length_map, hkal, List.take_length] at hM2
      refine ⟨M2, _, rfl, SqL.of hM2, pos2, fun m2 hm2 hmax => ⟨by show 2 ≤ sizeLine; decide, fun oo noo => ?_⟩⟩
      subst hks
      rw [hG.some_eq hm hmin hm2 hmax] at q
      exact q (.ref oo) _ ((E2.trans E3).trans (E4.trans (Ex.new noo))) ⟨oo, rfl, upd_same⟩
end
end G
namespace G
open PySem PySem.Spec PyProof.Rows L2 Evl TL
theorem kSetX4 {X : Cx} {P : Program} {w : World} {K : PySem.W.Frag} (h0 : X.prog = P) (h1 : X.w = w) (h2 : X.K = K) (hc : X.calm = true) : CallR X (.type "set") (XS.rSetX P w K) := by subst h0 h1 h2; exact XS.cr_setX hc
theorem kSortX4 {X : Cx} {P : Program} {w : World} (h0 : X.prog = P) (h1 : X.w = w) (hc : X.calm = true) : CallR X (.builtin "sorted") (XS.rSortX P w) := by subst h0 h1; exact XS.cr_sortX hc
/-- a dict whose values are lists of which Nw holds -/
structure FolD (Nw : Addr → Prop) (H : Hp) (es : List (Key × V)) (ns : List Str) (m : Nat) : Prop where
  ex : ∃ v : Str → V, HoldsV es ns v ∧ ∀ x ∈ ns, ∃ (a : Addr) (l : List V), v x = .ref a ∧ H a = some (.lst l) ∧ l.length ≤ m ∧ Nw a
theorem FolD.put {Nw : Addr → Prop} {H : Hp} {es : List (Key × V)} {ns : List Str} {m : Nat} (h : FolD Nw H es ns m) {n : Str} {a : Addr} {l : List V} (ha : H a = some (.lst l)) (hl : l.length ≤ m) (h0 : Nw a) : FolD Nw H (putK es (.inr n) (.ref a)) (ns ++ [n]) m := by
  obtain ⟨v, h1, h2⟩ := h.ex
  refine ⟨_, HoldsV.put h1 n (.ref a), fun x hx => ?_⟩
  show ∃ (b : Addr) (l : List V), (if x = n then V.ref a else v x) = .ref b ∧ _
  by_cases e : x = n
  · rw [if_pos e]; exact ⟨a, l, rfl, ha, hl, h0⟩
  · rw [if_neg e]
    rcases List.mem_append.mp hx with z | z
    · exact h2 x z
    · exact absurd (List.mem_singleton.mp z) e
/-- other objects may change, the lists may grow -/
theorem FolD.keep {Nw Nw' : Addr → Prop} {H H' : Hp} {es : List (Key × V)} {ns : List Str} {m m' : Nat} (h : FolD Nw H es ns m) (k : ∀ a l, Nw a → H a = some (.lst l) → l.length ≤ m → ∃ l', H' a = some (.lst l') ∧ l'.length ≤ m' ∧ Nw' a) : FolD Nw' H' es ns m' := by
  obtain ⟨v, h1, h2⟩ := h.ex
  refine ⟨v, h1, fun x hx => ?_⟩
  obtain ⟨a, l, e1, e2, e3, e4⟩ := h2 x hx
  obtain ⟨l', f1, f2, f3⟩ := k a l e4 e2 e3
  exact ⟨a, l', e1, f1, f2, f3⟩
section
variable {P : Program} {w : World} {K : PySem.W.Frag} {mg : Str → Option Value} {base : Heap}
def spGbn : Sp := fun vs H Q _ => ∃ (c : Addr) (d : CircD) (it gt rt ot : Addr) (ga ra oa : List Addr), vs = [.ref c] ∧ CircAt H c d it gt rt ot ga ra oa ∧ Nets d ∧ ∀ (q : Addr) (H' : Hp), Ex H H' → Q (.ref q) H'
theorem sc_gates_by_net : FnScope ["circuit", "found", "name", "_", "g", "gate", "net", "root"] ["circuit"] (defScope s_gates_by_net) := ⟨rfl, rfl, rfl, by decide +kernel, rfl, by decide +kernel, by decide +kernel⟩
theorem ok_gates_by_net (D : Dfd K mg "_gates_by_net" s_gates_by_net ["circuit"]) (T : TxtP mg) (C1 : Has P w K mg base 1 "sources" ["circuit"] spSources) : Has P w K mg base 2 "_gates_by_net" ["circuit"] spGbn := by
  obtain ⟨f_sources, d_sources, G_sources, g_sources, k_sources, b_sources⟩ := C1
  refine D.has fun f fd F => F.ok sc_gates_by_net (fun vs H Q E h => ?_) (fun cdv A outer s H vs Q E hr h => ?_)
  · obtain ⟨c, d, it, gt, rt, ot, ga, ra, oa, rfl, _⟩ := h
    rfl
  · obtain ⟨c, d, it, gt, rt, ot, ga, ra, oa, rfl, hc, hN, q⟩ := h
    refine ⟨_, (pss_cons (ps_setDc (i := 1) (own := [("root", 7)]) (g := gName 7) (tt := tYes) rfl sc_gates_by_net.nd rfl rfl (sw_trueD rfl rfl rfl (by decide +kernel)) (pi_list (pe_call G_sources (hr.mono (by omega)) (by rfl) g_sources k_sources b_sources .nil pass0 (pa_cons (pv 0) pa_nil))) (blkOk_by (N := ["circuit", "found", "name", "_", "g", "gate", "net", "root"]) (sc := defScope s_gates_by_net) (own := [("root", 7)]) (by decide +kernel)) (fun _ _ _ _ _ => (pg_name (i := 7) sc_gates_by_net.nd rfl (.inl rfl))) (fun _ _ _ _ _ => pts_nil) (fun _ _ _ _ _ => (pv 7)) (fun _ _ _ _ _ => (pe_lst pa_nil)))
    (pss_cons (ps_for PassesOwn.never rfl (pi_tup (pe_ix ix_tup (pv 0) pe_int (fun _ _ => rfl))) (pg_tup rfl (pgs_cons (pg_name (i := 2) sc_gates_by_net.nd rfl (.inl rfl)) (pgs_cons (pg_name (i := 3) sc_gates_by_net.nd rfl (.inl rfl)) (pgs_cons (pg_name (i := 3) sc_gates_by_net.nd rfl (.inl rfl)) (pgs_cons (pg_name (i := 3) sc_gates_by_net.nd rfl (.inl rfl)) pgs_nil)))))
      (pss_one (ps_asg (pe_lst pa_nil) (pg_sub (pv 1) (pv 2) (set_dict (hu_of hr))))))
    (pss_cons (ps_for PassesOwn.never rfl (pi_enumT (by rfl) T.enumerate (pa_cons (pe_ix ix_tup (pv 0) pe_int (fun _ _ => rfl)) pa_nil)) (pg_tup rfl (pgs_cons (pg_name (i := 4) sc_gates_by_net.nd rfl (.inl rfl)) (pgs_cons (pg_name (i := 5) sc_gates_by_net.nd rfl (.inl rfl)) pgs_nil)))
      (pss_one (ps_for PassesOwn.never rfl (pi_list (pe_callB (kSortX4 (P := P) (w := w) rfl rfl rfl) (by rfl) T.sorted (by decide +kernel) (pa_cons (pe_callTy (kSetX4 (P := P) (w := w) (K := K) rfl rfl rfl rfl) (by rfl) T.set (by decide +kernel) (pa_cons (pe_ix ix_tup (pv 5) pe_int (fun _ _ => rfl)) pa_nil)) pa_nil))) (pg_name (i := 6) sc_gates_by_net.nd rfl (.inl rfl))
        (pss_one (ps_expr (pe_bm PySem.F.plainAttrs_list PySem.F.slot_list_append PySem.F.type_list_append mt_append (pe_dget (hu_of hr) (pv 1) (pv 6) (fun _ _ => rfl)) (pa_cons (pv 4) pa_nil)))))))
    (pss_one (ps_ret (pv 1)))))), ?_⟩
    have hs := hN.fews
    have hg16 := hN.few
    have hgl := hc.gates.1
    refine ⟨_, rfl, c, d, it, gt, rt, ot, ga, ra, oa, rfl, hc, by omega, fun nl H1 nnl E1 hnl => ⟨nl, rfl, ⟨_, SqL.of hnl⟩, fun Dc nD => wk_list (K := K) (a := nl) (xs := (srcs d).map V.str)
      (fun j H' => Ex H1 H' ∧ ∃ es : List (Key × V), H' Dc = some (.dK es) ∧ es.length ≤ j ∧ FolD (fun a => H a = none) H' es ((srcs d).take j) 0) ⟨Ex.new nD, [], upd_same, Nat.le_refl _, ⟨fun _ => .non, HoldsV.nil, (fun _ h => nomatch h)⟩⟩ (fun j H' _ g => SqL.of (g.1 _ _ hnl)) ?_ ?_⟩⟩
    · rintro j y H2 hy ⟨E2, es, hD, hel, hF⟩
      have hj : j < (srcs d).length := by have := (List.getElem?_eq_some_iff.mp hy).1; rwa [List.length_map] at this
      obtain rfl : y = .str (srcs d)[j] := by rw [strV_at hj] at hy; exact (Option.some.inj hy).symm
      refine ⟨rfl, tYes_in ?_⟩
      simp only [wipe, _root_.L2.start, List.map_cons, List.map_nil, List.length_cons, List.length_nil, Nat.reduceAdd, Nat.reduceSub, List.replicate_succ, List.replicate_zero, List.cons_append, List.nil_append, List.set_cons_zero, List.set_cons_succ]
      refine ⟨_, rfl, Nat.zero_le _, fun fl nfl => ?_⟩
      have E3 : Ex H2 (upd H2 fl (.lst [])) := Ex.new nfl
      have hfl : upd H2 fl (.lst []) fl = some (.lst []) := upd_same
      have nfl0 : H fl = none := fresh_back (E1.trans E2) nfl
      have hF3 : FolD (fun a => H a = none) (upd H2 fl (.lst [])) es ((srcs d).take j) 0 := hF.keep fun a l n h hl => ⟨l, E3 _ _ h, hl, n⟩
      generalize upd H2 fl (.lst []) = H3 at *
      have hD3 := E3 _ _ hD
      refine ⟨es, .inr (srcs d)[j], rfl, hD3, sz_lt (by omega), (E2.trans E3).mut nD, _, upd_same, Nat.le_trans (length_putK _ _ _) (by omega), ?_⟩
      rw [take_snoc1 (List.getElem?_eq_getElem hj)]
      refine (hF3.put hfl (Nat.le_refl _) nfl0).keep fun a l n h hl => ⟨l, ?_, hl, n⟩
      rw [upd_ne (ne_of h hD3 (by intro z; cases z))]; exact h
    rintro H2 ⟨E2, es, hD, hel, hF⟩
    rw [List.length_map] at hel hF
    rw [List.take_length] at hF
    have e2 := E1.trans E2
    have nD0 : H Dc = none := fresh_back E1 nD
    refine ⟨_, rfl, _, _, _, _, rfl, rfl, SqT.of (e2 _ _ hc.top), atI_nat (j := 1) rfl, gt, rfl, ⟨_, SqT.of (e2 _ _ hc.gts)⟩, for_tup (K := K) (a := gt) (xs := ga.map V.ref)
      (fun i σ H' => Ex H H' ∧ ∃ (es : List (Key × V)) (y2 y3 y4 y5 y6 : Option V), H' Dc = some (.dK es) ∧ es.length ≤ (srcs d).length + i ∧ FolD (fun a => H a = none) H' es (srcs d ++ (gnames d).take i) 0 ∧ σ = [some (.ref c), some (.ref Dc), y2, y3, y4, y5, y6, none])
      ⟨e2, es, _, _, _, _, _, hD, by omega, by rw [List.take_zero, List.append_nil]; exact hF, rfl⟩ (fun i σ H' _ g => SqT.of (g.1 _ _ hc.gts)) ?_ ?_⟩
    · rintro i x σ H3 hx ⟨E3, es, y2, y3, y4, y5, y6, hD, hel, hF, rfl⟩
      obtain ⟨b, hb, rfl⟩ := refs_get hx
      obtain ⟨g, hg, t, pt, rgt, rla, hg1, hg2, hg3, hg4, hg5⟩ := hc.gates.at_ hb
      have hil : i < d.gates.length := (List.getElem?_eq_some_iff.mp hg).1
      refine ⟨b, _, rfl, SqT.of (E3 _ _ hg1), rfl, _, _, rfl, _, _, rfl, _, _, rfl, _, _, rfl, rfl, ?_⟩
      simp only [wipe, _root_.L2.start, List.map_cons, List.map_nil, List.length_cons, List.length_nil, Nat.reduceAdd, Nat.reduceSub, List.replicate_succ, List.replicate_zero, List.cons_append, List.nil_append, List.set_cons_zero, List.set_cons_succ]
      refine ⟨Nat.zero_le _, fun fl nfl => ?_⟩
      have E4 : Ex H3 (upd H3 fl (.lst [])) := Ex.new nfl
      have hfl : upd H3 fl (.lst []) fl = some (.lst []) := upd_same
      have nfl0 : H fl = none := fresh_back E3 nfl
      have hF4 : FolD (fun a => H a = none) (upd H3 fl (.lst [])) es (srcs d ++ (gnames d).take i) 0 := hF.keep fun a l n h hl => ⟨l, E4 _ _ h, hl, n⟩
      generalize upd H3 fl (.lst []) = H4 at *
      have hD4 := E4 _ _ hD
      refine ⟨_, rfl, _, rfl, Dc, _, rfl, .inl ⟨es, .inr g.name, hD4, rfl, sz_lt (by omega), rfl⟩, (E3.trans E4).mut nD0, _, _, _, _, _, _, upd_same, Nat.le_trans (length_putK _ _ _) (by omega), ?_, rfl⟩
      have eg : (gnames d).take (i + 1) = (gnames d).take i ++ [g.name] := take_snoc1 (by unfold gnames; rw [List.getElem?_map, hg]; rfl)
      rw [eg, ← List.append_assoc]
      refine (hF4.put hfl (Nat.le_refl _) nfl0).keep fun a l n h hl => ⟨l, ?_, hl, n⟩
      rw [upd_ne (ne_of h hD4 (by intro z; cases z))]; exact h
    rintro σ H3 ⟨E3, es, y2, y3, y4, y5, y6, hD, hel, hF, rfl⟩
    rw [List.length_map, hgl] at hel hF
    have egl : (gnames d).length = d.gates.length := List.length_map _
    rw [← egl, List.take_length] at hF
    refine ⟨_, rfl, _, _, _, _, rfl, rfl, SqT.of (E3 _ _ hc.top), atI_nat (j := 1) rfl, gt, _, rfl, SqT.of (E3 _ _ hc.gts), for_it walk_enumT
      (fun i σ H' => Ex H H' ∧ ∃ (y2 y3 y4 y5 y6 : Option V), H' Dc = some (.dK es) ∧ FolD (fun a => H a = none) H' es (srcs d ++ gnames d) (4 * i) ∧ σ = [some (.ref c), some (.ref Dc), y2, y3, y4, y5, y6, none])
      ⟨E3, _, _, _, _, _, hD, hF, rfl⟩ (fun i σ H' _ g => SqT.of (g.1 _ _ hc.gts)) ?_ ?_⟩
    · rintro i x σ H4 H5 hi ⟨E4, y2, y3, y4, y5, y6, hD4, hF4, rfl⟩ ⟨A1, x0, y0, rfl, nA, rfl, hx, hy⟩
      rw [List.length_map] at hi
      obtain rfl : V.int (i : Nat) = x0 := Option.some.inj hx
      obtain ⟨b, hb, rfl⟩ := refs_get (show (ga.map V.ref)[i]? = some y0 from hy)
      obtain ⟨g, hg, t, pt, rgt, rla, hg1, hg2, hg3, hg4, hg5⟩ := hc.gates.at_ hb
      have hgm := List.mem_of_getElem? hg
      have hp3 := hN.fewp g hgm
      have E5 : Ex H4 (upd H4 A1 (.tup [V.int (i : Nat), .ref b])) := Ex.new nA
      refine ⟨A1, _, rfl, SqT.of upd_same, rfl, _, _, rfl, _, _, rfl, rfl, ?_⟩
      have hF5 : FolD (fun a => H a = none) (upd H4 A1 (.tup [V.int (i : Nat), .ref b])) es (srcs d ++ gnames d) (4 * i) := hF4.keep fun a l n h hl => ⟨l, E5 _ _ h, hl, n⟩
      generalize upd H4 A1 (.tup [V.int (i : Nat), .ref b]) = H5 at *
      have e5 := E4.trans E5
      have hD5 := E5 _ _ hD4
      refine ⟨_, rfl, _, _, _, _, rfl, rfl, SqT.of (e5 _ _ hg1), atI_nat (j := 2) rfl, pt, g.pins, rfl, .inr (SqT.of (e5 _ _ hg3)), by omega, fun S1 l nd hm hle nS => ?_⟩
      have E6 : Ex H5 (upd H5 S1 (XS.TxO P w S1 l)) := Ex.new nS
      refine ⟨S1, l, rfl, upd_same, fun ys L1 hpm hsd nL => ?_⟩
      have E7 : Ex (upd H5 S1 (XS.TxO P w S1 l)) (upd (upd H5 S1 (XS.TxO P w S1 l)) L1 (.lst (ys.map V.str))) := Ex.new nL
      have hL : upd (upd H5 S1 (XS.TxO P w S1 l)) L1 (.lst (ys.map V.str)) L1 = some (.lst (ys.map V.str)) := upd_same
      have nL0 : H L1 = none := fresh_back (e5.trans E6) nL
      generalize upd (upd H5 S1 (XS.TxO P w S1 l)) L1 (.lst (ys.map V.str)) = H7 at *
      have e57 := E6.trans E7
      have hD7 := e57 _ _ hD5
      have hF7 : FolD (fun a => H a = none ∧ a ≠ L1) H7 es (srcs d ++ gnames d) (4 * i) := hF5.keep fun a l n h hl => ⟨l, e57 _ _ h, hl, n, fun z => by rw [z] at h; exact absurd (E6 _ _ h) (by rw [nL]; intro q; cases q)⟩
      have hys3 : ys.length ≤ 3 := by rw [hpm.length_eq]; omega
      have hym : ∀ y ∈ ys, y ∈ srcs d ++ gnames d := fun y hy => hN.pins g hgm y ((hm y).mp (hpm.mem_iff.mp hy))
      refine ⟨L1, rfl, ⟨_, SqL.of hL⟩, for_list (K := K) (a := L1) (xs := ys.map V.str)
        (fun k σ H' => Ex H H' ∧ H' L1 = some (.lst (ys.map V.str)) ∧ H' Dc = some (.dK es) ∧ FolD (fun a => H a = none ∧ a ≠ L1) H' es (srcs d ++ gnames d) (4 * i + k) ∧ ∃ (y6 : Option V), σ = [some (.ref c), some (.ref Dc), y2, y3, some (.int (i : Nat)), some (.ref b), y6, none])
        ⟨e5.trans e57, hL, hD7, hF7, _, rfl⟩ (fun k σ H' _ z => SqL.of z.2.1) ?_ ?_⟩
      · rintro k xv σ H8 hx ⟨E8, hL8, hD8, hF8, y6, rfl⟩
        obtain ⟨n, hn, rfl⟩ : ∃ n, ys[k]? = some n ∧ xv = .str n := by
          rw [List.getElem?_map] at hx
          cases e : ys[k]? with
          | none => rw [e] at hx; cases hx
          | some x => rw [e] at hx; cases hx; exact ⟨x, rfl, rfl⟩
        have hkl : k < ys.length := (List.getElem?_eq_some_iff.mp hn).1
        have hnm := hym n (List.mem_of_getElem? hn)
        obtain ⟨v, hv1, hv2⟩ := hF8.ex
        obtain ⟨la, ll, g1, g2, g3, g4, g5⟩ := hv2 n hnm
        have hget := hv1.at_ hD8 hnm
        rw [g1] at hget
        refine ⟨_, rfl, _, rfl, Dc, _, rfl, hget, .inl ⟨rfl, _, SqL.of g2⟩, _, rfl, la, ll, .int (i : Nat), rfl, rfl, g2, sz_lt (by omega), E8.mut g4, ?_, ?_, ?_, _, rfl⟩
        · rw [upd_ne (Ne.symm g5)]; exact hL8
        · rw [upd_ne (ne_of g2 hD8 (by intro z; cases z)).symm]; exact hD8
        · refine hF8.keep fun a l n h hl => ?_
          by_cases e : a = la
          · subst e
            rw [g2] at h
            cases h
            exact ⟨_, upd_same, by rw [List.length_append]; show _ + 1 ≤ _; omega, n⟩
          · exact ⟨l, by rw [upd_ne e]; exact h, by omega, n⟩
      · rintro σ H8 ⟨E8, hL8, hD8, hF8, y6, rfl⟩
        rw [List.length_map] at hF8
        exact ⟨E8, _, _, _, _, _, hD8, hF8.keep fun a l n h hl => ⟨l, h, by omega, n.1⟩, rfl⟩
    · rintro σ H4 ⟨E4, y2, y3, y4, y5, y6, hD4, hF4, rfl⟩
      exact ⟨_, rfl, q Dc H4 E4⟩
end
end G
namespace G
open PySem PySem.Spec PyProof.Rows L2 Evl TL
/-- what a class's __init__ keeps: all but the new object -/
def ExBut (x : Addr) (H H' : Hp) : Prop := ∀ b o, H b = some o → b ≠ x → H' b = some o
theorem ExBut.made {x dx : Addr} {H H' : Hp} {o1 o2 : HO} (nx : H x = none) (nd : H dx = none) (e : ExBut x (upd (upd H dx o1) x o2) H') : Ex H H' := fun b o h => by
  have h1 : b ≠ x := ne_of_none h nx
  have h2 : b ≠ dx := ne_of_none h nd
  exact e b o (by rw [upd_ne h1, upd_ne h2]; exact h) h1
theorem made_free {x dx L : Addr} {H : Hp} {o1 o2 : HO} (h : upd (upd H dx o1) x o2 L = none) : H L = none := by
  have h1 : L ≠ x := fun z => by rw [z, upd_same] at h; cases h
  rw [upd_ne h1] at h
  have h2 : L ≠ dx := fun z => by rw [z, upd_same] at h; cases h
  rw [upd_ne h2] at h; exact h
theorem made_old {x dx b : Addr} {H : Hp} {o1 o2 o : HO} (nx : H x = none) (nd : H dx = none) (h : H b = some o) : upd (upd H dx o1) x o2 b = some o := by
  rw [upd_ne (ne_of_none h nx), upd_ne (ne_of_none h nd)]; exact h
theorem kListOf4 {X : Cx} {K : PySem.W.Frag} (h : X.K = K) : CallR X (.type "list") (fun xs H Q => ∃ p ys, xs = [.ref p] ∧ (SqL K H p ys ∨ SqT K H p ys) ∧ ∀ l, H l = none → Q (.ref l) (upd H l (.lst ys))) := by subst h; exact call_list_of
theorem hidEx {x : Addr} {H H' : Hp} (e : Ex H H') : Ex (hid x H) (hid x H') := fun b o h => by rw [hid_ne (hid_neq h)]; exact e _ _ (hid_get h)
theorem hidSeen {x : Addr} {H : Hp} {b : Addr} {o o' : HO} (hx : H x = some o') (hb : H b = some o) (n : o ≠ o') : hid x H b = some o := by rw [hid_ne (ne_of hb hx n)]; exact hb
theorem hidBut {x : Addr} {H H' : Hp} (e : Ex (hid x H) (hid x H')) : ExBut x H H' := fun b o h n => hid_get (e b o (by rw [hid_ne n]; exact h))
theorem hidPut {x : Addr} {H H1 : Hp} {o : HO} (e : Ex (hid x H) (hid x H1)) : Ex (hid x H) (hid x (upd H1 x o)) := by rw [hid_upd]; exact e
section
variable {P : Program} {w : World} {K : PySem.W.Frag} {mg : Str → Option Value} {base : Heap}
def spAInit (C Wc B : Addr) : Sp := fun vs H Q E => ∃ (x dx c sl0 : Addr) (d : CircD) (it gt rt ot : Addr) (ga ra oa sa : List Addr) (S : List Pr) (A : Str → Option Pr), vs = [.ref x, .ref c, .ref sl0] ∧ H x = some (.ins C dx []) ∧ CircAt H c d it gt rt ot ga ra oa ∧ Nets d ∧ (∀ g ∈ d.gates, g.rng.length = g.pins.length) ∧ H sl0 = some (.lst (sa.map V.ref)) ∧ All2 (IntsAt H) sa S ∧ S.length ≤ 50 ∧
  (S.length ≠ (srcs d).length → ∀ H', Ex H H' → E (.ref Wc) none H') ∧ (S.length = (srcs d).length → (∃ r ∈ S, ¬ r.1 ≤ r.2) → ∀ H', Ex H H' → E (.ref B) none H') ∧
  (S.length = (srcs d).length → (∀ r ∈ S, r.1 ≤ r.2) → Arr d S A ∧ ∀ (sl gl Dc : Addr) (rl : List Addr) (H' : Hp), ExBut x H H' → hid x H Dc = none → ArrAt C (hid sl0 H') x c sl gl Dc sa rl d S A → Q .non H')
theorem sc_Arrivals_init : FnScope ["self", "circuit", "starts", "roots", "pair", "g", "gate", "place", "net"] ["self", "circuit", "starts"] (defScope s_Arrivals_init) := ⟨rfl, rfl, rfl, by decide +kernel, rfl, by decide +kernel, by decide +kernel⟩
theorem ok_Arrivals_init {C Wc B : Addr} {f f1 : Addr} {fd d1 : FuncData} (F : Fun K "__init__" "Arrivals.__init__" s_Arrivals_init f fd) (W : Cl_Arrivals K mg C) (T : TxtP mg) (UW : ExcT K mg "WrongCount" Wc) (C1 : Has P w K mg base 1 "sources" ["circuit"] spSources) (C2 : HasX P w K mg base 1 "_check_start" ["pair"] (spCkStart B)) (C3 : Has P w K mg base 2 "gate_order" ["circuit"] spOrder) (C4 : Has P w K mg base 2 "_gates_by_net" ["circuit"] spGbn)
    (M_Arrivals_computed : Meth K C "_computed" f1) (G_Arrivals_computed : FnOk P w K mg base CX0 1 f1 d1 ["self", "g"] (spComputed C)) (b_Arrivals_computed : Binds K d1 ["self", "g"] []) : FnOk P w K mg base (L2.CX P w) 3 f fd ["self", "circuit", "starts"] (spAInit C Wc B) := by
  obtain ⟨f_sources, d_sources, G_sources, g_sources, k_sources, b_sources⟩ := C1
  obtain ⟨f_check_start, d_check_start, G_check_start, g_check_start, k_check_start, b_check_start⟩ := C2
  obtain ⟨f_gate_order, d_gate_order, G_gate_order, g_gate_order, k_gate_order, b_gate_order⟩ := C3
  obtain ⟨f_gates_by_net, d_gates_by_net, G_gates_by_net, g_gates_by_net, k_gates_by_net, b_gates_by_net⟩ := C4
  have c_Arrivals := W.cl
  refine F.okX sc_Arrivals_init (fun vs H Q E h => ?_) (fun cdv Ar outer s H vs Q E hr h => ?_)
  · obtain ⟨x, dx, c, sl0, d, it, gt, rt, ot, ga, ra, oa, sa, S, A, rfl, _⟩ := h
    rfl
  · obtain ⟨x, dx, c, sl0, d, it, gt, rt, ot, ga, ra, oa, sa, S, A, rfl, hx, hc, hN, hrp, hsl, hS, hS50, q1, q2, q3⟩ := h
    refine ⟨_, (pss_cons (ps_set (i := 3) sc_Arrivals_init.nd rfl (.inl rfl) (pe_call G_sources (hr.mono (by omega)) (by rfl) g_sources k_sources b_sources .nil pass0 (pa_cons (pv 1) pa_nil)))
    (pss_cons (ps_if (pt_cmpR op_ne (pe_callB call_len_seq (by rfl) T.len (by decide +kernel) (pa_cons (pv 2) pa_nil)) (pe_callB call_len_seq (by rfl) T.len (by decide +kernel) (pa_cons (pv 3) pa_nil)) (nomark _))
      (pss_one (ps_raise rfl (takes_of rfl rfl rfl rfl) (pmk_ownA PySem.F.excBase_ValueError UW.xP UW.gC UW.kC (raises_own UW.bC UW.tC) rfl (pa_cons pe_str pa_nil))))
      pss_nil)
    (pss_cons (ps_for (passes_of rfl) rfl (pi_list (pv 2)) (pg_name (i := 4) sc_Arrivals_init.nd rfl (.inl rfl))
      (pss_one (ps_expr (pe_call G_check_start (hr.mono (by omega)) (by rfl) g_check_start k_check_start b_check_start .nil (passes_call (takes_of rfl rfl rfl rfl) fun _ _ _ _ h => h) (pa_cons (pv 4) pa_nil)))))
    (pss_cons (ps_fld (pv 0) (pv 1) rfl)
    (pss_cons (ps_fld (pv 0) (pv 3) rfl)
    (pss_cons (ps_fld (pv 0) (pe_lc (own := [("pair", 4)]) (g := gName 4) (tt := tYes) rfl sc_Arrivals_init.nd (pi_list (pv 2)) (blkOk_by (N := ["self", "circuit", "starts", "roots", "pair", "g", "gate", "place", "net"]) (sc := defScope s_Arrivals_init) (own := [("pair", 4)]) (by decide +kernel)) (fun _ _ _ _ _ => (pg_name (i := 4) sc_Arrivals_init.nd rfl (.inl rfl))) (fun _ _ _ _ _ => pts_nil) (fun _ _ _ _ _ => (pe_callTy (kTupOf (K := K) rfl) (by rfl) T.tuple (by decide +kernel) (pa_cons (pv 4) pa_nil)))) rfl)
    (pss_cons (ps_fld (pv 0) (pe_lc (own := [("gate", 6)]) (g := gName 6) (tt := tYes) rfl sc_Arrivals_init.nd (pi_tup (pe_ix ix_tup (pv 1) pe_int (fun _ _ => rfl))) (blkOk_by (N := ["self", "circuit", "starts", "roots", "pair", "g", "gate", "place", "net"]) (sc := defScope s_Arrivals_init) (own := [("gate", 6)]) (by decide +kernel)) (fun _ _ _ _ _ => (pg_name (i := 6) sc_Arrivals_init.nd rfl (.inl rfl))) (fun _ _ _ _ _ => pts_nil) (fun _ _ _ _ _ => (pe_callTy (kListOf4 (K := K) rfl) (by rfl) T.list (by decide +kernel) (pa_cons (pe_ix (kIxT (K := K) rfl) (pv 6) pe_int (fun _ _ => rfl)) pa_nil)))) rfl)
    (pss_cons (ps_fld (pv 0) (pe_call G_gate_order (hr.mono (by omega)) (by rfl) g_gate_order k_gate_order b_gate_order .nil pass0 (pa_cons (pv 1) pa_nil)) rfl)
    (pss_cons (ps_fld (pv 0) (pe_dc (own := [("place", 7), ("g", 5)]) (g := gTup K 2 (gCons (gName 7) (gCons (gName 5) gNil))) (tt := tYes) rfl sc_Arrivals_init.nd (pi_enum (by rfl) T.enumerate (pa_cons (pe_fld (pv 0) rfl) pa_nil)) (blkOk_by (N := ["self", "circuit", "starts", "roots", "pair", "g", "gate", "place", "net"]) (sc := defScope s_Arrivals_init) (own := [("place", 7), ("g", 5)]) (by decide +kernel)) (fun _ _ _ _ _ => (pg_tup rfl (pgs_cons (pg_name (i := 7) sc_Arrivals_init.nd rfl (.inl rfl)) (pgs_cons (pg_name (i := 5) sc_Arrivals_init.nd rfl (.inl rfl)) pgs_nil)))) (fun _ _ _ _ _ => pts_nil) (fun _ _ _ _ _ => (pv 5)) (fun _ _ _ _ _ => (pv 7))) rfl)
    (pss_cons (ps_fld (pv 0) (pe_call G_gates_by_net (hr.mono (by omega)) (by rfl) g_gates_by_net k_gates_by_net b_gates_by_net .nil pass0 (pa_cons (pv 1) pa_nil)) rfl)
    (pss_cons (ps_fld (pv 0) (pe_dc (own := [("net", 8), ("pair", 4)]) (g := gTup K 2 (gCons (gName 8) (gCons (gName 4) gNil))) (tt := tYes) rfl sc_Arrivals_init.nd (pi_zipM false false (by rfl) T.zip (pa_cons (pv 3) (pa_cons (pe_fld (pv 0) rfl) pa_nil))) (blkOk_by (N := ["self", "circuit", "starts", "roots", "pair", "g", "gate", "place", "net"]) (sc := defScope s_Arrivals_init) (own := [("net", 8), ("pair", 4)]) (by decide +kernel)) (fun _ _ _ _ _ => (pg_tup rfl (pgs_cons (pg_name (i := 8) sc_Arrivals_init.nd rfl (.inl rfl)) (pgs_cons (pg_name (i := 4) sc_Arrivals_init.nd rfl (.inl rfl)) pgs_nil)))) (fun _ _ _ _ _ => pts_nil) (fun _ _ _ _ _ => (pv 8)) (fun _ _ _ _ _ => (pv 4))) rfl)
    (pss_cons (ps_for (passes_of rfl) rfl (pi_list (pe_fld (pv 0) rfl)) (pg_name (i := 5) sc_Arrivals_init.nd rfl (.inl rfl))
      (pss_one (ps_asg (pe_meth (pv 0) c_Arrivals M_Arrivals_computed G_Arrivals_computed (hr.mono (by omega)) b_Arrivals_computed .nil pass0 (pa_cons (pv 5) pa_nil)) (pg_sub (pe_fld (pv 0) rfl) (pe_ix ix_tup (pe_ix ix_tup (pe_ix ix_tup (pv 1) pe_int (fun _ _ => rfl)) (pv 5) (fun _ _ => rfl)) pe_int (fun _ _ => rfl)) (set_dict (hu_of hr))))))
    (pss_one (ps_fld (pv 0) pe_int rfl)))))))))))))), ?_⟩
    have hs := hN.fews
    have hg16 := hN.few
    have hgl := hc.gates.1
    refine ⟨_, rfl, c, d, it, gt, rt, ot, ga, ra, oa, rfl, hc, by omega, fun rl0 H1 nrl E1 hrl => ?_⟩
    have hrlen : ((srcs d).map V.str).length = (srcs d).length := List.length_map _
    have hsal : (sa.map V.ref).length = S.length := by rw [List.length_map, hS.1]
    refine ⟨_, rfl, _, _, rfl, .inl (SqL.of (E1 _ _ hsl)), _, rfl, _, _, rfl, .inl (SqL.of hrl), rfl, _, rfl, ?_⟩
    rw [hrlen, hsal]
    by_cases hlen' : ¬ S.length = (srcs d).length
    · have : (!decide (V.int ((S.length : Nat) : Int) = V.int (((srcs d).length : Nat) : Int))) = true := by
        rw [Bool.not_eq_true', decide_eq_false_iff_not]
        intro z
        have := V.int.inj z
        omega
      rw [this]
      exact iteT ⟨by show 1 ≤ sizeLine; decide, q1 hlen' H1 E1⟩
    have hlen := Classical.not_not.mp hlen'
    clear hlen'
    have : (!decide (V.int ((S.length : Nat) : Int) = V.int (((srcs d).length : Nat) : Int))) = false := by rw [hlen, decide_eq_true rfl]; rfl
    rw [this]
    refine iteF ?_
    refine ⟨_, rfl, sl0, rfl, ⟨_, SqL.of (E1 _ _ hsl)⟩, for_list (K := K) (a := sl0) (xs := sa.map V.ref)
      (fun i σ H' => H' = H1 ∧ (∀ r ∈ S.take i, r.1 ≤ r.2) ∧ ∃ z : Option V, σ = [some (.ref x), some (.ref c), some (.ref sl0), some (.ref rl0), z, none, none, none, none])
      ⟨rfl, (by rw [List.take_zero]; exact fun _ h => nomatch h), _, rfl⟩ (fun i σ H' _ g => by rw [g.1]; exact SqL.of (E1 _ _ hsl)) ?_ ?_⟩
    · rintro i y σ H1 hy ⟨rfl, hall, z, rfl⟩
      obtain ⟨b, hb, rfl⟩ := refs_get hy
      obtain ⟨r, hr', hrI⟩ := hS.at_ hb
      refine ⟨_, rfl, b, r, rfl, hrI.te (TEx.of E1), fun ok => ⟨rfl, fun r' hm => ?_, _, rfl⟩, fun bad => q2 hlen ⟨r, List.mem_of_getElem? hr', bad⟩ _ E1⟩
      rw [take_snoc1 hr'] at hm
      rcases List.mem_append.mp hm with m | m
      · exact hall r' m
      · rw [List.mem_singleton.mp m]; exact ok
    rintro σ H1 ⟨rfl, hall, z, rfl⟩
    rw [List.length_map, hS.1, List.take_length] at hall
    obtain ⟨hA, q3⟩ := q3 hlen hall
    clear q1 q2
    have e1 : Ex (hid x H) (hid x H1) := hidEx E1
    have hx1 := E1 _ _ hx
    have hc' : CircAt (hid x H) c d it gt rt ot ga ra oa := hc.te fun b xs h => hidSeen hx h (by intro z; cases z)
    have hS' : All2 (IntsAt (hid x H)) sa S := hS.imp fun _ _ h => hidSeen hx h (by intro z; cases z)
    have hsl' : hid x H sl0 = some (.lst (sa.map V.ref)) := hidSeen hx hsl (by intro z; cases z)
    have hrl1 : hid x H1 rl0 = some (.lst ((srcs d).map V.str)) := hidSeen hx1 hrl (by intro z; cases z)
    -- _circuit, _roots
    refine ⟨_, rfl, _, rfl, x, C, dx, _, rfl, hx1, W.cl, W.n_circuit, by show 0 < 1000; decide, ?_⟩
    refine ⟨_, rfl, _, rfl, x, C, dx, _, rfl, upd_same, W.cl, W.n_roots, by show 1 < 1000; decide, ?_⟩
    rw [upd_upd]
    obtain ⟨fs2, efs2⟩ : ∃ fs, fs = putF "_roots" (.ref rl0) (putF "_circuit" (.ref c) []) := ⟨_, rfl⟩
    rw [← efs2]
    have len2 : fs2.length ≤ 2 := by rw [efs2]; exact Nat.le_trans (length_putF _ _ _) (Nat.succ_le_succ (length_putF _ _ _))
    have no2 : NoMs fs2 := by rw [efs2]; exact (NoMs.nil.put (by decide +kernel)).put (by decide +kernel)
    have lc2 : fs2.lookup ("_circuit" : Str) = some (.ref c) := by rw [efs2]; exact (lk_ne (by decide +kernel)).trans lk_eq
    have hx2 : upd H1 x (.ins C dx fs2) x = some (.ins C dx fs2) := upd_same
    have e2 : Ex (hid x H) (hid x (upd H1 x (.ins C dx fs2))) := hidPut e1
    have hrl2 : hid x (upd H1 x (.ins C dx fs2)) rl0 = some (.lst ((srcs d).map V.str)) := by rw [hid_upd]; exact hrl1
    generalize upd H1 x (.ins C dx fs2) = H2 at *
    clear hrl1 hx1 e1 efs2
    -- _starts
    refine ⟨_, rfl, sl0, rfl, ⟨_, SqL.of (hid_get (e2 _ _ hsl'))⟩, fun sl nsl => wk_list (K := K) (a := sl0) (xs := sa.map V.ref) (fun j H' => Ex H2 H' ∧ H' sl = some (.lst ((sa.take j).map V.ref))) ⟨Ex.new nsl, upd_same⟩ (fun j H' _ g => SqL.of (g.1 _ _ (hid_get (e2 _ _ hsl')))) ?_ ?_⟩
    · rintro j y H3 hy ⟨E3, hL⟩
      obtain ⟨b, hb, rfl⟩ := refs_get hy
      obtain ⟨r, hr', hrI⟩ := hS'.at_ hb
      have hj := (List.getElem?_eq_some_iff.mp hr').1
      refine ⟨rfl, tYes_in ?_⟩
      simp only [wipe, _root_.L2.start, List.map_cons, List.map_nil, List.length_cons, List.length_nil, Nat.reduceAdd, Nat.reduceSub, List.replicate_succ, List.replicate_zero, List.cons_append, List.nil_append, List.set_cons_zero, List.set_cons_succ]
      refine ⟨_, rfl, b, _, rfl, .inr ⟨SqT.of (E3 _ _ (hid_get (e2 _ _ hrI))), _, hL, sz_lt (by rw [List.length_map, List.length_take]; omega), E3.mut nsl, ?_⟩⟩
      rw [upd_same, take_snoc1 hb, List.map_append]; rfl
    have nsl0 : sl ≠ sl0 := (ne_of_none (hid_get (e2 _ _ hsl')) nsl).symm
    rintro H3 ⟨E3, hsl3⟩
    rw [List.length_map, List.take_length] at hsl3
    have hx3 := E3 _ _ hx2
    refine ⟨_, rfl, x, C, dx, _, rfl, hx3, W.cl, W.n_starts, by omega, ?_⟩
    obtain ⟨fs4, efs4⟩ : ∃ fs, fs = putF "_starts" (.ref sl) fs2 := ⟨_, rfl⟩
    rw [← efs4]
    have len4 : fs4.length ≤ 3 := by rw [efs4]; exact Nat.le_trans (length_putF _ _ _) (Nat.succ_le_succ len2)
    have no4 : NoMs fs4 := by rw [efs4]; exact no2.put (by decide +kernel)
    have lc4 : fs4.lookup ("_circuit" : Str) = some (.ref c) := by rw [efs4]; exact (lk_ne (by decide +kernel)).trans lc2
    have ls4 : fs4.lookup ("_starts" : Str) = some (.ref sl) := by rw [efs4]; exact lk_eq
    have hx4 : upd H3 x (.ins C dx fs4) x = some (.ins C dx fs4) := upd_same
    have s34 : Ex (hid x H2) (hid x (upd H3 x (.ins C dx fs4))) := hidPut (hidEx E3)
    have hsl4 : hid x (upd H3 x (.ins C dx fs4)) sl = some (.lst (sa.map V.ref)) := by rw [hid_upd]; exact hidSeen hx3 hsl3 (by intro z; cases z)
    generalize upd H3 x (.ins C dx fs4) = H4 at *
    have e4 := e2.trans s34
    have hrl4 := s34 _ _ hrl2
    clear hsl3 hx3 hx2 E3 s34 efs4 no2 lc2 len2 hrl2 e2
    -- _ranges
    have hc4 := hc'.te (TEx.of (e4.trans hid_ex))
    refine ⟨_, rfl, _, _, _, _, rfl, rfl, SqT.of hc4.top, atI_nat (j := 1) rfl, gt, rfl, ⟨_, SqT.of hc4.gts⟩, fun gl ngl => wk_tup (K := K) (a := gt) (xs := ga.map V.ref)
      (fun j H' => Ex H4 H' ∧ ∃ rl : List Addr, H' gl = some (.lst (rl.map V.ref)) ∧ All2 (fun a r => a ≠ sl0 ∧ ∃ pl : List Addr, hid gl H' a = some (.lst (pl.map V.ref)) ∧ All2 (IntsAt (hid gl H')) pl r) rl ((d.gates.map (·.rng)).take j)) ⟨Ex.new ngl, [], upd_same, .nil⟩ (fun j H' _ g => SqT.of (g.1 _ _ hc4.gts)) ?_ ?_⟩
    · rintro j y H5 hy ⟨E5, rl, hL, hR⟩
      obtain ⟨b, hb, rfl⟩ := refs_get hy
      obtain ⟨g, hg, t, pt, rgt, rla, hg1, hg2, hg3, hg4, hg5⟩ := hc4.gates.at_ hb
      have hj := (List.getElem?_eq_some_iff.mp hg).1
      refine ⟨rfl, tYes_in ?_⟩
      simp only [wipe, _root_.L2.start, List.map_cons, List.map_nil, List.length_cons, List.length_nil, Nat.reduceAdd, Nat.reduceSub, List.replicate_succ, List.replicate_zero, List.cons_append, List.nil_append, List.set_cons_zero, List.set_cons_succ]
      refine ⟨_, rfl, _, _, _, _, rfl, rfl, SqT.of (E5 _ _ hg1), atI_nat (j := 3) rfl, _, _, rfl, .inr (SqT.of (E5 _ _ hg4)), fun ro nro => ?_⟩
      have E6 : Ex H5 (upd H5 ro (.lst (rla.map V.ref))) := Ex.new nro
      have hro : upd H5 ro (.lst (rla.map V.ref)) ro = some (.lst (rla.map V.ref)) := upd_same
      have nrg : ro ≠ gl := (ne_of_none hL nro).symm
      have nrs : ro ≠ sl0 := (ne_of_none (E5 _ _ (hid_get (e4 _ _ hsl'))) nro).symm
      generalize upd H5 ro (.lst (rla.map V.ref)) = H6 at *
      have hL6 := E6 _ _ hL
      have e56 := E5.trans E6
      have tl : ∀ {q : Addr} {xs : List V}, H6 q = some (.tup xs) → hid gl H6 q = some (.tup xs) := fun {q xs} z => hidSeen hL6 z (by intro y; cases y)
      refine ⟨_, hL6, sz_lt (by rw [List.length_map, hR.1, List.length_take, List.length_map]; omega), e56.mut ngl, rl ++ [ro], by rw [upd_same, List.map_append]; rfl, ?_⟩
      rw [hid_upd, take_snoc1 (show (d.gates.map (·.rng))[j]? = some g.rng by rw [List.getElem?_map, hg]; rfl)]
      refine (hR.imp fun a r ⟨n, pl, a1, a2⟩ => ⟨n, pl, hidEx E6 _ _ a1, a2.imp fun _ _ z => hidEx E6 _ _ z⟩).snoc ⟨nrs, rla, by rw [hid_ne nrg]; exact hro, hg5.imp fun _ _ z => tl (e56 _ _ z)⟩
    have ngl0 : gl ≠ sl0 := (ne_of_none (hid_get (e4 _ _ hsl')) ngl).symm
    rintro H5 ⟨E5, rl, hgl5, hR⟩
    rw [List.length_map, hgl, ← List.length_map (f := fun g : GateD => g.rng), List.take_length] at hR
    have hx5 := E5 _ _ hx4
    refine ⟨_, rfl, x, C, dx, _, rfl, hx5, W.cl, W.n_ranges, by omega, ?_⟩
    obtain ⟨fs6, efs6⟩ : ∃ fs, fs = putF "_ranges" (.ref gl) fs4 := ⟨_, rfl⟩
    rw [← efs6]
    have len6 : fs6.length ≤ 4 := by rw [efs6]; exact Nat.le_trans (length_putF _ _ _) (Nat.succ_le_succ len4)
    have no6 : NoMs fs6 := by rw [efs6]; exact no4.put (by decide +kernel)
    have lc6 : fs6.lookup ("_circuit" : Str) = some (.ref c) := by rw [efs6]; exact (lk_ne (by decide +kernel)).trans lc4
    have ls6 : fs6.lookup ("_starts" : Str) = some (.ref sl) := by rw [efs6]; exact (lk_ne (by decide +kernel)).trans ls4
    have lg6 : fs6.lookup ("_ranges" : Str) = some (.ref gl) := by rw [efs6]; exact lk_eq
    have hx6 : upd H5 x (.ins C dx fs6) x = some (.ins C dx fs6) := upd_same
    have s46 : Ex (hid x H4) (hid x (upd H5 x (.ins C dx fs6))) := hidPut (hidEx E5)
    have hrg6 : RowsAt (hid x (upd H5 x (.ins C dx fs6))) gl rl (d.gates.map (·.rng)) := by
      rw [hid_upd]
      refine ⟨hidSeen hx5 hgl5 (by intro z; cases z), hR.imp fun a r ⟨_, pl, a1, a2⟩ => ⟨pl, hidSeen hx5 (hid_get a1) (by intro z; cases z), a2.imp fun _ _ z => hidSeen hx5 (hid_get z) (by intro z; cases z)⟩⟩
    have hnr : ∀ a ∈ rl, a ≠ sl0 := fun a ha => by
      obtain ⟨i, hi, e⟩ := List.getElem_of_mem ha
      obtain ⟨r, _, n, _⟩ := hR.at_ (List.getElem?_eq_some_iff.mpr ⟨hi, e⟩)
      exact n
    generalize upd H5 x (.ins C dx fs6) = H6 at *
    have e6 := e4.trans s46
    have hrl6 := s46 _ _ hrl4
    have hsl6 := s46 _ _ hsl4
    clear hgl5 hx5 hx4 E5 s46 efs6 no4 lc4 ls4 len4 hrl4 hsl4 e4 hR hc4
    -- _order
    have hc6 := hc'.te (TEx.of (e6.trans hid_ex))
    refine ⟨_, rfl, c, d, it, gt, rt, ot, ga, ra, oa, rfl, hc6, hN, fun ol H7 ord E7 nol hol hT => ?_⟩
    have hx7 := E7 _ _ hx6
    refine ⟨_, rfl, x, C, dx, _, rfl, hx7, W.cl, W.n_order, by omega, ?_⟩
    obtain ⟨fs8, efs8⟩ : ∃ fs, fs = putF "_order" (.ref ol) fs6 := ⟨_, rfl⟩
    rw [← efs8]
    have len8 : fs8.length ≤ 5 := by rw [efs8]; exact Nat.le_trans (length_putF _ _ _) (Nat.succ_le_succ len6)
    have no8 : NoMs fs8 := by rw [efs8]; exact no6.put (by decide +kernel)
    have lc8 : fs8.lookup ("_circuit" : Str) = some (.ref c) := by rw [efs8]; exact (lk_ne (by decide +kernel)).trans lc6
    have ls8 : fs8.lookup ("_starts" : Str) = some (.ref sl) := by rw [efs8]; exact (lk_ne (by decide +kernel)).trans ls6
    have lg8 : fs8.lookup ("_ranges" : Str) = some (.ref gl) := by rw [efs8]; exact (lk_ne (by decide +kernel)).trans lg6
    have lo8 : fs8.lookup ("_order" : Str) = some (.ref ol) := by rw [efs8]; exact lk_eq
    have hx8 : upd H7 x (.ins C dx fs8) x = some (.ins C dx fs8) := upd_same
    have s68 : Ex (hid x H6) (hid x (upd H7 x (.ins C dx fs8))) := hidPut (hidEx E7)
    have hol8 : hid x (upd H7 x (.ins C dx fs8)) ol = some (.lst (natsV ord)) := by rw [hid_upd]; exact hidSeen hx7 hol (by intro z; cases z)
    generalize upd H7 x (.ins C dx fs8) = H8 at *
    have e8 := e6.trans s68
    have hrl8 := s68 _ _ hrl6
    have hsl8 := s68 _ _ hsl6
    have hrg8 := hrg6.ex s68
    clear hol hx7 hx6 E7 s68 efs8 no6 lc6 ls6 lg6 len6 hrl6 hsl6 hrg6 hc6
    have nol0 : ol ≠ sl0 := by
      intro z
      rw [z] at nol
      have := hid_get (e6 _ _ hsl')
      rw [nol] at this; cases this
    clear nol e6
    have hnd : (needN d).length = d.gates.length := by unfold needN; rw [List.length_map]
    have hol16 : ord.length ≤ 16 := by
      have := nodup_len _ _ hT.nd hT.lt
      omega
    -- _places
    refine ⟨_, rfl, x, C, dx, fs8, _, rfl, hx8, W.cl, W.n_order, lo8, ol, _, rfl, SqL.of (hid_get hol8), fun Dp nDp => wk_it walk_enum (fun j H' => Ex H8 H' ∧ ∃ es : List (Key × V), H' Dp = some (.dK es) ∧ es.length ≤ j) ⟨Ex.new nDp, [], upd_same, Nat.le_refl _⟩ (fun j H' _ g => SqL.of (g.1 _ _ (hid_get hol8))) ?_ ?_⟩
    · rintro j y H9 H10 hj ⟨E9, es, hD, hel⟩ ⟨T1, x0, y0, rfl, nT, rfl, hx0, hy0⟩
      rw [nats_len] at hj
      obtain rfl : V.int (j : Nat) = x0 := Option.some.inj hx0
      obtain ⟨k, hk, rfl⟩ := nats_get (show (natsV ord)[j]? = some y0 from hy0)
      have E10 : Ex H9 (upd H9 T1 (.tup [V.int (j : Nat), .int (k : Int)])) := Ex.new nT
      refine ⟨T1, _, rfl, SqT.of upd_same, rfl, _, _, rfl, _, _, rfl, rfl, (by rw [wipe_set (by decide), wipe_set (by decide), wipe_wipe]), tYes_in ?_⟩
      simp only [wipe, _root_.L2.start, List.map_cons, List.map_nil, List.length_cons, List.length_nil, Nat.reduceAdd, Nat.reduceSub, List.replicate_succ, List.replicate_zero, List.cons_append, List.nil_append, List.set_cons_zero, List.set_cons_succ]
      have hD10 := E10 _ _ hD
      generalize upd H9 T1 (.tup [V.int (j : Nat), .int (k : Int)]) = H10 at *
      exact ⟨_, rfl, _, rfl, es, .inl (k : Int), rfl, hD10, sz_lt (by omega), (E9.trans E10).mut nDp, _, upd_same, Nat.le_trans (length_putK _ _ _) (by omega)⟩
    rintro H9 ⟨E9, esP, hDp, _⟩
    have hx9 := E9 _ _ hx8
    refine ⟨_, rfl, x, C, dx, _, rfl, hx9, W.cl, W.n_places, by omega, ?_⟩
    obtain ⟨fs10, efs10⟩ : ∃ fs, fs = putF "_places" (.ref Dp) fs8 := ⟨_, rfl⟩
    rw [← efs10]
    have len10 : fs10.length ≤ 6 := by rw [efs10]; exact Nat.le_trans (length_putF _ _ _) (Nat.succ_le_succ len8)
    have no10 : NoMs fs10 := by rw [efs10]; exact no8.put (by decide +kernel)
    have lc10 : fs10.lookup ("_circuit" : Str) = some (.ref c) := by rw [efs10]; exact (lk_ne (by decide +kernel)).trans lc8
    have ls10 : fs10.lookup ("_starts" : Str) = some (.ref sl) := by rw [efs10]; exact (lk_ne (by decide +kernel)).trans ls8
    have lg10 : fs10.lookup ("_ranges" : Str) = some (.ref gl) := by rw [efs10]; exact (lk_ne (by decide +kernel)).trans lg8
    have lo10 : fs10.lookup ("_order" : Str) = some (.ref ol) := by rw [efs10]; exact (lk_ne (by decide +kernel)).trans lo8
    have hx10 : upd H9 x (.ins C dx fs10) x = some (.ins C dx fs10) := upd_same
    have s810 : Ex (hid x H8) (hid x (upd H9 x (.ins C dx fs10))) := hidPut (hidEx E9)
    generalize upd H9 x (.ins C dx fs10) = H10 at *
    have e10 := e8.trans s810
    have hrl10 := s810 _ _ hrl8
    have hsl10 := s810 _ _ hsl8
    have hol10 := s810 _ _ hol8
    have hrg10 := hrg8.ex s810
    clear hDp hx9 hx8 E9 s810 efs10 no8 lc8 ls8 lg8 lo8 len8 hrl8 hsl8 hol8 e8 hrg8 nDp
    -- _followers
    refine ⟨_, rfl, c, d, it, gt, rt, ot, ga, ra, oa, rfl, hc'.te (TEx.of (e10.trans hid_ex)), hN, fun Df H11 E11 => ?_⟩
    have hx11 := E11 _ _ hx10
    refine ⟨_, rfl, x, C, dx, _, rfl, hx11, W.cl, W.n_followers, by omega, ?_⟩
    obtain ⟨fs12, efs12⟩ : ∃ fs, fs = putF "_followers" (.ref Df) fs10 := ⟨_, rfl⟩
    rw [← efs12]
    have len12 : fs12.length ≤ 7 := by rw [efs12]; exact Nat.le_trans (length_putF _ _ _) (Nat.succ_le_succ len10)
    have no12 : NoMs fs12 := by rw [efs12]; exact no10.put (by decide +kernel)
    have lc12 : fs12.lookup ("_circuit" : Str) = some (.ref c) := by rw [efs12]; exact (lk_ne (by decide +kernel)).trans lc10
    have ls12 : fs12.lookup ("_starts" : Str) = some (.ref sl) := by rw [efs12]; exact (lk_ne (by decide +kernel)).trans ls10
    have lg12 : fs12.lookup ("_ranges" : Str) = some (.ref gl) := by rw [efs12]; exact (lk_ne (by decide +kernel)).trans lg10
    have lo12 : fs12.lookup ("_order" : Str) = some (.ref ol) := by rw [efs12]; exact (lk_ne (by decide +kernel)).trans lo10
    have hx12 : upd H11 x (.ins C dx fs12) x = some (.ins C dx fs12) := upd_same
    have s1012 : Ex (hid x H10) (hid x (upd H11 x (.ins C dx fs12))) := hidPut (hidEx E11)
    generalize upd H11 x (.ins C dx fs12) = H12 at *
    have e12 := e10.trans s1012
    have hrl12 := s1012 _ _ hrl10
    have hsl12 := s1012 _ _ hsl10
    have hol12 := s1012 _ _ hol10
    have hrg12 := hrg10.ex s1012
    clear hx11 hx10 E11 s1012 efs12 no10 lc10 ls10 lg10 lo10 len10 hrl10 hsl10 hol10 e10 hrg10
    -- _pairs
    refine ⟨_, rfl, _, rfl, x, C, dx, fs12, _, rfl, hx12, W.cl, W.n_starts, ls12, rl0, sl, (srcs d).map V.str, sa.map V.ref, rfl, SqL.of (hid_get hrl12), SqL.of (hid_get hsl12), fun Dc nD => wk_it (walk_zipM (n := (srcs d).length) (by rw [List.length_map]) (by rw [hsal, hlen]))
      (fun j H' => Ex H12 H' ∧ ∃ es : List (Key × V), H' Dc = some (.dK es) ∧ es.length ≤ j ∧ HoldsP H' es ((srcs d).take j) A) ⟨Ex.new nD, [], upd_same, Nat.le_refl _, ⟨⟨fun _ => .non, HoldsV.nil, (fun _ h => nomatch h)⟩⟩⟩ (fun j H' _ g => ⟨SqL.of (g.1 _ _ (hid_get hrl12)), SqL.of (g.1 _ _ (hid_get hsl12))⟩) ?_ ?_⟩
    · rintro j y H13 H14 hj ⟨E13, es, hD, hel, hP⟩ ⟨T1, x0, y0, rfl, nT, rfl, hx0, hy0⟩
      obtain ⟨n, hn⟩ : ∃ n, (srcs d)[j]? = some n := ⟨_, List.getElem?_eq_getElem hj⟩
      obtain rfl : x0 = .str n := by
        have : ((srcs d).map V.str)[j]? = some x0 := hx0
        rw [List.getElem?_map, hn] at this
        cases this; rfl
      obtain ⟨b, hb, rfl⟩ := refs_get (show (sa.map V.ref)[j]? = some y0 from hy0)
      obtain ⟨r, hr', hrI⟩ := hS'.at_ hb
      have E14 : Ex H13 (upd H13 T1 (.tup [.str n, .ref b])) := Ex.new nT
      refine ⟨T1, _, rfl, SqT.of upd_same, rfl, _, _, rfl, _, _, rfl, rfl, (by rw [wipe_set (by decide), wipe_set (by decide), wipe_wipe]), tYes_in ?_⟩
      simp only [wipe, _root_.L2.start, List.map_cons, List.map_nil, List.length_cons, List.length_nil, Nat.reduceAdd, Nat.reduceSub, List.replicate_succ, List.replicate_zero, List.cons_append, List.nil_append, List.set_cons_zero, List.set_cons_succ]
      have hD14 := E14 _ _ hD
      have hP14 := hP.te (TEx.of E14)
      generalize upd H13 T1 (.tup [.str n, .ref b]) = H14 at *
      refine ⟨_, rfl, _, rfl, es, .inr n, rfl, hD14, sz_lt (by omega), (E13.trans E14).mut nD, _, upd_same, Nat.le_trans (length_putK _ _ _) (by omega), ?_⟩
      rw [take_snoc1 hn]
      have Tp : TEx H14 (upd H14 Dc (.dK (putK es (.inr n) (.ref b)))) := fun a xs h => by rw [upd_ne (ne_of h hD14 (by intro z; cases z))]; exact h
      refine (hP14.te Tp).put ?_
      rw [← hA.src j n hn, hr']
      exact ⟨b, rfl, ((hrI.te (TEx.of (e12.trans hid_ex))).te (TEx.of (E13.trans E14))).te Tp⟩
    rintro H13 ⟨E13, es0, hD13, hel13, hP13⟩
    rw [List.take_length] at hP13
    have hx13 := E13 _ _ hx12
    refine ⟨_, rfl, x, C, dx, _, rfl, hx13, W.cl, W.n_pairs, by omega, ?_⟩
    obtain ⟨fs, efs⟩ : ∃ fs, fs = putF "_pairs" (.ref Dc) fs12 := ⟨_, rfl⟩
    rw [← efs]
    have len14 : fs.length ≤ 8 := by rw [efs]; exact Nat.le_trans (length_putF _ _ _) (Nat.succ_le_succ len12)
    have no14 : NoMs fs := by rw [efs]; exact no12.put (by decide +kernel)
    have lc : fs.lookup ("_circuit" : Str) = some (.ref c) := by rw [efs]; exact (lk_ne (by decide +kernel)).trans lc12
    have ls : fs.lookup ("_starts" : Str) = some (.ref sl) := by rw [efs]; exact (lk_ne (by decide +kernel)).trans ls12
    have lg : fs.lookup ("_ranges" : Str) = some (.ref gl) := by rw [efs]; exact (lk_ne (by decide +kernel)).trans lg12
    have lo : fs.lookup ("_order" : Str) = some (.ref ol) := by rw [efs]; exact (lk_ne (by decide +kernel)).trans lo12
    have lp : fs.lookup ("_pairs" : Str) = some (.ref Dc) := by rw [efs]; exact lk_eq
    have hx14 : upd H13 x (.ins C dx fs) x = some (.ins C dx fs) := upd_same
    have s1214 : Ex (hid x H12) (hid x (upd H13 x (.ins C dx fs))) := hidPut (hidEx E13)
    have nDx : Dc ≠ x := ne_of hD13 hx13 (by intro z; cases z)
    have nD12 : hid x H12 Dc = none := hid_none nD
    have hD14 : upd H13 x (.ins C dx fs) Dc = some (.dK es0) := by rw [upd_ne nDx]; exact hD13
    have hP14 : HoldsP (hid x (upd H13 x (.ins C dx fs))) es0 (srcs d) A := by
      rw [hid_upd]
      exact hP13.te fun b xs h => hidSeen hx13 h (by intro z; cases z)
    generalize upd H13 x (.ins C dx fs) = H14 at *
    have e14 := e12.trans s1214
    have nDH : hid x H Dc = none := by
      cases e : hid x H Dc with
      | none => rfl
      | some o => rw [e12 _ _ e] at nD12; cases nD12
    have hsl14 := s1214 _ _ hsl12
    have hol14 := s1214 _ _ hol12
    have hrg14 := hrg12.ex s1214
    clear hx13 hx12 E13 s1214 efs no12 lc12 ls12 lg12 lo12 len12 hrl12 hsl12 hol12 e12 hrg12 nD hP13 hD13
    -- the gates
    have hcK : CircAt (hid x H14) c d it gt rt ot ga ra oa := hc'.te (TEx.of e14)
    refine ⟨_, rfl, x, C, dx, fs, _, rfl, hx14, W.cl, W.n_order, lo, ol, rfl, ⟨_, SqL.of (hid_get hol14)⟩, for_list (K := K) (a := ol) (xs := natsV ord)
      (fun i σ H' => Ex (hid x H) (hid x H') ∧ Ex (hid Dc (hid x H14)) (hid Dc (hid x H')) ∧ H' x = some (.ins C dx fs) ∧ ∃ (es : List (Key × V)) (y4 y5 y6 y7 y8 : Option V), H' Dc = some (.dK es) ∧ es.length ≤ (srcs d).length + i ∧ HoldsP (hid x H') es (srcs d ++ doneN d (ord.take i)) A ∧ σ = [some (.ref x), some (.ref c), some (.ref sl0), some (.ref rl0), y4, y5, y6, y7, y8])
      ⟨e14, .refl _, hx14, es0, _, _, _, _, _, hD14, by omega, by rw [show doneN d (ord.take 0) = [] from rfl, List.append_nil]; exact hP14, rfl⟩ (fun i σ H' _ g => SqL.of (hid_get (hid_get (g.2.1 _ _ (hidSeen (by rw [hid_ne nDx]; exact hD14) hol14 (by intro z; cases z)))))) ?_ ?_⟩
    · rintro i y σ H15 hy ⟨E15, D15, hx15, es, y4, y5, y6, y7, y8, hD15, hel15, hP15, rfl⟩
      obtain ⟨k, hk1, rfl⟩ := nats_get hy
      have hkl := hT.lt k (List.mem_of_getElem? hk1)
      rw [hnd] at hkl
      obtain ⟨g, hg⟩ : ∃ g, d.gates[k]? = some g := ⟨_, List.getElem?_eq_getElem hkl⟩
      have hgm := List.mem_of_getElem? hg
      have hc15 := hc'.te (TEx.of (E15.trans hid_ex))
      obtain ⟨b, hb, t, pt, rgt, rla, hgt, htab, hpt, _⟩ := hc15.gates.of hg
      have hil : i < ord.length := (List.getElem?_eq_some_iff.mp hk1).1
      have hin : ∀ p ∈ g.pins, p ∈ srcs d ++ doneN d (ord.take i) := fun p hp => by
        rcases List.mem_append.mp (hN.pins g hgm p hp) with z | z
        · exact List.mem_append_left _ z
        · refine List.mem_append_right _ ?_
          have hneed : (gnames d).idxOf p ∈ (needN d).getD k [] := by
            unfold needN
            rw [List.getD_eq_getElem?_getD, List.getElem?_map, hg]
            exact List.mem_map.mpr ⟨p, List.mem_filter.mpr ⟨hp, decide_eq_true z⟩, rfl⟩
          have := hT.closed i k hk1 _ hneed
          refine List.mem_map.mpr ⟨_, this, ?_⟩
          rw [List.getD_eq_getElem?_getD, List.getElem?_eq_getElem (List.idxOf_lt_length_iff.mpr z)]
          exact List.getElem_idxOf _
      have hlst : ∀ {a : Addr} {l : List V}, hid x H14 a = some (.lst l) → H15 a = some (.lst l) := fun {a l} z => hid_get (hid_get (D15 _ _ (hidSeen (by rw [hid_ne nDx]; exact hD14) z (by intro q; cases q))))
      have htup : ∀ {a : Addr} {l : List V}, hid x H14 a = some (.tup l) → H15 a = some (.tup l) := fun {a l} z => hid_get (hid_get (D15 _ _ (hidSeen (by rw [hid_ne nDx]; exact hD14) z (by intro q; cases q))))
      have hrg15 : RowsAt H15 gl rl (d.gates.map (·.rng)) := ⟨hlst hrg14.1, hrg14.2.imp fun a r ⟨pl, a1, a2⟩ => ⟨pl, hlst a1, a2.imp fun _ _ z => htup z⟩⟩
      refine ⟨_, rfl, x, dx, fs, rfl, hx15, no14 _ (by decide +kernel), _, rfl, x, dx, c, gl, Dc, fs, rl, d, it, gt, rt, ot, ga, ra, oa, k, g, es, srcs d ++ doneN d (ord.take i), A, A g.name, rfl, hx15, lc, lg, lp, hc15, hrg15, hD15, hP15.te (TEx.of hid_ex), hg, hin, hN.fewp g hgm, hrp g hgm, hA.gate g hgm, fun v H16 E16 hv => ?_⟩
      have hx16 := E16 _ _ hx15
      have hD16 := E16 _ _ hD15
      have hc16 := hc15.te (TEx.of E16)
      refine ⟨_, rfl, x, C, dx, fs, _, rfl, hx16, W.cl, W.n_pairs, lp, _, rfl, _, _, _, _, rfl, rfl, SqT.of hc16.top, atI_nat (j := 1) rfl, _, rfl, _, _, _, _, rfl, rfl, SqT.of hc16.gts, at_of (j := k) rfl (by rw [List.getElem?_map, hb]; rfl), _, _, _, _, rfl, rfl, SqT.of (E16 _ _ hgt), atI_nat (j := 0) rfl, Dc, _, rfl, .inl ⟨es, .inr g.name, hD16, rfl, sz_lt (by omega), rfl⟩, ?_⟩
      have hT16 : TEx (hid x H16) (hid x (upd H16 Dc (.dK (putK es (.inr g.name) v)))) := fun a xs h => by
        have ha := hid_get h
        have na := hid_neq h
        rw [hid_ne na, upd_ne (ne_of ha hD16 (by intro z; cases z))]; exact ha
      refine ⟨?_, ?_, by rw [upd_ne nDx.symm]; exact hx16, putK es (.inr g.name) v, _, _, _, _, _, upd_same, Nat.le_trans (length_putK _ _ _) (by omega), ?_, rfl⟩
      · intro a o h
        have h1 := hidEx E16 _ _ (E15 _ _ h)
        rw [hid_upd_ne nDx, upd_ne (fun z => by rw [z] at h; rw [nDH] at h; cases h)]; exact h1
      · intro a o h
        have h1 := hidEx (hidEx (x := x) E16) _ _ (D15 _ _ h)
        rw [hid_upd_ne nDx, hid_upd]; exact h1
      · have hdn : doneN d (ord.take (i + 1)) = doneN d (ord.take i) ++ [g.name] := by
          unfold doneN
          rw [take_snoc1 hk1, List.map_append]
          show _ ++ [(gnames d).getD k _] = _
          unfold gnames
          rw [List.getD_eq_getElem?_getD, List.getElem?_map, hg]; rfl
        rw [hdn, ← List.append_assoc]
        refine ((hP15.te (TEx.of (hidEx E16))).te hT16).put ?_
        have hv' : PairAt (hid x H16) v (A g.name) := hv.te fun a xs h => hidSeen hx16 h (by intro z; cases z)
        exact hv'.te hT16
    · rintro σ H15 ⟨E15, D15, hx15, es, y4, y5, y6, y7, y8, hD15, hel15, hP15, rfl⟩
      rw [nats_len, List.take_length] at hP15
      refine ⟨_, rfl, x, C, dx, fs, rfl, hx15, W.cl, W.n_touched, by omega, ?_⟩
      have hlst : ∀ {a : Addr} {l : List V}, hid x H14 a = some (.lst l) → hid x H15 a = some (.lst l) := fun {a l} z => hid_get (D15 _ _ (hidSeen (by rw [hid_ne nDx]; exact hD14) z (by intro q; cases q)))
      have htup : ∀ {a : Addr} {l : List V}, hid x H14 a = some (.tup l) → hid x H15 a = some (.tup l) := fun {a l} z => hid_get (D15 _ _ (hidSeen (by rw [hid_ne nDx]; exact hD14) z (by intro q; cases q)))
      have keep : Ex (hid x H15) (upd H15 x (.ins C dx (putF "_touched" (.int 0) fs))) := fun a o h => by rw [upd_ne (hid_neq h)]; exact hid_get h
      have hslf := keep _ _ (E15 _ _ hsl')
      have kp : ∀ {a : Addr} {o : HO}, hid x H15 a = some o → a ≠ sl0 → hid sl0 (upd H15 x (.ins C dx (putF "_touched" (.int 0) fs))) a = some o := fun {a o} h n => by rw [hid_ne n]; exact keep _ _ h
      have kt : ∀ {a : Addr} {l : List V}, hid x H15 a = some (.tup l) → hid sl0 (upd H15 x (.ins C dx (putF "_touched" (.int 0) fs))) a = some (.tup l) := fun {a l} h => hidSeen hslf (keep _ _ h) (by intro z; cases z)
      have hobx : hid sl0 (upd H15 x (.ins C dx (putF "_touched" (.int 0) fs))) x = some (.ins C dx (putF "_touched" (.int 0) fs)) := hidSeen hslf upd_same (by intro z; cases z)
      have hDf : hid sl0 (upd H15 x (.ins C dx (putF "_touched" (.int 0) fs))) Dc = some (.dK es) := hidSeen hslf (by rw [upd_ne nDx]; exact hD15) (by intro z; cases z)
      refine q3 sl gl Dc rl _ (hidBut (hidPut E15)) nDH ⟨⟨dx, _, hobx, (lk_ne (by decide +kernel)).trans lc, (lk_ne (by decide +kernel)).trans ls, (lk_ne (by decide +kernel)).trans lg, (lk_ne (by decide +kernel)).trans lp, lk_eq, no14.put (by decide +kernel)⟩, kp (hlst hsl14) nsl0, hS'.imp fun _ _ z => kt (E15 _ _ z), ⟨kp (hlst hrg14.1) ngl0, ?_⟩, ⟨es, hDf, ?_⟩, dx, _, ol, ord, hobx, (lk_ne (by decide +kernel)).trans lo, kp (hlst hol14) nol0, hT⟩
      · refine ⟨hrg14.2.1, fun i a r ha hr' => ?_⟩
        obtain ⟨pl, a1, a2⟩ := hrg14.2.2 i a r ha hr'
        exact ⟨pl, kp (hlst a1) (hnr a (List.mem_of_getElem? ha)), a2.imp fun _ _ z => kt (htup z)⟩
      refine (hP15.te fun a l h => kt h).congr fun n => ?_
      rw [List.mem_append, List.mem_append]
      refine or_congr Iff.rfl ⟨fun z => ?_, fun z => ?_⟩
      · obtain ⟨k, hk2, rfl⟩ := List.mem_map.mp z
        have := hT.lt k hk2
        have egl : (gnames d).length = d.gates.length := List.length_map _
        rw [List.getD_eq_getElem?_getD, List.getElem?_eq_getElem (by omega)]
        exact List.getElem_mem _
      · have hlt := List.idxOf_lt_length_iff.mpr z
        have egl : (gnames d).length = d.gates.length := List.length_map _
        refine List.mem_map.mpr ⟨(gnames d).idxOf n, hT.all _ (by omega), ?_⟩
        rw [List.getD_eq_getElem?_getD, List.getElem?_eq_getElem hlt]
        exact List.getElem_idxOf _
end
end G
namespace G
open PySem PySem.Spec PyProof.Rows L2 Evl TL
/-! ## the least of a set of numbers -/
def MinS (o : Option Int) (S : Int → Prop) : Prop := match o with
  | none => ∀ y, ¬ S y
  | some m => S m ∧ ∀ y, S y → m ≤ y
theorem MinS.congr {o : Option Int} {S T : Int → Prop} (h : MinS o S) (e : ∀ y, S y ↔ T y) : MinS o T := by
  cases o with
  | none => exact fun y z => h y ((e y).mpr z)
  | some m => exact ⟨(e m).mp h.1, fun y z => h.2 y ((e y).mpr z)⟩
theorem MinS.uniq {o o' : Option Int} {S : Int → Prop} (h : MinS o S) (h' : MinS o' S) : o = o' := by
  cases o with
  | none =>
    cases o' with
    | none => rfl
    | some m => exact absurd h'.1 (h m)
  | some m =>
    cases o' with
    | none => exact absurd h.1 (h' m)
    | some m' => rw [Int.le_antisymm (h.2 _ h'.1) (h'.2 _ h.1)]
/-- the lesser, where there is one -/
def minO (o : Option Int) (t : Int) : Int := match o with
  | none => t
  | some m => if t < m then t else m
theorem MinS.step {o : Option Int} {t : Int} {S A : Int → Prop} (h : MinS o S) (hA : MinS (some t) A) (c : Int) : MinS (some (minO o (t - c))) fun y => S y ∨ ∃ u, A u ∧ y = u - c := by
  obtain ⟨a1, a2⟩ := hA
  cases o with
  | none =>
    refine ⟨.inr ⟨t, a1, rfl⟩, fun y z => ?_⟩
    show t - c ≤ y
    rcases z with z | ⟨u, hu, rfl⟩
    · exact absurd z (h y)
    · have := a2 u hu; omega
  | some m =>
    obtain ⟨h1, h2⟩ := h
    by_cases lt : t - c < m
    · have e : minO (some m) (t - c) = t - c := if_pos lt
      rw [e]
      refine ⟨.inr ⟨t, a1, rfl⟩, fun y z => ?_⟩
      rcases z with z | ⟨u, hu, rfl⟩
      · have := h2 y z; omega
      · have := a2 u hu; omega
    · have e : minO (some m) (t - c) = m := if_neg lt
      rw [e]
      refine ⟨.inl h1, fun y z => ?_⟩
      rcases z with z | ⟨u, hu, rfl⟩
      · exact h2 y z
      · have := a2 u hu; omega
def optI : Option Int → V
  | none => .non
  | some i => .int i
/-! ## when a net must have changed: the limits, less what is lost on the ways ahead -/
inductive Ah (d : CircD) (L : Str → Option Int) : Str → Int → Prop
  | lim {n : Str} {y : Int} : L n = some y → Ah d L n y
  | gate {g : GateD} {k : Nat} {n : Str} {r : Pr} {t : Int} : g ∈ d.gates → g.pins[k]? = some n → g.rng[k]? = some r → Ah d L g.name t → Ah d L n (t - r.2)
/-- what the gates of ps, and the first k pins of g, bring to n -/
def Got (d : CircD) (L : Str → Option Int) (ps : List GateD) (n : Str) (y : Int) : Prop := L n = some y ∨ ∃ g ∈ ps, ∃ (k : Nat) (r : Pr) (t : Int), g.pins[k]? = some n ∧ g.rng[k]? = some r ∧ Ah d L g.name t ∧ y = t - r.2
def GotK (d : CircD) (L : Str → Option Int) (ps : List GateD) (g : GateD) (j : Nat) (n : Str) (y : Int) : Prop := Got d L ps n y ∨ ∃ (k : Nat) (r : Pr) (t : Int), k < j ∧ g.pins[k]? = some n ∧ g.rng[k]? = some r ∧ Ah d L g.name t ∧ y = t - r.2
theorem got_all {d : CircD} {L : Str → Option Int} {ps : List GateD} (sub : ∀ g ∈ ps, g ∈ d.gates) {n : Str} (h : ∀ g ∈ d.gates, n ∈ g.pins → g ∈ ps) (y : Int) : Got d L ps n y ↔ Ah d L n y := by
  constructor
  · rintro (h1 | ⟨g, hg, k, r, t, h1, h2, h3, rfl⟩)
    · exact .lim h1
    · exact .gate (sub g hg) h1 h2 h3
  · intro z
    cases z with
    | lim h1 => exact .inl h1
    | @gate g k _ r t hg h1 h2 h3 => exact .inr ⟨g, h g hg (List.mem_of_getElem? h1), k, r, t, h1, h2, h3, rfl⟩
theorem gotk_zero {d : CircD} {L : Str → Option Int} {ps : List GateD} {g : GateD} {n : Str} (y : Int) : Got d L ps n y ↔ GotK d L ps g 0 n y :=
  ⟨.inl, fun z => z.elim id fun ⟨k, _, _, h, _⟩ => absurd h (Nat.not_lt_zero _)⟩
theorem gotk_end {d : CircD} {L : Str → Option Int} {ps : List GateD} {g : GateD} {n : Str} (y : Int) : GotK d L ps g g.pins.length n y ↔ Got d L (ps ++ [g]) n y := by
  constructor
  · rintro ((h | ⟨g', hg, z⟩) | ⟨k, r, t, hk, h1, h2, h3, e⟩)
    · exact .inl h
    · exact .inr ⟨g', List.mem_append_left _ hg, z⟩
    · exact .inr ⟨g, List.mem_append_right _ (List.mem_singleton.mpr rfl), k, r, t, h1, h2, h3, e⟩
  · rintro (h | ⟨g', hg, k, r, t, h1, h2, h3, e⟩)
    · exact .inl (.inl h)
    · rcases List.mem_append.mp hg with m | m
      · exact .inl (.inr ⟨g', m, k, r, t, h1, h2, h3, e⟩)
      · rw [List.mem_singleton.mp m] at h1 h2 h3
        exact .inr ⟨k, r, t, (List.getElem?_eq_some_iff.mp h1).1, h1, h2, h3, e⟩
theorem gotk_same {d : CircD} {L : Str → Option Int} {ps : List GateD} {g : GateD} {j : Nat} {p n : Str} {r : Pr} (hp : g.pins[j]? = some p) (hr : g.rng[j]? = some r) (e : n = p) (y : Int) : (GotK d L ps g j n y ∨ ∃ u, Ah d L g.name u ∧ y = u - r.2) ↔ GotK d L ps g (j + 1) n y := by
  subst e
  constructor
  · rintro ((h | ⟨k, r', t, hk, z⟩) | ⟨u, hu, e⟩)
    · exact .inl h
    · exact .inr ⟨k, r', t, by omega, z⟩
    · exact .inr ⟨j, r, u, by omega, hp, hr, hu, e⟩
  · rintro (h | ⟨k, r', t, hk, h1, h2, h3, e⟩)
    · exact .inl (.inl h)
    · by_cases ek : k = j
      · subst ek
        rw [hr] at h2; cases h2
        exact .inr ⟨t, h3, e⟩
      · exact .inl (.inr ⟨k, r', t, by omega, h1, h2, h3, e⟩)
theorem gotk_other {d : CircD} {L : Str → Option Int} {ps : List GateD} {g : GateD} {j : Nat} {p n : Str} (hp : g.pins[j]? = some p) (e : n ≠ p) (y : Int) : GotK d L ps g j n y ↔ GotK d L ps g (j + 1) n y := by
  constructor
  · rintro (h | ⟨k, r', t, hk, z⟩)
    · exact .inl h
    · exact .inr ⟨k, r', t, by omega, z⟩
  · rintro (h | ⟨k, r', t, hk, h1, z⟩)
    · exact .inl h
    · by_cases ek : k = j
      · subst ek
        rw [hp] at h1; cases h1
        exact absurd rfl e
      · exact .inr ⟨k, r', t, by omega, h1, z⟩
/-- where nothing lies ahead of g, its pins bring nothing -/
theorem gotk_none {d : CircD} {L : Str → Option Int} {ps : List GateD} {g : GateD} (h : ∀ y, ¬ Ah d L g.name y) {n : Str} (y : Int) : Got d L ps n y ↔ Got d L (ps ++ [g]) n y := by
  constructor
  · rintro (h | ⟨g', hg, z⟩)
    · exact .inl h
    · exact .inr ⟨g', List.mem_append_left _ hg, z⟩
  · rintro (h1 | ⟨g', hg, k, r, t, h1, h2, h3, e⟩)
    · exact .inl h1
    · rcases List.mem_append.mp hg with m | m
      · exact .inr ⟨g', m, k, r, t, h1, h2, h3, e⟩
      · rw [List.mem_singleton.mp m] at h3
        exact absurd h3 (h t)
/-- the gates of the order, from its end -/
def revG (d : CircD) (ord : List Nat) (i : Nat) : List GateD := ((ord.reverse.take i).map fun k => d.gates[k]?).filterMap id
theorem revG_snoc {d : CircD} {ord : List Nat} {i k : Nat} {g : GateD} (hk : ord.reverse[i]? = some k) (hg : d.gates[k]? = some g) : revG d ord (i + 1) = revG d ord i ++ [g] := by
  unfold revG
  rw [take_snoc1 hk, List.map_append, List.filterMap_append]
  simp [hg]
theorem revG_mem {d : CircD} {ord : List Nat} {i : Nat} {g : GateD} (h : g ∈ revG d ord i) : g ∈ d.gates := by
  unfold revG at h
  obtain ⟨o, h1, h2⟩ := List.mem_filterMap.mp h
  obtain ⟨k, _, rfl⟩ := List.mem_map.mp h1
  exact List.mem_of_getElem? h2
theorem revG_in {d : CircD} {ord : List Nat} {i j k : Nat} {g : GateD} (hj : j < i) (hk : ord.reverse[j]? = some k) (hg : d.gates[k]? = some g) : g ∈ revG d ord i := by
  unfold revG
  refine List.mem_filterMap.mpr ⟨some g, List.mem_map.mpr ⟨k, ?_, hg⟩, rfl⟩
  exact List.mem_of_getElem? (i := j) (by rw [List.getElem?_take, if_pos hj]; exact hk)
/-- when a gate is come to from the end, all that read it are done -/
theorem revG_before {d : CircD} (N : Nets d) {ord : List Nat} (T : Topo (needN d) ord) {i k : Nat} {g : GateD} (hk : ord.reverse[i]? = some k) (hg : d.gates[k]? = some g) : ∀ g' ∈ d.gates, g.name ∈ g'.pins → g' ∈ revG d ord i := by
  intro g' hg' hp
  have hnd : (gnames d).Nodup := (List.nodup_append.mp N.nd).2.1
  have hgn : (gnames d)[k]? = some g.name := by unfold gnames; rw [List.getElem?_map, hg]; rfl
  have hix : (gnames d).idxOf g.name = k := by
    obtain ⟨h1, h2⟩ := List.getElem?_eq_some_iff.mp hgn
    rw [← h2, hnd.idxOf_getElem]
  obtain ⟨k', hk', e'⟩ := List.getElem_of_mem hg'
  have hg'2 : d.gates[k']? = some g' := List.getElem?_eq_some_iff.mpr ⟨hk', e'⟩
  have hin : k' ∈ ord := T.all k' (by unfold needN; rw [List.length_map]; exact hk')
  obtain ⟨j, hj, ej⟩ := List.getElem_of_mem hin
  have hneed : k ∈ (needN d).getD k' [] := by
    unfold needN
    rw [List.getD_eq_getElem?_getD, List.getElem?_map, hg'2]
    exact List.mem_map.mpr ⟨g.name, List.mem_filter.mpr ⟨hp, decide_eq_true (List.mem_of_getElem? hgn)⟩, hix⟩
  have hcl := T.closed j k' (List.getElem?_eq_some_iff.mpr ⟨hj, ej⟩) k hneed
  obtain ⟨m, hm, em⟩ := List.getElem_of_mem hcl
  rw [List.length_take] at hm
  rw [List.getElem_take] at em
  have hi : i < ord.length := by have := (List.getElem?_eq_some_iff.mp hk).1; rw [List.length_reverse] at this; exact this
  have hr := hk
  rw [List.getElem?_reverse hi] at hr
  obtain ⟨hl, el⟩ := List.getElem?_eq_some_iff.mp hr
  have hmi : m = ord.length - 1 - i := by
    have : ord[m]'(by omega) = ord[ord.length - 1 - i]'hl := by rw [em, el]
    exact (List.getElem_inj T.nd).mp this
  refine revG_in (j := ord.length - 1 - j) (by omega) ?_ hg'2
  rw [List.getElem?_reverse (by omega)]
  have : ord.length - 1 - (ord.length - 1 - j) = j := by omega
  rw [this]
  exact List.getElem?_eq_some_iff.mpr ⟨hj, ej⟩
theorem revG_full {d : CircD} {ord : List Nat} (T : Topo (needN d) ord) : ∀ g ∈ d.gates, g ∈ revG d ord ord.length := by
  intro g hg
  obtain ⟨k, hk, e⟩ := List.getElem_of_mem hg
  have hin : k ∈ ord := T.all k (by unfold needN; rw [List.length_map]; exact hk)
  obtain ⟨j, hj, ej⟩ := List.getElem_of_mem (List.mem_reverse.mpr hin)
  exact revG_in (j := j) (by rw [List.length_reverse] at hj; exact hj) (List.getElem?_eq_some_iff.mpr ⟨hj, ej⟩) (List.getElem?_eq_some_iff.mpr ⟨hk, e⟩)
theorem no_self {d : CircD} (N : Nets d) {g : GateD} (hg : g ∈ d.gates) {p : Str} (hp : p ∈ g.pins) : g.name ≠ p := by
  intro e
  obtain ⟨rank, hr⟩ := N.rank
  have := hr g hg p hp (by rw [← e]; exact List.mem_map.mpr ⟨g, hg, rfl⟩)
  rw [e] at this
  exact Nat.lt_irrefl _ this
end G
namespace G
open PySem PySem.Spec PyProof.Rows L2 Evl TL
section
variable {P : Program} {w : World} {K : PySem.W.Frag} {mg : Str → Option Value} {base : Heap}
theorem HoldsV.len {es : List (Key × V)} {ns : List Str} {v : Str → V} (h : HoldsV es ns v) (nd : ns.Nodup) : es.length = ns.length := by
  obtain ⟨ks, k1, k2, k3⟩ := h.keys
  have e1 : es.length = ks.length := by rw [← List.length_map (f := Prod.fst), k1, List.length_map]
  rw [e1, (perm_mem k2 nd k3).length_eq]
theorem HoldsV.fn {es : List (Key × V)} {ns : List Str} {v v' : Str → V} (h : HoldsV es ns v) (e : ∀ x ∈ ns, v x = v' x) : HoldsV es ns v' :=
  ⟨fun x => by rw [h.val x]; by_cases z : x ∈ ns
               · rw [if_pos z, if_pos z, e x z]
               · rw [if_neg z, if_neg z], h.keys⟩
theorem HoldsV.keyed {es : List (Key × V)} {ns : List Str} {v : Str → V} (h : HoldsV es ns v) : ∃ ks : List Str, es.map (fun kv => kV kv.1) = ks.map V.str ∧ ks.Nodup ∧ (∀ x, x ∈ ks ↔ x ∈ ns) ∧ ∀ (i : Nat) (k : Key) (y : V), es[i]? = some (k, y) → ∃ x, ks[i]? = some x ∧ k = .inr x := by
  obtain ⟨ks, k1, k2, k3⟩ := h.keys
  refine ⟨ks, ?_, k2, k3, fun i k y hi => ?_⟩
  · have : es.map (fun kv => kV kv.1) = (es.map (·.1)).map kV := by rw [List.map_map]; rfl
    rw [this, k1, List.map_map]; rfl
  · have : (es.map (·.1))[i]? = some k := by rw [List.getElem?_map, hi]; rfl
    rw [k1, List.getElem?_map] at this
    cases e : ks[i]? with
    | none => rw [e] at this; cases this
    | some x => rw [e] at this; exact ⟨x, rfl, (Option.some.inj this).symm⟩
/-- the limits, as a dict -/
structure LimAt (H : Hp) (la : Addr) (L : Str → Option Int) (nets : List Str) : Prop where
  d : ∃ ls lns, H la = some (.dK ls) ∧ HoldsV ls lns (fun x => optI (L x)) ∧ (∀ x, x ∈ lns ↔ (L x).isSome = true) ∧ ∀ x ∈ lns, x ∈ nets
theorem LimAt.ex {H H' : Hp} {la : Addr} {L : Str → Option Int} {nets : List Str} (e : Ex H H') (h : LimAt H la L nets) : LimAt H' la L nets := by
  obtain ⟨ls, lns, h1, h2⟩ := h.d
  exact ⟨ls, lns, e _ _ h1, h2⟩
theorem LimAt.get {H : Hp} {la : Addr} {L : Str → Option Int} {nets : List Str} (h : LimAt H la L nets) (n : Str) : ∃ o, DGet H la (kV (Sum.inr n)) o ∧ o.getD .non = optI (L n) := by
  obtain ⟨ls, lns, h1, h2, h3, _⟩ := h.d
  refine ⟨_, DGet.k (k := Sum.inr n) h1, ?_⟩
  rw [h2.val n]
  by_cases z : n ∈ lns
  · rw [if_pos z]; rfl
  · rw [if_neg z]
    cases e : L n with
    | none => rfl
    | some y => exact absurd ((h3 n).mpr (by rw [e]; rfl)) z
theorem namesD_mem {d : CircD} {n : Str} : n ∈ namesD d ↔ n ∈ srcs d ++ gnames d := by
  unfold namesD srcs gnames
  simp only [List.mem_append]
  constructor <;> intro z <;> rcases z with (z | z) | z <;> simp [z]
def spReq (C : Addr) : Sp := fun vs H Q _ => ∃ (x c sl gl Dc la : Addr) (sa rl : List Addr) (d : CircD) (S : List Pr) (A : Str → Option Pr) (it gt rt ot : Addr) (ga ra oa : List Addr) (L : Str → Option Int), vs = [.ref x, .ref la] ∧ ArrAt C H x c sl gl Dc sa rl d S A ∧ CircAt H c d it gt rt ot ga ra oa ∧ Nets d ∧ (∀ g ∈ d.gates, g.rng.length = g.pins.length) ∧
  LimAt H la L (srcs d ++ gnames d) ∧ la ≠ Dc ∧ (∀ n ∈ srcs d ++ gnames d, n.length ≤ 1000) ∧
  ∀ (q : Addr) (es : List (Key × V)) (T : Str → Option Int) (H' : Hp), Ex H H' → H q = none → H' q = some (.dK es) → HoldsV es (srcs d ++ gnames d) (fun n => optI (T n)) → (∀ n ∈ srcs d ++ gnames d, MinS (T n) (Ah d L n)) → Q (.ref q) H'
structure TxtR (mg : Str → Option Value) : Prop where
  list : mg "list" = none
  reversed : mg "reversed" = none
  zip : mg "zip" = none
theorem sc_Arrivals_required : FnScope ["self", "limits", "net", "times", "g", "name", "_", "nets", "high", "time"] ["self", "limits"] (defScope s_Arrivals_required) := ⟨rfl, rfl, rfl, by decide +kernel, rfl, by decide +kernel, by decide +kernel⟩
theorem ok_Arrivals_required {C U : Addr} {f : Addr} {fd : FuncData} (F : Fun K "required" "Arrivals.required" s_Arrivals_required f fd) (W : Cl_Arrivals K mg C) (T : TxtR mg) (C1 : HasX P w K mg base 2 "check_nets" ["circuit", "names"] (spCheck U)) : FnOk P w K mg base (L2.CX P w) 3 f fd ["self", "limits"] (spReq C) := by
  obtain ⟨f_check_nets, d_check_nets, G_check_nets, g_check_nets, k_check_nets, b_check_nets⟩ := C1
  refine F.okX sc_Arrivals_required (fun vs H Q E h => ?_) (fun cdv Ar outer s H vs Q E hr h => ?_)
  · obtain ⟨x, c, sl, gl, Dc, la, sa, rl, d, S, A, it, gt, rt, ot, ga, ra, oa, L, rfl, _⟩ := h
    rfl
  · obtain ⟨x, c, sl, gl, Dc, la, sa, rl, d, S, A, it, gt, rt, ot, ga, ra, oa, L, rfl, hA, hc, hN, hrp, hL, nla, hlen, q⟩ := h
    refine ⟨_, (pss_cons (ps_expr (pe_call G_check_nets (hr.mono (by omega)) (by rfl) g_check_nets k_check_nets b_check_nets .nil (passes_call (takes_of rfl rfl rfl rfl) fun _ _ _ _ h => h) (pa_cons (pe_fld (pv 0) rfl) (pa_cons (pe_callTy (call_list_dK rfl) (by rfl) T.list (by decide +kernel) (pa_cons (pv 1) pa_nil)) pa_nil))))
    (pss_cons (ps_lock (ps_setDc (i := 3) (own := [("net", 2)]) (g := gName 2) (tt := tYes) rfl sc_Arrivals_required.nd rfl rfl (sw_trueD rfl rfl rfl (by decide +kernel)) (pi_keys (pe_fld (pv 0) rfl)) (blkOk_by (N := ["self", "limits", "net", "times", "g", "name", "_", "nets", "high", "time"]) (sc := defScope s_Arrivals_required) (own := [("net", 2)]) (by decide +kernel)) (fun _ _ _ _ _ => (pg_name (i := 2) sc_Arrivals_required.nd rfl (.inl rfl))) (fun _ _ _ _ _ => pts_nil) (fun _ _ _ _ _ => (pv 2)) (fun _ _ _ _ _ => (pe_dget1 (hu_of hr) (pv 1) (pv 2) ⟨rfl, rfl, rfl, rfl⟩))))
    (pss_cons (ps_for (passes_of rfl) rfl (pi_reversed (by rfl) T.reversed (pa_cons (pe_fld (pv 0) rfl) pa_nil)) (pg_name (i := 4) sc_Arrivals_required.nd rfl (.inl rfl))
      (pss_cons (ps_asg (pe_ix ix_tup (pe_ix ix_tup (pe_fld (pv 0) rfl) pe_int (fun _ _ => rfl)) (pv 4) (fun _ _ => rfl)) (pg_tup rfl (pgs_cons (pg_name (i := 5) sc_Arrivals_required.nd rfl (.inl rfl)) (pgs_cons (pg_name (i := 6) sc_Arrivals_required.nd rfl (.inl rfl)) (pgs_cons (pg_name (i := 7) sc_Arrivals_required.nd rfl (.inl rfl)) (pgs_cons (pg_name (i := 6) sc_Arrivals_required.nd rfl (.inl rfl)) pgs_nil))))))
      (pss_one (ps_if (pt_cmpR op_notN (pe_dget (hu_of hr) (pv 3) (pv 5) (fun _ _ => rfl)) pe_non (nomark _))
        (pss_one (ps_for (passes_of rfl) rfl (pi_zipM true false (by rfl) T.zip (pa_cons (pv 7) (pa_cons (pe_ix ix_list (pe_fld (pv 0) rfl) (pv 4) (fun _ _ => rfl)) pa_nil))) (pg_tup rfl (pgs_cons (pg_name (i := 2) sc_Arrivals_required.nd rfl (.inl rfl)) (pgs_cons (pg_tup rfl (pgs_cons (pg_name (i := 6) sc_Arrivals_required.nd rfl (.inl rfl)) (pgs_cons (pg_name (i := 8) sc_Arrivals_required.nd rfl (.inl rfl)) pgs_nil))) pgs_nil)))
          (pss_cons (ps_set (i := 9) sc_Arrivals_required.nd rfl (.inl rfl) (pe_op op_sub (pe_dget (hu_of hr) (pv 3) (pv 5) (fun _ _ => rfl)) (pv 8)))
          (pss_one (ps_if (PW.pt (pw_or (pt_cmpR op_isN (pe_dget (hu_of hr) (pv 3) (pv 2) (fun _ _ => rfl)) pe_non (nomark _)) (pw_or1 (pt_cmpR op_gt (pe_dget (hu_of hr) (pv 3) (pv 2) (fun _ _ => rfl)) (pv 9) (nomark _)))))
            (pss_one (ps_asg (pv 9) (pg_sub (pv 3) (pv 2) (set_dict (hu_of hr)))))
            pss_nil)))))
        pss_nil))))
    (pss_one (ps_ret (pv 3)))))), ?_⟩
    obtain ⟨dx, fs, h1, h2, h3, h4, h5, h6, h7⟩ := hA.ob
    obtain ⟨dx', fs', ol, ord, o1, o2, o3, hT⟩ := hA.od
    have eo : dx = dx' ∧ fs = fs' := by rw [h1] at o1; cases o1; exact ⟨rfl, rfl⟩
    obtain ⟨rfl, rfl⟩ := eo
    obtain ⟨es0, hD0, hP0⟩ := hA.ps
    obtain ⟨v0, hv0, _⟩ := hP0.ex
    obtain ⟨ks, k1, k2, k3, k4⟩ := hv0.keyed
    obtain ⟨ls, lns, l1, l2, l3, l4⟩ := id hL.d
    obtain ⟨lks, m1, m2, m3, _⟩ := l2.keyed
    have hs := hN.fews
    have hg16 := hN.few
    have hnets : (srcs d ++ gnames d).length ≤ 32 := by rw [List.length_append]; unfold gnames; rw [List.length_map]; omega
    have hel0 : es0.length ≤ 32 := by rw [hv0.len hN.nd]; exact hnets
    have hksl : ks.length = es0.length := by
      have := congrArg List.length k1
      rw [List.length_map, List.length_map] at this
      exact this.symm
    have hmem : ∀ n, n ∈ namesD d ↔ n ∈ srcs d ++ gnames d := fun n => namesD_mem
    have hnm : (namesD d).length ≤ 1000 := by
      unfold namesD
      unfold srcs at hs
      rw [List.length_append, List.length_map] at hs
      rw [List.length_append, List.length_append, List.length_map, List.length_map]
      omega
    refine ⟨_, rfl, x, C, dx, fs, _, rfl, h1, W.cl, W.n_circuit, h2, _, rfl, la, _, rfl, l1, fun l nl => ?_⟩
    rw [m1]
    refine ⟨c, l, d, lks, it, gt, rt, ot, ga, ra, oa, rfl, hc.te (TEx.new nl), hnm, upd_same, fun n hn => hlen n (l4 n ((m3 n).mp hn)), fun _ H1 E1' => ?_, fun hbad => ?_⟩
    rotate_left
    · obtain ⟨n, hn, hno⟩ := hbad
      exact absurd ((hmem n).mpr (l4 n ((m3 n).mp hn))) hno
    have E1 := (Ex.new nl).trans E1'
    clear E1'
    -- the new dict
    have hD1 := E1 _ _ hD0
    have hx1 := E1 _ _ h1
    have hc1 := hc.te (TEx.of E1)
    refine ⟨Dc, .dK es0, hD1, trivial, fun od => ?_⟩
    have hxD : x ≠ Dc := ne_of hx1 hD1 (by intro z; cases z)
    have hla1 : upd H1 Dc (.frz od (.dK es0)) la = some (.dK ls) := by rw [upd_ne nla]; exact E1 _ _ l1
    have hL1 : LimAt (upd H1 Dc (.frz od (.dK es0))) la L (srcs d ++ gnames d) := ⟨ls, lns, hla1, l2, l3, l4⟩
    have hfz : upd H1 Dc (.frz od (.dK es0)) Dc = some (.frz od (.dK es0)) := upd_same
    have hxL : upd H1 Dc (.frz od (.dK es0)) x = some (.ins C dx fs) := by rw [upd_ne hxD]; exact hx1
    have back : ∀ b o, b ≠ Dc → H1 b = some o → upd H1 Dc (.frz od (.dK es0)) b = some o := fun b o n h => by rw [upd_ne n]; exact h
    have nonel : ∀ b, upd H1 Dc (.frz od (.dK es0)) b = none → H1 b = none ∧ b ≠ Dc := fun b h => by
      have n : b ≠ Dc := fun z => by rw [z, upd_same] at h; cases h
      rw [upd_ne n] at h; exact ⟨h, n⟩
    generalize upd H1 Dc (.frz od (.dK es0)) = HL at *
    refine ⟨_, rfl, x, C, dx, fs, _, rfl, hxL, W.cl, W.n_pairs, h5, Dc, od, rfl, .inl ⟨es0, hfz, fun Tm nTm => wk_it walk_keys
      (fun j H' => Ex HL H' ∧ ∃ es : List (Key × V), H' Tm = some (.dK es) ∧ es.length ≤ j ∧ HoldsV es (ks.take j) (fun n => optI (L n))) ⟨Ex.new nTm, [], upd_same, Nat.le_refl _, HoldsV.nil⟩ (fun j H' _ g => g.1 _ _ hfz) ?_ ?_⟩⟩
    · rintro j y H2 H3 hj ⟨E2, es, hD, hel, hP⟩ ⟨rfl, k, y', hkv, rfl⟩
      obtain ⟨n, hn, rfl⟩ := k4 _ _ _ hkv
      refine ⟨rfl, tYes_in ?_⟩
      simp only [wipe, _root_.L2.start, List.map_cons, List.map_nil, List.length_cons, List.length_nil, Nat.reduceAdd, Nat.reduceSub, List.replicate_succ, List.replicate_zero, List.cons_append, List.nil_append, List.set_cons_zero, List.set_cons_succ]
      obtain ⟨o, ho, eo⟩ := (hL1.ex E2).get n
      have hla2 := E2 _ _ hla1
      refine ⟨_, rfl, _, rfl, la, rfl, .inl ⟨ls, .inl hla2⟩, _, rfl, o, ho, ?_⟩
      have hjk : j < ks.length := by rw [hksl]; exact hj
      refine ⟨es, .inr n, rfl, hD, sz_lt (by omega), E2.mut nTm, _, upd_same, Nat.le_trans (length_putK _ _ _) (by omega), ?_⟩
      rw [eo, take_snoc1 hn]
      refine (hP.put n (optI (L n))).fn fun z _ => ?_
      by_cases e : z = n
      · rw [if_pos e, e]
      · rw [if_neg e]
    rintro H2 ⟨E2, es2, hD2, hel2, hP2⟩
    have hfz2 := E2 _ _ hfz
    refine ⟨hfz2, ?_⟩
    have nT1 := nonel Tm nTm
    have E3 : Ex H1 (upd H2 Dc (.dK es0)) := fun b o h => by
      by_cases n : b = Dc
      · rw [n] at h ⊢
        rw [upd_same, ← hD1, h]
      · rw [upd_ne n]; exact E2 _ _ (back b o n h)
    have hTm : upd H2 Dc (.dK es0) Tm = some (.dK es2) := by rw [upd_ne nT1.2]; exact hD2
    generalize upd H2 Dc (.dK es0) = H3 at *
    have hP3 : HoldsV es2 (srcs d ++ gnames d) fun n => optI (L n) := by
      have e : es0.length = ks.length := hksl.symm
      rw [e, List.take_length] at hP2
      exact hP2.congr k3
    have nTH : H Tm = none := by
      cases e : H Tm with
      | none => rfl
      | some o => rw [E1 _ _ e] at nT1; exact absurd nT1.1 (by simp)
    have E03 := E1.trans E3
    clear hla1 hL1 hfz hxL back nonel E2 hD2 hel2 hP2 hfz2 hel0 hksl nTm
    have hordl : ord.length ≤ 16 := by
      have := nodup_len _ _ hT.nd hT.lt
      unfold needN at this
      rw [List.length_map] at this
      omega
    -- the gates from the end
    refine ⟨_, rfl, x, C, dx, fs, _, rfl, E3 _ _ hx1, W.cl, W.n_order, o2, ol, _, rfl, SqL.of (E03 _ _ o3), for_it walk_rev
      (fun i σ H' => Ex H H' ∧ TEx H3 H' ∧ ∃ (es : List (Key × V)) (T : Str → Option Int) (y2 y4 y5 y6 y7 y8 y9 : Option V), H' Tm = some (.dK es) ∧ HoldsV es (srcs d ++ gnames d) (fun n => optI (T n)) ∧ (∀ n ∈ srcs d ++ gnames d, MinS (T n) (Got d L (revG d ord i) n)) ∧
        σ = [some (.ref x), some (.ref la), y2, some (.ref Tm), y4, y5, y6, y7, y8, y9]) ⟨E03, .refl _, es2, L, _, _, _, _, _, _, _, hTm, hP3, ?_, rfl⟩ (fun i σ H' _ g => SqL.of (g.1 _ _ o3)) ?_ ?_⟩
    · intro n hn
      show MinS (L n) _
      cases e : L n with
      | none =>
        rintro y (z | ⟨g, hg, _⟩)
        · rw [e] at z; cases z
        · exact absurd hg (by show g ∉ revG d ord 0; unfold revG; rw [List.take_zero]; simp)
      | some m =>
        refine ⟨.inl e, fun y z => ?_⟩
        rcases z with z | ⟨g, hg, _⟩
        · rw [e] at z; cases z; exact Int.le_refl _
        · exact absurd hg (by show g ∉ revG d ord 0; unfold revG; rw [List.take_zero]; simp)
    · rintro i y σ H5 H4 hi ⟨E4, T4, es, T, y2, y4, y5, y6, y7, y8, y9, hD4, hP4, hM4, rfl⟩ ⟨rfl, hy⟩
      rw [nats_len] at hi hy
      obtain ⟨k, hk1, rfl⟩ := nats_get hy
      have hrev : ord.reverse[i]? = some k := by rw [List.getElem?_reverse hi]; exact hk1
      have hkl : k < d.gates.length := by
        have := hT.lt k (List.mem_of_getElem? hk1)
        unfold needN at this
        rwa [List.length_map] at this
      obtain ⟨g, hg⟩ : ∃ g, d.gates[k]? = some g := ⟨_, List.getElem?_eq_getElem hkl⟩
      have hgm := List.mem_of_getElem? hg
      have hc4 := hc.te (TEx.of E4)
      obtain ⟨b, hb, t, pt, rgt, rla, hgt, htab, hpt, _⟩ := hc4.gates.of hg
      have hrw4 := hA.rg.ex E4
      obtain ⟨ra', hra, pl, hpl, hplA⟩ := hrw4.2.of (show (d.gates.map (·.rng))[k]? = some g.rng by rw [List.getElem?_map, hg]; rfl)
      have hx4 := E4 _ _ h1
      have hgn : g.name ∈ srcs d ++ gnames d := List.mem_append_right _ (List.mem_map.mpr ⟨g, hgm, rfl⟩)
      have hMg := (hM4 _ hgn).congr (got_all (fun g' h => revG_mem h) (revG_before hN hT hrev hg))
      refine ⟨_, rfl, x, C, dx, fs, _, rfl, hx4, W.cl, W.n_circuit, h2, _, _, _, _, rfl, rfl, SqT.of hc4.top, atI_nat (j := 1) rfl, _, rfl, _, _, _, _, rfl, rfl, SqT.of hc4.gts, at_of (j := k) rfl (by rw [List.getElem?_map, hb]; rfl), b, _, rfl, SqT.of hgt, rfl, _, _, rfl, _, _, rfl, _, _, rfl, _, _, rfl, rfl, ?_⟩
      refine ⟨_, rfl, _, rfl, Tm, _, rfl, hP4.at_ hD4 hgn, rfl, _, rfl, ?_⟩
      cases hTg : T g.name with
      | none =>
        rw [hTg] at hMg
        refine iteF ⟨E4, T4, es, T, _, _, _, _, _, _, _, hD4, hP4, fun n hn => ?_, rfl⟩
        rw [revG_snoc hrev hg]
        exact (hM4 n hn).congr (gotk_none hMg)
      | some tg =>
        rw [hTg] at hMg
        refine iteT ⟨_, rfl, _, rfl, x, C, dx, fs, _, rfl, hx4, W.cl, W.n_ranges, h4, _, rfl, _, _, _, _, rfl, rfl, SqL.of hrw4.1, at_of (j := k) rfl (by rw [List.getElem?_map, hra]; rfl), pt, ra', g.pins.map V.str, pl.map V.ref, rfl, SqT.of hpt, SqL.of hpl, for_it (walk_zipM (n := g.pins.length) (by rw [List.length_map]) (by rw [List.length_map, hplA.1, hrp g hgm]))
          (fun j σ H' => Ex H H' ∧ TEx H4 H' ∧ H' ra' = some (.lst (pl.map V.ref)) ∧ ∃ (es : List (Key × V)) (T : Str → Option Int) (y2 y6 y8 y9 : Option V), H' Tm = some (.dK es) ∧ HoldsV es (srcs d ++ gnames d) (fun n => optI (T n)) ∧ T g.name = some tg ∧ (∀ n ∈ srcs d ++ gnames d, MinS (T n) (GotK d L (revG d ord i) g j n)) ∧
            σ = [some (.ref x), some (.ref la), y2, some (.ref Tm), some (.int (k : Int)), some (.str g.name), y6, some (.ref pt), y8, y9]) ⟨E4, .refl _, hpl, es, T, _, _, _, _, hD4, hP4, hTg, fun n hn => (hM4 n hn).congr gotk_zero, rfl⟩ (fun j σ H' _ z => ⟨SqT.of (z.2.1 _ _ hpt), SqL.of z.2.2.1⟩) ?_ ?_⟩
        · rintro j xv σ H5 H6 hj ⟨E5, T5, hpl5, es, T, y2, y6, y8, y9, hD5, hP5, hTg5, hM5, rfl⟩ ⟨T1, x0, y0, rfl, nT, rfl, hx0, hy0⟩
          obtain ⟨n, hn⟩ : ∃ n, g.pins[j]? = some n := ⟨_, List.getElem?_eq_getElem hj⟩
          obtain rfl : x0 = .str n := by
            have : (g.pins.map V.str)[j]? = some x0 := hx0
            rw [List.getElem?_map, hn] at this
            cases this; rfl
          obtain ⟨rb, hrb, rfl⟩ := refs_get (show (pl.map V.ref)[j]? = some y0 from hy0)
          obtain ⟨r, hr', hrI⟩ := hplA.at_ hrb
          have E6 : Ex H5 (upd H5 T1 (.tup [.str n, .ref rb])) := Ex.new nT
          have hT1 : upd H5 T1 (.tup [.str n, .ref rb]) T1 = some (.tup [.str n, .ref rb]) := upd_same
          generalize upd H5 T1 (.tup [.str n, .ref rb]) = H6 at *
          have hrI6 : IntsAt H6 rb r := (hrI.te T5).te (TEx.of E6)
          have hnn : n ∈ srcs d ++ gnames d := hN.pins g hgm n (List.mem_of_getElem? hn)
          have nself := no_self hN hgm (List.mem_of_getElem? hn)
          have hD6 := E6 _ _ hD5
          refine ⟨T1, _, rfl, SqT.of hT1, rfl, _, _, rfl, _, _, rfl, rb, _, rfl, SqT.of hrI6, rfl, _, _, rfl, _, _, rfl, rfl, rfl, ?_⟩
          have hv : DGet H6 Tm (kV (Sum.inr g.name)) (some (.int tg)) := by
            have := hP5.at_ hD6 hgn
            rw [hTg5] at this; exact this
          have hvn : DGet H6 Tm (kV (Sum.inr n)) (some (optI (T n))) := hP5.at_ hD6 hnn
          have hel : es.length ≤ 32 := by rw [hP5.len hN.nd]; exact hnets
          have hpl6 := E6 _ _ hpl5
          have hMn : MinS (some (minO (T n) (tg - r.2))) (GotK d L (revG d ord i) g (j + 1) n) := ((hM5 n hnn).step hMg r.2).congr (gotk_same hn hr' rfl)
          have put : minO (T n) (tg - r.2) = tg - r.2 → Ex H (upd H6 Tm (.dK (putK es (.inr n) (.int (tg - r.2))))) ∧ TEx H4 (upd H6 Tm (.dK (putK es (.inr n) (.int (tg - r.2))))) ∧ upd H6 Tm (.dK (putK es (.inr n) (.int (tg - r.2)))) ra' = some (.lst (pl.map V.ref)) ∧
              ∃ (es' : List (Key × V)) (T' : Str → Option Int) (y2 y6 y8 y9 : Option V), upd H6 Tm (.dK (putK es (.inr n) (.int (tg - r.2)))) Tm = some (.dK es') ∧ HoldsV es' (srcs d ++ gnames d) (fun n => optI (T' n)) ∧ T' g.name = some tg ∧ (∀ n ∈ srcs d ++ gnames d, MinS (T' n) (GotK d L (revG d ord i) g (j + 1) n)) ∧
                ([some (.ref x), some (.ref la), some (.str n), some (.ref Tm), some (.int (k : Int)), some (.str g.name), some (.int r.1), some (.ref pt), some (.int r.2), some (.int (tg - r.2))] : L2.St) = [some (.ref x), some (.ref la), y2, some (.ref Tm), some (.int (k : Int)), some (.str g.name), y6, some (.ref pt), y8, y9] := fun em => by
            rw [em] at hMn
            refine ⟨(E5.trans E6).mut nTH, (T5.trans (TEx.of E6)).trans fun a xs h => by rw [upd_ne (ne_of h hD6 (by intro z; cases z))]; exact h, by rw [upd_ne (ne_of hpl6 hD6 (by intro z; cases z))]; exact hpl6, _, fun y => if y = n then some (tg - r.2) else T y, _, _, _, _, upd_same, ?_, (if_neg nself).trans hTg5, fun z hz => ?_, rfl⟩
            · refine ((hP5.put n (.int (tg - r.2))).congr fun z => ?_).fn fun z _ => ?_
              · rw [List.mem_append, List.mem_singleton]
                exact ⟨fun h => h.elim id fun e => by rw [e]; exact hnn, .inl⟩
              · by_cases e : z = n
                · rw [if_pos e]
                  exact (congrArg optI (if_pos e : (if z = n then some (tg - r.2) else T z) = some (tg - r.2))).symm
                · rw [if_neg e]
                  exact (congrArg optI (if_neg e : (if z = n then some (tg - r.2) else T z) = T z)).symm
            · show MinS (if z = n then _ else _) _
              by_cases e : z = n
              · rw [if_pos e, e]; exact hMn
              · rw [if_neg e]; exact (hM5 z hz).congr (gotk_other hn e)
          refine ⟨_, rfl, _, rfl, Tm, _, rfl, hv, _, rfl, _, _, rfl, rfl, ?_⟩
          refine ⟨_, rfl, _, rfl, Tm, _, rfl, hvn, rfl, _, rfl, ?_⟩
          cases hTn : T n with
          | none =>
            rw [hTn] at hMn put hvn
            exact iteT (iteT ⟨_, rfl, _, rfl, _, rfl, Tm, _, rfl, .inl ⟨es, .inr n, hD6, rfl, sz_lt (by omega), rfl⟩, put rfl⟩)
          | some m =>
            rw [hTn] at hMn put hvn
            refine iteF ⟨_, rfl, _, rfl, Tm, _, rfl, hvn, _, rfl, _, _, rfl, rfl, _, rfl, ite2 (fun c1 => ?_) (fun c1 => ?_)⟩
            · have lt : tg - r.2 < m := of_decide_eq_true c1
              exact ⟨_, rfl, _, rfl, _, rfl, Tm, _, rfl, .inl ⟨es, .inr n, hD6, rfl, sz_lt (by omega), rfl⟩, put (if_pos lt)⟩
            · have ge : ¬ tg - r.2 < m := fun z => c1 (decide_eq_true z)
              have em : minO (some m) (tg - r.2) = m := if_neg ge
              rw [em] at hMn
              refine ⟨E5.trans E6, T5.trans (TEx.of E6), hpl6, es, T, _, _, _, _, hD6, hP5, hTg5, fun z hz => ?_, rfl⟩
              by_cases e : z = n
              · rw [e, hTn]; exact hMn
              · exact (hM5 z hz).congr (gotk_other hn e)
        rintro σ H5 ⟨E5, T5, hpl5, es, T, y2, y6, y8, y9, hD5, hP5, hTg5, hM5, rfl⟩
        refine ⟨E5, T4.trans T5, es, T, _, _, _, _, _, _, _, hD5, hP5, fun n hn => ?_, rfl⟩
        rw [revG_snoc hrev hg]
        exact (hM5 n hn).congr gotk_end
    rintro σ H4 ⟨E4, T4, es, T, y2, y4, y5, y6, y7, y8, y9, hD4, hP4, hM4, rfl⟩
    rw [nats_len] at hM4
    exact ⟨_, rfl, q Tm es T H4 E4 nTH hD4 hP4 fun n hn => (hM4 n hn).congr (got_all (fun g hg => revG_mem hg) fun g hg _ => revG_full hT g hg)⟩
end
end G
namespace G
open PySem PySem.Spec PyProof.Rows L2 Evl TL
def slackV (o : Option Int) (p : Option Pr) : V := match o, p with
  | some t, some q => .int (t - q.2)
  | _, _ => .non
section
variable {P : Program} {w : World} {K : PySem.W.Frag} {mg : Str → Option Value} {base : Heap}
def spSlack (C : Addr) : Sp := fun vs H Q _ => ∃ (x c sl gl Dc la : Addr) (sa rl : List Addr) (d : CircD) (S : List Pr) (A : Str → Option Pr) (it gt rt ot : Addr) (ga ra oa : List Addr) (L : Str → Option Int) (n : Str), vs = [.ref x, .str n, .ref la] ∧ ArrAt C H x c sl gl Dc sa rl d S A ∧ CircAt H c d it gt rt ot ga ra oa ∧ Nets d ∧ (∀ g ∈ d.gates, g.rng.length = g.pins.length) ∧
  LimAt H la L (srcs d ++ gnames d) ∧ la ≠ Dc ∧ (∀ n ∈ srcs d ++ gnames d, n.length ≤ 1000) ∧ n ∈ srcs d ++ gnames d ∧
  ∀ (o : Option Int) (H' : Hp), Ex H H' → MinS o (Ah d L n) → Q (slackV o (A n)) H'
theorem sc_Arrivals_slack : FnScope ["self", "net", "limits", "time"] ["self", "net", "limits"] (defScope s_Arrivals_slack) := ⟨rfl, rfl, rfl, by decide +kernel, rfl, by decide +kernel, by decide +kernel⟩
theorem ok_Arrivals_slack {C U : Addr} {f f1 f2 : Addr} {fd d1 d2 : FuncData} (F : Fun K "slack" "Arrivals.slack" s_Arrivals_slack f fd) (W : Cl_Arrivals K mg C) (M_Arrivals_check_net : Meth K C "_check_net" f1) (G_Arrivals_check_net : FnOk P w K mg base (L2.CX P w) 1 f1 d1 ["self", "net"] (spCkNet C U)) (b_Arrivals_check_net : Binds K d1 ["self", "net"] [])
    (M_Arrivals_required : Meth K C "required" f2) (G_Arrivals_required : FnOk P w K mg base (L2.CX P w) 3 f2 d2 ["self", "limits"] (spReq C)) (b_Arrivals_required : Binds K d2 ["self", "limits"] []) : FnOk P w K mg base (L2.CX P w) 4 f fd ["self", "net", "limits"] (spSlack C) := by
  have c_Arrivals := W.cl
  refine F.okX sc_Arrivals_slack (fun vs H Q E h => ?_) (fun cdv Ar outer s H vs Q E hr h => ?_)
  · obtain ⟨x, c, sl, gl, Dc, la, sa, rl, d, S, A, it, gt, rt, ot, ga, ra, oa, L, n, rfl, _⟩ := h
    rfl
  · obtain ⟨x, c, sl, gl, Dc, la, sa, rl, d, S, A, it, gt, rt, ot, ga, ra, oa, L, n, rfl, hA, hc, hN, hrp, hL, nla, hlen, hn, q⟩ := h
    refine ⟨_, (pss_cons (ps_expr (pe_meth (pv 0) c_Arrivals M_Arrivals_check_net G_Arrivals_check_net (hr.mono (by omega)) b_Arrivals_check_net .nil (passes_call (takes_of rfl rfl rfl rfl) fun _ _ _ _ h => h) (pa_cons (pv 1) pa_nil)))
    (pss_cons (ps_set (i := 3) sc_Arrivals_slack.nd rfl (.inl rfl) (pe_dget (hu_of hr) (pe_meth (pv 0) c_Arrivals M_Arrivals_required G_Arrivals_required (hr.mono (by omega)) b_Arrivals_required .nil (passes_call (takes_of rfl rfl rfl rfl) fun _ _ _ _ h => h) (pa_cons (pv 2) pa_nil)) (pv 1) (fun _ _ => rfl)))
    (pss_cut (ps_if (PW.pt (pw_or (pt_cmpR op_isN (pv 3) pe_non (nomark _)) (pw_or1 (pt_cmpR op_isN (pe_dget (hu_of hr) (pe_fld (pv 0) rfl) (pv 1) (fun _ _ => rfl)) pe_non (nomark _)))))
      (pss_one (ps_ret pe_non))
      pss_nil)
    (pss_one (ps_ret (pe_op op_sub (pv 3) (pe_ix ix_tup (pe_dget (hu_of hr) (pe_fld (pv 0) rfl) (pv 1) (fun _ _ => rfl)) pe_int (fun _ _ => rfl)))))))), ?_⟩
    obtain ⟨dx, fs, h1, h2, h3, h4, h5, h6, h7⟩ := hA.ob
    obtain ⟨es0, hD0, hP0⟩ := hA.ps
    refine ⟨_, rfl, x, dx, fs, rfl, h1, h7 _ (by decide +kernel), _, rfl, x, c, sl, gl, Dc, sa, rl, d, S, A, n, rfl, hA, hlen n hn, fun _ => ?_, fun z => absurd hn z⟩
    refine ⟨_, rfl, x, dx, fs, rfl, h1, h7 _ (by decide +kernel), _, rfl, x, c, sl, gl, Dc, la, sa, rl, d, S, A, it, gt, rt, ot, ga, ra, oa, L, rfl, hA, hc, hN, hrp, hL, nla, hlen, fun q0 es T H1 E1 nq hq hP hM => ?_⟩
    obtain ⟨v, hv, hvP⟩ := hP0.at_ (E1 _ _ hD0) hn
    have h11 := E1 _ _ h1
    have hvP1 := hvP.te (TEx.of E1)
    have qq := q (T n) H1 E1 (hM n hn)
    refine ⟨_, rfl, q0, _, rfl, hP.at_ hq hn, fun σ H' => H' = H1 ∧ (∃ t p, T n = some t ∧ A n = some p) ∧ σ = [some (.ref x), some (.str n), some (.ref la), some (optI (T n))], ?_, ?_⟩
    · cases hT : T n with
      | none =>
        rw [hT] at qq
        exact ⟨_, rfl, rfl, _, rfl, iteT (iteT qq)⟩
      | some t =>
        rw [hT] at qq
        refine ⟨_, rfl, rfl, _, rfl, iteF ?_⟩
        cases hAn : A n with
        | none =>
          rw [hAn] at hvP1 qq
          have e : v = .non := hvP1
          subst e
          exact ⟨_, rfl, x, C, dx, fs, _, rfl, h11, W.cl, W.n_pairs, h5, _, rfl, Dc, _, rfl, hv, rfl, _, rfl, iteT qq⟩
        | some p =>
          rw [hAn] at hvP1
          obtain ⟨b, rfl, hb⟩ := hvP1
          exact ⟨_, rfl, x, C, dx, fs, _, rfl, h11, W.cl, W.n_pairs, h5, _, rfl, Dc, _, rfl, hv, rfl, _, rfl, iteF ⟨rfl, ⟨t, p, rfl, rfl⟩, rfl⟩⟩
    · rintro σ H2 ⟨rfl, ⟨t, p, hT, hAn⟩, rfl⟩
      rw [hAn] at hvP1 qq
      rw [hT] at qq ⊢
      obtain ⟨b, rfl, hb⟩ := hvP1
      exact ⟨_, rfl, _, rfl, x, C, dx, fs, _, rfl, h11, W.cl, W.n_pairs, h5, _, rfl, Dc, _, rfl, hv, _, _, _, _, rfl, rfl, SqT.of hb, atI_nat (j := 1) rfl, _, _, rfl, rfl, qq⟩
end
end G
namespace G
open PySem PySem.Spec PyProof.Rows L2 Evl TL
/-! ## how many ways lie ahead -/
def muN (Gs : List GateD) (n : Str) : Nat := ((Gs.map (·.name)).reverse).idxOf n
def wsum (m : Nat) : List Nat → Nat
  | [] => 0
  | k :: r => (if k < m then 4 ^ k else 0) + wsum m r
theorem wsum_app (m : Nat) : ∀ (a b : List Nat), wsum m (a ++ b) = wsum m a + wsum m b
  | [], b => (Nat.zero_add _).symm
  | k :: a, b => by
    show (if k < m then 4 ^ k else 0) + wsum m (a ++ b) = _
    rw [wsum_app m a b]
    show _ = (if k < m then 4 ^ k else 0) + wsum m a + wsum m b
    omega
theorem wsum_succ (m : Nat) : ∀ ks : List Nat, wsum (m + 1) ks = wsum m ks + ks.count m * 4 ^ m
  | [] => by simp [wsum]
  | k :: r => by
    show (if k < m + 1 then 4 ^ k else 0) + wsum (m + 1) r = (if k < m then 4 ^ k else 0) + wsum m r + (k :: r).count m * 4 ^ m
    rw [wsum_succ m r, List.count_cons]
    by_cases e : k = m
    · subst e
      rw [if_pos (Nat.lt_succ_self _), if_neg (Nat.lt_irrefl _), if_pos (by simp), Nat.add_mul, Nat.one_mul]; omega
    · rw [if_neg (by simpa using e : ¬ (k == m) = true), Nat.add_zero (List.count m r)]
      by_cases lt : k < m
      · rw [if_pos lt, if_pos (by omega : k < m + 1)]; exact (Nat.add_assoc ..).symm
      · rw [if_neg lt, if_neg (by omega : ¬ k < m + 1), Nat.zero_add, Nat.zero_add]
theorem wsum_le {ks : List Nat} (nd : ks.Nodup) : ∀ m, 1 + 3 * wsum m ks ≤ 4 ^ m
  | 0 => by
    have z : ∀ l : List Nat, wsum 0 l = 0 := fun l => by
      induction l with
      | nil => rfl
      | cons k r ih => show (if k < 0 then 4 ^ k else 0) + wsum 0 r = 0; rw [ih, if_neg (Nat.not_lt_zero _)]
    rw [z]; decide
  | m + 1 => by
    have ih := wsum_le nd m
    have h := List.nodup_iff_count.mp nd m
    rw [wsum_succ, Nat.pow_succ]
    have : ks.count m * 4 ^ m ≤ 1 * 4 ^ m := Nat.mul_le_mul_right _ h
    omega
theorem wsum_take {ks : List Nat} (m i : Nat) : wsum m (ks.take i) ≤ wsum m ks := by
  have : wsum m ks = wsum m (ks.take i) + wsum m (ks.drop i) := by rw [← wsum_app, List.take_append_drop]
  omega
section
variable {d : CircD} {Gs : List GateD}
theorem gs_nodup (N : Nets d) (W : Crea d Gs) : (Gs.map (·.name)).Nodup := by
  have h : (d.gates.map fun g : GateD => g.name).Nodup := (List.nodup_append.mp N.nd).2.1
  exact (W.perm.map fun g : GateD => g.name).nodup_iff.mp h
theorem mu_nodup (N : Nets d) (W : Crea d Gs) : (d.gates.map fun g => muN Gs g.name).Nodup := by
  have h : (d.gates.map (·.name)).Nodup := (List.nodup_append.mp N.nd).2.1
  rw [List.Nodup, List.pairwise_map] at h ⊢
  refine h.imp_of_mem fun {a b} ha hb hne e => hne ?_
  have mem : ∀ g ∈ d.gates, g.name ∈ (Gs.map (·.name)).reverse := fun g hg => List.mem_reverse.mpr (List.mem_map.mpr ⟨g, W.perm.mem_iff.mp hg, rfl⟩)
  have h1 := List.getElem_idxOf (List.idxOf_lt_length_iff.mpr (mem a ha))
  have h2 := List.getElem_idxOf (List.idxOf_lt_length_iff.mpr (mem b hb))
  unfold muN at e
  rw [← h1, ← h2]
  simp only [e]
theorem mu_lt (N : Nets d) (W : Crea d Gs) {g : GateD} (hg : g ∈ d.gates) {n : Str} (hn : n ∈ g.pins) : muN Gs g.name < muN Gs n := by
  have nd := gs_nodup N W
  obtain ⟨k, hk, ek⟩ := List.getElem_of_mem (W.perm.mem_iff.mp hg)
  have hcl := W.cl k g (List.getElem?_eq_some_iff.mpr ⟨hk, ek⟩) n hn
  have hlen : (Gs.map (·.name)).length = Gs.length := List.length_map _
  have ndr : ((Gs.map (·.name)).reverse).Nodup := (List.reverse_perm _).nodup_iff.mpr nd
  have hgk : muN Gs g.name = Gs.length - 1 - k := by
    unfold muN
    have hl : Gs.length - 1 - k < ((Gs.map (·.name)).reverse).length := by rw [List.length_reverse, hlen]; omega
    have : ((Gs.map (·.name)).reverse)[Gs.length - 1 - k]'hl = g.name := by
      rw [List.getElem_reverse, List.getElem_map]
      simp only [hlen]
      have e : Gs.length - 1 - (Gs.length - 1 - k) = k := by omega
      simp only [e, ek]
    rw [← this, ndr.idxOf_getElem]
  rcases Nat.lt_or_ge (muN Gs g.name) (muN Gs n) with lt | ge
  · exact lt
  exfalso
  have hnl : muN Gs n < ((Gs.map (·.name)).reverse).length := by rw [List.length_reverse, hlen]; omega
  have hget : ((Gs.map (·.name)).reverse)[muN Gs n]'hnl = n := List.getElem_idxOf hnl
  have hin : n ∈ Gs.map (·.name) := List.mem_reverse.mp (List.idxOf_lt_length_iff.mp hnl)
  rcases List.mem_append.mp hcl with z | z
  · have : n ∈ gnames d := (W.perm.map (·.name)).mem_iff.mpr hin
    exact (List.nodup_append.mp N.nd).2.2 n z n this rfl
  · rw [List.map_take] at z
    obtain ⟨j, hj, ej⟩ := List.getElem_of_mem z
    have hj2 : j < k := by rw [List.length_take] at hj; omega
    rw [List.getElem_take] at ej
    have hget2 := hget
    rw [List.getElem_reverse] at hget2
    have e3 : (Gs.map (·.name))[j]'(by rw [hlen]; omega) = (Gs.map (·.name))[(Gs.map (·.name)).length - 1 - muN Gs n]'(by rw [hlen]; omega) := by rw [ej]; exact hget2.symm
    have e2 := (List.getElem_inj nd).mp e3
    omega
end
section
variable {P : Program} {w : World} {K : PySem.W.Frag} {mg : Str → Option Value} {base : Heap}
def spAhead (b : Nat) : Sp := fun vs H Q _ => ∃ (c la : Addr) (d : CircD) (Gs : List GateD) (it gt rt ot : Addr) (ga ra oa : List Addr) (L : Str → Option Int) (n : Str), vs = [.ref c, .str n, .ref la] ∧ CircAt H c d it gt rt ot ga ra oa ∧ Nets d ∧ Crea d Gs ∧ (∀ g ∈ d.gates, g.rng.length = g.pins.length) ∧ Gs.length ≤ 9 ∧
  LimAt H la L (srcs d ++ gnames d) ∧ muN Gs n < b ∧
  ∀ (l : Addr) (ns : List Int) (H' : Hp), Ex H H' → H l = none → H' l = some (.lst (ns.map V.int)) → (∀ y, y ∈ ns ↔ Ah d L n y) → ns.length ≤ 4 ^ muN Gs n → Q (.ref l) H'
structure TxtAh (mg : Str → Option Value) : Prop where
  len : mg "len" = none
  range : mg "range" = none
theorem sc_law_ahead : FnScope ["circuit", "net", "limits", "times", "gate", "k", "time"] ["circuit", "net", "limits"] (defScope s_law_ahead) := ⟨rfl, rfl, rfl, by decide +kernel, rfl, by decide +kernel, by decide +kernel⟩
theorem fn_law_ahead {fh : Addr} {dh : FuncData} (F : Fun K "_law_ahead" "_law_ahead" s_law_ahead fh dh) (T : TxtAh mg) (g_law_ahead : mg "_law_ahead" = some (.ref fh)) (b_law_ahead : Binds K dh ["circuit", "net", "limits"] []) :
    ∀ b, FnOk P w K mg base CX0 (1 + b) fh dh ["circuit", "net", "limits"] (spAhead b)
  | 0 => ⟨fun vs H Q E h => by obtain ⟨c, la, d, Gs, it, gt, rt, ot, ga, ra, oa, L, n, rfl, _⟩ := h; rfl, fun _ _ _ _ _ _ _ _ _ _ _ _ _ h => by
      obtain ⟨c, la, d, Gs, it, gt, rt, ot, ga, ra, oa, L, n, rfl, _, _, _, _, _, _, h0, _⟩ := h
      exact absurd h0 (Nat.not_lt_zero _)⟩
  | b + 1 => by
    have G_law_ahead := fn_law_ahead F T g_law_ahead b_law_ahead b
    have k_law_ahead := F.kp
    have e : 1 + (b + 1) = (1 + b) + 1 := by omega
    rw [e]
    refine F.ok sc_law_ahead (fun vs H Q E h => ?_) (fun cdv Ar outer s H vs Q E hr h => ?_)
    · obtain ⟨c, la, d, Gs, it, gt, rt, ot, ga, ra, oa, L, n, rfl, _⟩ := h
      rfl
    · obtain ⟨c, la, d, Gs, it, gt, rt, ot, ga, ra, oa, L, n, rfl, hc, hN, hW, hrp, hG9, hL, hmu, q⟩ := h
      refine ⟨_, (pss_cons (ps_set (i := 3) sc_law_ahead.nd rfl (.inl rfl) (pe_ifExp (pt_cmp (pc_din (hu_of hr) (pv 1) (pv 2))) (pe_lst (pa_cons (pe_dget (hu_of hr) (pv 2) (pv 1) (fun _ _ => rfl)) pa_nil)) (pe_lst pa_nil)))
    (pss_cons (ps_for PassesOwn.never rfl (pi_tup (pe_ix ix_tup (pv 0) pe_int (fun _ _ => rfl))) (pg_name (i := 4) sc_law_ahead.nd rfl (.inr rfl))
      (pss_one (ps_for PassesOwn.never rfl (pi_range1 rfl T.range (pa_cons (pe_callB call_len_seq (by rfl) T.len (by decide +kernel) (pa_cons (pe_ix ix_tup (pv 4) pe_int (fun _ _ => rfl)) pa_nil)) pa_nil)) (pg_name (i := 5) sc_law_ahead.nd rfl (.inr rfl))
        (pss_one (ps_if (pt_cmpR op_eq (pe_ix ix_tup (pe_ix ix_tup (pv 4) pe_int (fun _ _ => rfl)) (pv 5) (fun _ _ => rfl)) (pv 1) (nomark _))
          (pss_one (ps_set (i := 3) sc_law_ahead.nd rfl (.inl rfl) (pe_op op_cat (pv 3) (pe_lc (own := [("time", 6)]) (g := gName 6) (tt := tYes) rfl sc_law_ahead.nd (pi_list (pe_call G_law_ahead (hr.mono (by omega)) (by rfl) g_law_ahead k_law_ahead b_law_ahead .nil pass0 (pa_cons (pv 0) (pa_cons (pe_ix ix_tup (pv 4) pe_int (fun _ _ => rfl)) (pa_cons (pv 2) pa_nil))))) (blkOk_by (N := ["circuit", "net", "limits", "times", "gate", "k", "time"]) (sc := defScope s_law_ahead) (own := [("time", 6)]) (by decide +kernel)) (fun _ _ _ _ _ => (pg_name (i := 6) sc_law_ahead.nd rfl (.inl rfl))) (fun _ _ _ _ _ => pts_nil) (fun _ _ _ _ _ => (pe_op op_sub (pv 6) (pe_ix (kIxT (K := K) rfl) (pe_ix (kIxT (K := K) rfl) (pe_ix (kIxT (K := K) rfl) (pv 4) pe_int (fun _ _ => rfl)) (pv 5) (fun _ _ => rfl)) pe_int (fun _ _ => rfl))))))))
          pss_nil)))))
    (pss_one (ps_ret (pv 3))))), ?_⟩
      obtain ⟨ls, lns, l1, l2, l3, l4⟩ := id hL.d
      have h4 : 4 ^ muN Gs n ≤ 4 ^ 9 := Nat.pow_le_pow_right (by decide) (by
        have : muN Gs n ≤ ((Gs.map (·.name)).reverse).length := List.idxOf_le_length
        rw [List.length_reverse, List.length_map] at this
        omega)
      have hws := wsum_le (mu_nodup hN hW) (muN Gs n)
      have hg16 := hN.few
      -- where it begins
      dsimp only [gName, tSeq, tAsg]
      refine tif_by (tt := tIf _ _ _) (fun v H' => Ex H H' ∧ ∃ (l : Addr) (ns : List Int), v = .ref l ∧ H l = none ∧ H' l = some (.lst (ns.map V.int)) ∧ (∀ y, y ∈ ns ↔ L n = some y) ∧ ns.length ≤ 1) (fun Q' kk => ?_) ?_
      · refine ⟨_, rfl, _, rfl, la, _, rfl, DGet.k (k := Sum.inr n) l1, ?_⟩
        rw [l2.val n]
        by_cases hm : n ∈ lns
        · rw [if_pos hm]
          obtain ⟨y, hy⟩ := Option.isSome_iff_exists.mp ((l3 n).mp hm)
          have hg : DGet H la (kV (Sum.inr n)) (some (.int y)) := by
            have := l2.at_ l1 hm
            rw [hy] at this; exact this
          refine ⟨_, rfl, iteT ⟨_, rfl, _, rfl, la, _, rfl, hg, by show 1 ≤ sizeLine; decide, fun l nl => kk _ _ ⟨Ex.new nl, l, [y], rfl, nl, upd_same, fun z => ?_, Nat.le_refl _⟩⟩⟩
          rw [List.mem_singleton, hy]
          exact ⟨fun e => by rw [e], fun e => (Option.some.inj e).symm⟩
        · rw [if_neg hm]
          refine ⟨_, rfl, iteF ⟨Nat.zero_le _, fun l nl => kk _ _ ⟨Ex.new nl, l, [], rfl, nl, upd_same, fun z => ⟨fun h => (nomatch h), fun h => absurd ((l3 n).mpr (by rw [h]; rfl)) hm⟩, Nat.zero_le _⟩⟩⟩
      rintro v H1 ⟨E1, l, ns, rfl, nl, hl, hns, hnl⟩
      refine ⟨_, rfl, _, _, _, _, rfl, rfl, SqT.of (hc.te (TEx.of E1)).top, atI_nat (j := 1) rfl, gt, rfl, ⟨_, SqT.of (hc.te (TEx.of E1)).gts⟩, for_tup (K := K) (a := gt) (xs := ga.map V.ref)
        (fun i σ H' => Ex H H' ∧ ∃ (l : Addr) (ns : List Int) (y4 y5 y6 : Option V), H l = none ∧ H' l = some (.lst (ns.map V.int)) ∧ (∀ y, y ∈ ns ↔ Got d L (d.gates.take i) n y) ∧ ns.length ≤ 1 + 3 * wsum (muN Gs n) ((d.gates.map fun g => muN Gs g.name).take i) ∧
          σ = [some (.ref c), some (.str n), some (.ref la), some (.ref l), y4, y5, y6]) ⟨E1, l, ns, _, _, _, nl, hl, ?_, ?_, rfl⟩ (fun i σ H' _ g => SqT.of (hc.te (TEx.of g.1)).gts) ?_ ?_⟩
      · intro y
        rw [hns y]
        exact ⟨.inl, fun z => z.elim id fun ⟨g, hg, _⟩ => by rw [List.take_zero] at hg; cases hg⟩
      · rw [List.take_zero]; exact hnl
      · rintro i yv σ H2 hy ⟨E2, l2', ns2, y4, y5, y6, nl2, hl2, hns2, hnl2, rfl⟩
        obtain ⟨b', hb, rfl⟩ := refs_get hy
        obtain ⟨g, hg, t, pt, rgt, rla, hg1, hg2, hg3, hg4, hg5⟩ := (hc.te (TEx.of E2)).gates.at_ hb
        have hgm := List.mem_of_getElem? hg
        have hp3 := hN.fewp g hgm
        have hrl := hrp g hgm
        have hil := (List.getElem?_eq_some_iff.mp hg).1
        have hwt : wsum (muN Gs n) ((d.gates.map fun g => muN Gs g.name).take (i + 1)) = wsum (muN Gs n) ((d.gates.map fun g => muN Gs g.name).take i) + (if muN Gs g.name < muN Gs n then 4 ^ muN Gs g.name else 0) := by
          rw [take_snoc1 (show (d.gates.map fun g => muN Gs g.name)[i]? = some (muN Gs g.name) by rw [List.getElem?_map, hg]; rfl), wsum_app]
          rfl
        have hwle := wsum_take (ks := d.gates.map fun g => muN Gs g.name) (muN Gs n) (i + 1)
        rw [hwt] at hwle
        refine ⟨_, rfl, _, _, _, _, rfl, rfl, SqT.of hg1, atI_nat (j := 2) rfl, _, _, rfl, .inr (SqT.of hg3), g.pins.length, by rw [List.length_map], by omega, by omega, for_range (n := ((g.pins.length : Nat) : Int).toNat)
          (fun j σ H' => Ex H H' ∧ Ex H2 H' ∧ ∃ (l : Addr) (ns : List Int) (y5 y6 : Option V), H l = none ∧ H' l = some (.lst (ns.map V.int)) ∧ (∀ y, y ∈ ns ↔ GotK d L (d.gates.take i) g j n y) ∧ ns.length ≤ 1 + 3 * wsum (muN Gs n) ((d.gates.map fun g => muN Gs g.name).take i) + j * (if muN Gs g.name < muN Gs n then 4 ^ muN Gs g.name else 0) ∧
            σ = [some (.ref c), some (.str n), some (.ref la), some (.ref l), some (.ref b'), y5, y6])
          ⟨E2, .refl _, l2', ns2, _, _, nl2, hl2, fun y => (hns2 y).trans (gotk_zero y), by omega, rfl⟩ ?_ ?_⟩
        · rintro j σ H3 hj ⟨E3, E23, l3', ns3, y5, y6, nl3, hl3, hns3, hnl3, rfl⟩
          rw [Int.toNat_natCast] at hj
          have ej : (0 : Int) + (j : Int) = (j : Int) := Int.zero_add _
          rw [ej]
          obtain ⟨p, hp⟩ : ∃ p, g.pins[j]? = some p := ⟨_, List.getElem?_eq_getElem hj⟩
          obtain ⟨r, hr'⟩ : ∃ r, g.rng[j]? = some r := ⟨_, List.getElem?_eq_getElem (by omega)⟩
          refine ⟨_, rfl, _, _, _, _, rfl, rfl, SqT.of (E23 _ _ hg1), atI_nat (j := 2) rfl, _, rfl, _, _, _, _, rfl, rfl, SqT.of (E23 _ _ hg3), at_of (j := j) rfl (by rw [List.getElem?_map, hp]; rfl), _, rfl, rfl, _, rfl, ?_⟩
          by_cases e : p = n
          · rw [e] at hp
            rw [show decide (V.str p = V.str n) = true from decide_eq_true (by rw [e])]
            have hml := mu_lt hN hW hgm (List.mem_of_getElem? hp)
            rw [if_pos hml] at hnl3 hwle
            refine iteT ⟨_, rfl, _, rfl, _, rfl, _, _, _, _, rfl, rfl, SqT.of (E23 _ _ hg1), atI_nat (j := 0) rfl, _, rfl, c, la, d, Gs, it, gt, rt, ot, ga, ra, oa, L, g.name, rfl, hc.te (TEx.of E3), hN, hW, hrp, hG9, hL.ex E3, by omega, fun l4 ns4 H4 E4 nl4 hl4 hns4 hnl4 =>
              ⟨l4, rfl, ⟨_, SqL.of hl4⟩, fun R nR => wk_list (K := K) (a := l4) (xs := ns4.map V.int) (fun k H' => Ex H4 H' ∧ H' R = some (.lst ((ns4.take k).map fun t => V.int (t - r.2)))) ⟨Ex.new nR, upd_same⟩ (fun k H' _ z => SqL.of (z.1 _ _ hl4)) ?_ ?_⟩⟩
            · rintro k yv H5 hk ⟨E5, hR⟩
              obtain ⟨t0, ht0, rfl⟩ : ∃ t0, ns4[k]? = some t0 ∧ yv = .int t0 := by
                rw [List.getElem?_map] at hk
                cases e : ns4[k]? with
                | none => rw [e] at hk; cases hk
                | some z => rw [e] at hk; cases hk; exact ⟨z, rfl, rfl⟩
              obtain ⟨rb, hrb, hrI⟩ := hg5.of hr'
              have e25 := E23.trans (E4.trans E5)
              have hk4 := (List.getElem?_eq_some_iff.mp ht0).1
              refine ⟨rfl, tYes_in ?_⟩
              simp only [wipe, _root_.L2.start, List.map_cons, List.map_nil, List.length_cons, List.length_nil, Nat.reduceAdd, Nat.reduceSub, List.replicate_succ, List.replicate_zero, List.cons_append, List.nil_append, List.set_cons_zero, List.set_cons_succ]
              refine ⟨_, rfl, _, rfl, _, _, _, _, rfl, rfl, SqT.of (e25 _ _ hg1), atI_nat (j := 3) rfl, _, rfl, _, _, _, _, rfl, rfl, SqT.of (e25 _ _ hg4), at_of (j := j) rfl (by rw [List.getElem?_map, hrb]; rfl), _, _, _, _, rfl, rfl, SqT.of (e25 _ _ hrI), atI_nat (j := 1) rfl, _, _, rfl, rfl, _, hR, sz_lt (by rw [List.length_map, List.length_take]; have : 4 ^ muN Gs n ≤ 4 ^ 9 := h4; omega), E5.mut nR, ?_⟩
              rw [upd_same, take_snoc1 ht0, List.map_append]; rfl
            rintro H5 ⟨E5, hR⟩
            rw [List.length_map, List.take_length] at hR
            have e35 := E4.trans E5
            refine ⟨l3', R, ns3.map V.int, _, rfl, rfl, e35 _ _ hl3, hR, ?_, fun p' np => ?_⟩
            · rw [List.length_map, List.length_map, sizeLine_eq]
              have : (j + 1) * 4 ^ muN Gs g.name ≤ 3 * 4 ^ muN Gs g.name := Nat.mul_le_mul_right _ (by omega)
              rw [Nat.add_mul, Nat.one_mul] at this
              have h49 : 4 ^ muN Gs n ≤ 262144 := h4
              omega
            have e36 := e35.trans (Ex.new (o := .lst (ns3.map V.int ++ ns4.map fun t => V.int (t - r.2))) np)
            refine ⟨E3.trans e36, E23.trans e36, p', ns3 ++ ns4.map (fun t => t - r.2), _, _, ?_, ?_, fun y => ?_, ?_, rfl⟩
            · cases ez : H p' with
              | none => rfl
              | some o => exact absurd (e35 _ _ (E3 _ _ ez)) (by rw [np]; exact fun z => nomatch z)
            · rw [upd_same, List.map_append, List.map_map]; rfl
            · rw [← gotk_same hp hr' rfl, List.mem_append, hns3 y, List.mem_map]
              exact or_congr Iff.rfl ⟨fun ⟨u, hu, e⟩ => ⟨u, (hns4 u).mp hu, e.symm⟩, fun ⟨u, hu, e⟩ => ⟨u, (hns4 u).mpr hu, e.symm⟩⟩
            · rw [List.length_append, List.length_map, if_pos hml, Nat.add_mul, Nat.one_mul]
              omega
          · rw [show decide (V.str p = V.str n) = false from decide_eq_false fun z => e (V.str.inj z)]
            refine iteF ⟨E3, E23, l3', ns3, _, _, nl3, hl3, fun y => (hns3 y).trans (gotk_other hp (fun z => e z.symm) y), ?_, rfl⟩
            rw [Nat.add_mul]
            omega
        · rintro σ H3 ⟨E3, E23, l3', ns3, y5, y6, nl3, hl3, hns3, hnl3, rfl⟩
          rw [Int.toNat_natCast] at hns3 hnl3
          refine ⟨E3, l3', ns3, _, _, _, nl3, hl3, fun y => ?_, ?_, rfl⟩
          · rw [take_snoc1 hg]
            exact (hns3 y).trans (gotk_end y)
          · rw [hwt]
            have : g.pins.length * (if muN Gs g.name < muN Gs n then 4 ^ muN Gs g.name else 0) ≤ 3 * (if muN Gs g.name < muN Gs n then 4 ^ muN Gs g.name else 0) := Nat.mul_le_mul_right _ hp3
            omega
      · rintro σ H2 ⟨E2, l2, ns2, y4, y5, y6, nl2, hl2, hns2, hnl2, rfl⟩
        have hgl := hc.gates.1
        rw [List.length_map, hgl, List.take_length] at hns2
        rw [List.length_map, hgl, ← List.length_map (f := fun g : GateD => muN Gs g.name), List.take_length] at hnl2
        exact ⟨_, rfl, q l2 ns2 H2 E2 nl2 hl2 (fun y => (hns2 y).trans (got_all (fun g h => h) (fun g h _ => h) y)) (by omega)⟩
end
end G
namespace G
open PySem PySem.Spec PyProof.Rows L2 Evl TL
/-! ## the ways to a net: what is lost on each, where it begins, its pins -/
abbrev RowD := Int × Nat × List (Nat × Nat)
def extR (gi j : Nat) (r : Pr) (w : RowD) : RowD := (w.1 - r.2, w.2.1, w.2.2 ++ [(gi, j)])
inductive Pth (d : CircD) (S : List Pr) : Str → RowD → Prop
  | src {k : Nat} {n : Str} {p : Pr} : (srcs d)[k]? = some n → S[k]? = some p → Pth d S n (-p.2, k, [])
  | gate {gi : Nat} {g : GateD} {j : Nat} {m : Str} {r : Pr} {w : RowD} : d.gates[gi]? = some g → g.pins[j]? = some m → g.rng[j]? = some r → Pth d S m w → Pth d S g.name (extR gi j r w)
theorem src_no {d : CircD} (N : Nets d) {g : GateD} (hg : g ∈ d.gates) : g.name ∉ srcs d := fun z =>
  (List.nodup_append.mp N.nd).2.2 _ z _ (List.mem_map.mpr ⟨g, hg, rfl⟩) rfl
theorem gate_at {d : CircD} (N : Nets d) {i j : Nat} {g h : GateD} (hi : d.gates[i]? = some g) (hj : d.gates[j]? = some h) (e : g.name = h.name) : i = j ∧ g = h := by
  have nd : (gnames d).Nodup := (List.nodup_append.mp N.nd).2.1
  have h1 : (gnames d)[i]? = some g.name := by unfold gnames; rw [List.getElem?_map, hi]; rfl
  have h2 : (gnames d)[j]? = some g.name := by unfold gnames; rw [List.getElem?_map, hj, e]; rfl
  obtain ⟨l1, e1⟩ := List.getElem?_eq_some_iff.mp h1
  obtain ⟨l2, e2⟩ := List.getElem?_eq_some_iff.mp h2
  have : i = j := (List.getElem_inj nd).mp (by rw [e1, e2])
  subst this
  rw [hi] at hj; cases hj; exact ⟨rfl, rfl⟩
theorem pth_src {d : CircD} (N : Nets d) {S : List Pr} {k : Nat} {n : Str} {p : Pr} (hn : (srcs d)[k]? = some n) (hp : S[k]? = some p) (w : RowD) : Pth d S n w ↔ w = (-p.2, k, []) := by
  constructor
  · intro h
    cases h with
    | @src k' _ p' h1 h2 =>
      have nd : (srcs d).Nodup := (List.nodup_append.mp N.nd).1
      obtain ⟨l1, e1⟩ := List.getElem?_eq_some_iff.mp hn
      obtain ⟨l2, e2⟩ := List.getElem?_eq_some_iff.mp h1
      have : k' = k := (List.getElem_inj nd).mp (by rw [e1, e2])
      subst this
      rw [hp] at h2; cases h2; rfl
    | gate h1 _ _ _ => exact absurd (List.mem_of_getElem? hn) (src_no N (List.mem_of_getElem? h1))
  · rintro rfl
    exact .src hn hp
/-- the ways over the first j pins of the gate -/
def PthK (d : CircD) (S : List Pr) (gi : Nat) (g : GateD) (j : Nat) (w : RowD) : Prop := ∃ (k : Nat) (m : Str) (r : Pr) (u : RowD), k < j ∧ g.pins[k]? = some m ∧ g.rng[k]? = some r ∧ Pth d S m u ∧ w = extR gi k r u
theorem pth_gate {d : CircD} (N : Nets d) {S : List Pr} {gi : Nat} {g : GateD} (hg : d.gates[gi]? = some g) (w : RowD) : PthK d S gi g g.pins.length w ↔ Pth d S g.name w := by
  constructor
  · rintro ⟨k, m, r, u, _, h1, h2, h3, rfl⟩
    exact .gate hg h1 h2 h3
  · intro h
    generalize e : g.name = n at h
    cases h with
    | src h1 _ => exact absurd (by rw [e]; exact List.mem_of_getElem? h1) (src_no N (List.mem_of_getElem? hg))
    | @gate gi' g' j m r u h1 h2 h3 h4 =>
      obtain ⟨rfl, rfl⟩ := gate_at N hg h1 e
      exact ⟨j, m, r, u, (List.getElem?_eq_some_iff.mp h2).1, h2, h3, h4, rfl⟩
theorem pthk_zero {d : CircD} {S : List Pr} {gi : Nat} {g : GateD} (w : RowD) : ¬ PthK d S gi g 0 w := fun ⟨_, _, _, _, h, _⟩ => absurd h (Nat.not_lt_zero _)
theorem pthk_succ {d : CircD} {S : List Pr} {gi : Nat} {g : GateD} {j : Nat} {m : Str} {r : Pr} (hm : g.pins[j]? = some m) (hr : g.rng[j]? = some r) (w : RowD) : PthK d S gi g (j + 1) w ↔ (PthK d S gi g j w ∨ ∃ u, Pth d S m u ∧ w = extR gi j r u) := by
  constructor
  · rintro ⟨k, m', r', u, hk, h1, h2, h3, e⟩
    by_cases ek : k = j
    · subst ek
      rw [hm] at h1; cases h1
      rw [hr] at h2; cases h2
      exact .inr ⟨u, h3, e⟩
    · exact .inl ⟨k, m', r', u, by omega, h1, h2, h3, e⟩
  · rintro (⟨k, m', r', u, hk, z⟩ | ⟨u, hu, e⟩)
    · exact ⟨k, m', r', u, by omega, z⟩
    · exact ⟨j, m, r, u, Nat.lt_succ_self _, hm, hr, hu, e⟩
/-! ## as values -/
def pinP (z : Nat × Nat) : Pr := ((z.1 : Int), (z.2 : Int))
def WayAt (H : Hp) (a : Addr) (w : RowD) : Prop := ∃ (b q : Addr) (qs : List Addr), H a = some (.tup [.int w.1, .ref b]) ∧ H b = some (.tup [.int (w.2.1 : Int), .ref q]) ∧ H q = some (.tup (qs.map V.ref)) ∧ All2 (fun a z => IntsAt H a (pinP z)) qs w.2.2
theorem WayAt.te {H H' : Hp} {a : Addr} {w : RowD} (e : TEx H H') (h : WayAt H a w) : WayAt H' a w := by
  obtain ⟨b, q, qs, h1, h2, h3, h4⟩ := h
  exact ⟨b, q, qs, e _ _ h1, e _ _ h2, e _ _ h3, h4.imp fun _ _ z => z.te e⟩
def pinD (z : Nat × Nat) : PyData := .tuple [.int (z.1 : Int), .int (z.2 : Int)]
def rowP (w : RowD) : PyData := .tuple [.int w.1, .tuple [.int (w.2.1 : Int), .tuple (w.2.2.map pinD)]]
theorem rdvs_pins {H : Hp} : ∀ {qs : List Addr} {zs : List (Nat × Nat)}, All2 (fun a z => IntsAt H a (pinP z)) qs zs → RdVs H (qs.map V.ref) (zs.map pinD)
  | [], [], _ => .nil
  | [], _ :: _, h => nomatch h.1
  | _ :: _, [], h => nomatch h.1
  | a :: as, z :: zs, h => .cons (.tup (h.2 0 a z rfl rfl) (.cons (.int _) (.cons (.int _) .nil))) (rdvs_pins ⟨Nat.succ.inj h.1, fun i x y hx hy => h.2 (i + 1) x y hx hy⟩)
theorem WayAt.rd {H : Hp} {a : Addr} {w : RowD} (h : WayAt H a w) : RdV H (.ref a) (rowP w) := by
  obtain ⟨b, q, qs, h1, h2, h3, h4⟩ := h
  exact .tup h1 (.cons (.int _) (.cons (.tup h2 (.cons (.int _) (.cons (.tup h3 (rdvs_pins h4)) .nil))) .nil))
theorem pins_alike : ∀ a b : List (Nat × Nat), PySem.W.alikeAll (a.map pinD) (b.map pinD) = true
  | [], _ => by simp [PySem.W.alikeAll]
  | _ :: _, [] => by simp [PySem.W.alikeAll]
  | x :: a, y :: b => by
    rw [List.map_cons, List.map_cons, PySem.W.alikeAll, pins_alike a b]
    simp [pinD, PySem.W.alike, PySem.W.alikeAll]
theorem rows_alike (v w : RowD) : PySem.W.alike (rowP v) (rowP w) = true := by
  simp [rowP, PySem.W.alike, PySem.W.alikeAll, pins_alike]
theorem pins_depth : ∀ a : List (Nat × Nat), PyData.depthAll (a.map pinD) ≤ 1
  | [] => by simp [PyData.depthAll]
  | x :: a => by
    have := pins_depth a
    rw [List.map_cons, PyData.depthAll]
    simp [pinD, PyData.depth, PyData.depthAll] at *
    omega
theorem rows_depth (w : RowD) : (rowP w).depth ≤ 32 := by
  have := pins_depth w.2.2
  simp [rowP, PyData.depth, PyData.depthAll]
  omega
/-- a list of the ways for which S holds, each once or more -/
def RowsOf (H : Hp) (y : V) (B : Nat) (S : RowD → Prop) : Prop := ∃ (l : Addr) (as : List Addr) (rs : List RowD), y = .ref l ∧ H l = some (.lst (as.map V.ref)) ∧ All2 (WayAt H) as rs ∧ (∀ w, w ∈ rs ↔ S w) ∧ rs.length ≤ B
/-- all but one dict is kept -/
theorem RowsOf.but {H H' : Hp} {Dc : Addr} {es : List (Key × V)} (hD : H Dc = some (.dK es)) (e : ExBut Dc H H') {y : V} {B : Nat} {S : RowD → Prop} (h : RowsOf H y B S) : RowsOf H' y B S := by
  obtain ⟨l, as, rs, rfl, h1, h2, h3⟩ := h
  have T : TEx H H' := fun b xs z => e b _ z (ne_of z hD (by intro q; cases q))
  exact ⟨l, as, rs, rfl, e l _ h1 (ne_of h1 hD (by intro q; cases q)), h2.imp fun _ _ z => z.te T, h3⟩
structure PathsAt (H : Hp) (es : List (Key × V)) (ns : List Str) (B : Str → Nat) (d : CircD) (S : List Pr) : Prop where
  ex : ∃ v : Str → V, HoldsV es ns v ∧ ∀ x ∈ ns, RowsOf H (v x) (B x) (Pth d S x)
end G
namespace G
open PySem PySem.Spec PyProof.Rows L2 Evl TL
theorem mu_le (Gs : List GateD) (n : Str) : muN Gs n ≤ Gs.length := by
  have : muN Gs n ≤ ((Gs.map (·.name)).reverse).length := List.idxOf_le_length
  rw [List.length_reverse, List.length_map] at this
  exact this
theorem pth_len {d : CircD} {Gs : List GateD} (N : Nets d) (W : Crea d Gs) {S : List Pr} {n : Str} {w : RowD} (h : Pth d S n w) : w.2.2.length + muN Gs n ≤ Gs.length := by
  induction h with
  | src _ _ =>
    show 0 + _ ≤ _
    rw [Nat.zero_add]
    exact mu_le Gs _
  | @gate gi g j m r u h1 h2 h3 h4 ih =>
    have := mu_lt N W (List.mem_of_getElem? h1) (List.mem_of_getElem? h2)
    show (u.2.2 ++ [(gi, j)]).length + _ ≤ _
    rw [List.length_append]
    show u.2.2.length + 1 + _ ≤ _
    omega
/-- at most so many ways -/
def wayB (Gs : List GateD) (n : Str) : Nat := 3 ^ (Gs.length - muN Gs n)
theorem wayB_pin {d : CircD} {Gs : List GateD} (N : Nets d) (W : Crea d Gs) {g : GateD} (hg : g ∈ d.gates) {m : Str} (hm : m ∈ g.pins) : wayB Gs m ≤ 3 ^ (Gs.length - muN Gs g.name - 1) := by
  have h1 := mu_lt N W hg hm
  have h2 := mu_le Gs m
  unfold wayB
  exact Nat.pow_le_pow_right (by decide) (by omega)
theorem wayB_gate {d : CircD} {Gs : List GateD} (W : Crea d Gs) {g : GateD} (hg : g ∈ d.gates) : wayB Gs g.name = 3 * 3 ^ (Gs.length - muN Gs g.name - 1) := by
  have hin : g.name ∈ (Gs.map (·.name)).reverse := List.mem_reverse.mpr (List.mem_map.mpr ⟨g, W.perm.mem_iff.mp hg, rfl⟩)
  have h1 := List.idxOf_lt_length_iff.mpr hin
  rw [List.length_reverse, List.length_map] at h1
  have h2 : muN Gs g.name < Gs.length := h1
  unfold wayB
  rw [show Gs.length - muN Gs g.name = (Gs.length - muN Gs g.name - 1) + 1 by omega, Nat.pow_succ, Nat.mul_comm, Nat.add_sub_cancel]
theorem wayB_le {Gs : List GateD} (h : Gs.length ≤ 9) (n : Str) : wayB Gs n ≤ 19683 := by
  have : wayB Gs n ≤ 3 ^ 9 := Nat.pow_le_pow_right (by decide) (by omega)
  exact this
theorem wayB_pos (Gs : List GateD) (n : Str) : 1 ≤ wayB Gs n := Nat.pow_pos (by decide)
theorem RowsOf.ex {H H' : Hp} (e : Ex H H') {y : V} {B : Nat} {S : RowD → Prop} (h : RowsOf H y B S) : RowsOf H' y B S := by
  obtain ⟨l, as, rs, rfl, h1, h2, h3⟩ := h
  exact ⟨l, as, rs, rfl, e _ _ h1, h2.imp fun _ _ z => z.te (TEx.of e), h3⟩
section
variable {H H' : Hp} {es : List (Key × V)} {ns : List Str} {B : Str → Nat} {d : CircD} {S : List Pr}
theorem PathsAt.ex' (e : Ex H H') (h : PathsAt H es ns B d S) : PathsAt H' es ns B d S := by
  obtain ⟨v, h1, h2⟩ := h.ex
  exact ⟨v, h1, fun x hx => (h2 x hx).ex e⟩
theorem PathsAt.congr {ns' : List Str} (e : ∀ x, x ∈ ns ↔ x ∈ ns') (h : PathsAt H es ns B d S) : PathsAt H es ns' B d S := by
  obtain ⟨v, h1, h2⟩ := h.ex
  exact ⟨v, h1.congr e, fun x hx => h2 x ((e x).mpr hx)⟩
theorem PathsAt.put {Dc : Addr} (hD : H Dc = some (.dK es)) (h : PathsAt H es ns B d S) {n : Str} {y : V} (hy : RowsOf H y (B n) (Pth d S n)) : PathsAt (upd H Dc (.dK (putK es (.inr n) y))) (putK es (.inr n) y) (ns ++ [n]) B d S := by
  obtain ⟨v, h1, h2⟩ := h.ex
  have e : ExBut Dc H (upd H Dc (.dK (putK es (.inr n) y))) := fun b o z ne => by rw [upd_ne ne]; exact z
  refine ⟨_, h1.put n y, fun x hx => ?_⟩
  show RowsOf _ (if x = n then y else v x) _ _
  by_cases z : x = n
  · rw [if_pos z, z]; exact hy.but hD e
  · rw [if_neg z]
    rcases List.mem_append.mp hx with m | m
    · exact (h2 x m).but hD e
    · exact absurd (List.mem_singleton.mp m) z
theorem PathsAt.get {H2 : Hp} {Dc : Addr} (hD : H2 Dc = some (.dK es)) (h : PathsAt H es ns B d S) {n : Str} (hn : n ∈ ns) : ∃ v, DGet H2 Dc (kV (Sum.inr n)) (some v) ∧ RowsOf H v (B n) (Pth d S n) := by
  obtain ⟨v, h1, h2⟩ := h.ex
  exact ⟨v n, h1.at_ hD hn, h2 n hn⟩
end
def rowV (z : Addr × RowD) : V × PyData := (.ref z.1, rowP z.2)
theorem perm_map_inv {α β : Type} {f : α → β} : ∀ {xs ys : List β}, xs.Perm ys → ∀ (zs : List α), ys = zs.map f → ∃ zs' : List α, xs = zs'.map f ∧ zs'.Perm zs := by
  intro xs ys p
  induction p with
  | nil => intro zs e; exact ⟨[], rfl, by rw [List.map_eq_nil_iff.mp e.symm]⟩
  | @cons x l1 l2 _ ih =>
    intro zs e
    cases zs with
    | nil => cases e
    | cons z zs =>
      obtain ⟨e1, e2⟩ := List.cons.inj e
      obtain ⟨zs', f1, f2⟩ := ih zs e2
      exact ⟨z :: zs', by rw [e1, f1]; rfl, f2.cons z⟩
  | @swap x y l =>
    intro zs e
    match zs, e with
    | a :: b :: zs, e =>
      obtain ⟨e1, e2⟩ := List.cons.inj e
      obtain ⟨e3, e4⟩ := List.cons.inj e2
      exact ⟨b :: a :: zs, by rw [e1, e3, e4]; rfl, .swap ..⟩
  | trans _ _ ih1 ih2 =>
    intro zs e
    obtain ⟨z1, f1, f2⟩ := ih2 zs e
    obtain ⟨z2, g1, g2⟩ := ih1 z1 f1
    exact ⟨z2, g1, g2.trans f2⟩
structure TxtW (mg : Str → Option Value) : Prop where
  len : mg "len" = none
  range : mg "range" = none
  sorted : mg "sorted" = none
section
variable {P : Program} {w : World} {K : PySem.W.Frag} {mg : Str → Option Value} {base : Heap}
def spLPaths : Sp := fun vs H Q _ => ∃ (c sl : Addr) (d : CircD) (Gs : List GateD) (it gt rt ot : Addr) (ga ra oa sa : List Addr) (S : List Pr), vs = [.ref c, .ref sl] ∧ CircAt H c d it gt rt ot ga ra oa ∧ Nets d ∧ Crea d Gs ∧ (∀ g ∈ d.gates, g.rng.length = g.pins.length) ∧ Gs.length ≤ 9 ∧
  H sl = some (.lst (sa.map V.ref)) ∧ All2 (IntsAt H) sa S ∧ S.length = (srcs d).length ∧ ∀ (q : Addr) (es : List (Key × V)) (H' : Hp), Ex H H' → H' q = some (.dK es) → PathsAt H' es (srcs d ++ gnames d) (wayB Gs) d S → Q (.ref q) H'
theorem sc_law_paths : FnScope ["circuit", "starts", "names", "found", "k", "index", "g", "gate", "rows", "row"] ["circuit", "starts"] (defScope s_law_paths) := ⟨rfl, rfl, rfl, by decide +kernel, rfl, by decide +kernel, by decide +kernel⟩
theorem ok_law_paths (D : Dfd K mg "_law_paths" s_law_paths ["circuit", "starts"]) (T : TxtW mg) (C1 : Has P w K mg base 1 "_law_sources" ["circuit"] spSources) (C2 : Has P w K mg base 2 "_law_sorted_gates" ["circuit"] spSorted) : Has P w K mg base 3 "_law_paths" ["circuit", "starts"] spLPaths := by
  obtain ⟨f_law_sources, d_law_sources, G_law_sources, g_law_sources, k_law_sources, b_law_sources⟩ := C1
  obtain ⟨f_law_sorted_gates, d_law_sorted_gates, G_law_sorted_gates, g_law_sorted_gates, k_law_sorted_gates, b_law_sorted_gates⟩ := C2
  refine D.has fun f fd F => F.ok sc_law_paths (fun vs H Q E h => ?_) (fun cdv Ar outer s H vs Q E hr h => ?_)
  · obtain ⟨c, sl, d, Gs, it, gt, rt, ot, ga, ra, oa, sa, S, rfl, _⟩ := h
    rfl
  · obtain ⟨c, sl, d, Gs, it, gt, rt, ot, ga, ra, oa, sa, S, rfl, hc, hN, hW, hrp, hG9, hsl, hS, hSl, q⟩ := h
    refine ⟨_, (pss_cons (ps_set (i := 2) sc_law_paths.nd rfl (.inl rfl) (pe_call G_law_sources (hr.mono (by omega)) (by rfl) g_law_sources k_law_sources b_law_sources .nil pass0 (pa_cons (pv 0) pa_nil)))
    (pss_cons (ps_set (i := 3) sc_law_paths.nd rfl (.inl rfl) pe_dnewK)
    (pss_cons (ps_for PassesOwn.never rfl (pi_range1 rfl T.range (pa_cons (pe_callB call_len_seq (by rfl) T.len (by decide +kernel) (pa_cons (pv 2) pa_nil)) pa_nil)) (pg_name (i := 4) sc_law_paths.nd rfl (.inl rfl))
      (pss_one (ps_asg (pe_lst (pa_cons (pe_tup (pa_cons (pe_un un_neg (pe_ix ix_tup (pe_ix ix_list (pv 1) (pv 4) (fun _ _ => rfl)) pe_int (fun _ _ => rfl))) (pa_cons (pe_tup (pa_cons (pv 4) (pa_cons (pe_tup pa_nil) pa_nil))) pa_nil))) pa_nil)) (pg_sub (pv 3) (pe_ix ix_list (pv 2) (pv 4) (fun _ _ => rfl)) (set_dict (hu_of hr))))))
    (pss_cons (ps_set (i := 5) sc_law_paths.nd rfl (.inl rfl) pe_dnewK)
    (pss_cons (ps_for PassesOwn.never rfl (pi_range1 rfl T.range (pa_cons (pe_callB call_len_seq (by rfl) T.len (by decide +kernel) (pa_cons (pe_ix ix_tup (pv 0) pe_int (fun _ _ => rfl)) pa_nil)) pa_nil)) (pg_name (i := 6) sc_law_paths.nd rfl (.inl rfl))
      (pss_one (ps_asg (pv 6) (pg_sub (pv 5) (pe_ix ix_tup (pe_ix ix_tup (pe_ix ix_tup (pv 0) pe_int (fun _ _ => rfl)) (pv 6) (fun _ _ => rfl)) pe_int (fun _ _ => rfl)) (set_dict (hu_of hr))))))
    (pss_cons (ps_for PassesOwn.never rfl (pi_list (pe_call G_law_sorted_gates (hr.mono (by omega)) (by rfl) g_law_sorted_gates k_law_sorted_gates b_law_sorted_gates .nil pass0 (pa_cons (pv 0) pa_nil))) (pg_name (i := 7) sc_law_paths.nd rfl (.inl rfl))
      (pss_cons (ps_set (i := 8) sc_law_paths.nd rfl (.inl rfl) (pe_lst pa_nil))
      (pss_cons (ps_for PassesOwn.never rfl (pi_range1 rfl T.range (pa_cons (pe_callB call_len_seq (by rfl) T.len (by decide +kernel) (pa_cons (pe_ix ix_tup (pv 7) pe_int (fun _ _ => rfl)) pa_nil)) pa_nil)) (pg_name (i := 4) sc_law_paths.nd rfl (.inl rfl))
        (pss_one (ps_for PassesOwn.never rfl (pi_list (pe_dget (hu_of hr) (pv 3) (pe_ix ix_tup (pe_ix ix_tup (pv 7) pe_int (fun _ _ => rfl)) (pv 4) (fun _ _ => rfl)) (fun _ _ => rfl))) (pg_name (i := 9) sc_law_paths.nd rfl (.inl rfl))
          (pss_one (ps_expr (pe_bm PySem.F.plainAttrs_list PySem.F.slot_list_append PySem.F.type_list_append mt_append (pv 8) (pa_cons (pe_tup (pa_cons (pe_op op_sub (pe_ix ix_tup (pv 9) pe_int (fun _ _ => rfl)) (pe_ix ix_tup (pe_ix ix_tup (pe_ix ix_tup (pv 7) pe_int (fun _ _ => rfl)) (pv 4) (fun _ _ => rfl)) pe_int (fun _ _ => rfl))) (pa_cons (pe_tup (pa_cons (pe_ix ix_tup (pe_ix ix_tup (pv 9) pe_int (fun _ _ => rfl)) pe_int (fun _ _ => rfl)) (pa_cons (pe_op op_catA (pe_ix ix_tup (pe_ix ix_tup (pv 9) pe_int (fun _ _ => rfl)) pe_int (fun _ _ => rfl)) (pe_tup (pa_cons (pe_tup (pa_cons (pe_dget (hu_of hr) (pv 5) (pe_ix ix_tup (pv 7) pe_int (fun _ _ => rfl)) (fun _ _ => rfl)) (pa_cons (pv 4) pa_nil))) pa_nil))) pa_nil))) pa_nil))) pa_nil)))))))
      (pss_one (ps_asg (pe_callB (cr_sortedN hr.units) (by rfl) T.sorted (by decide +kernel) (pa_cons (pv 8) pa_nil)) (pg_sub (pv 3) (pe_ix ix_tup (pv 7) pe_int (fun _ _ => rfl)) (set_dict (hu_of hr))))))))
    (pss_one (ps_ret (pv 3))))))))), ?_⟩
    have hs := hN.fews
    have hg16 := hN.few
    refine ⟨_, rfl, c, d, it, gt, rt, ot, ga, ra, oa, rfl, hc, by omega, fun nl H1 nnl E1 hnl => fun Dc nD => ?_⟩
    have nDH : H Dc = none := fresh_back E1 nD
    have hD0 : upd H1 Dc (.dK []) Dc = some (.dK []) := upd_same
    have E2 := E1.trans (Ex.new (o := .dK []) nD)
    have hnl2 : upd H1 Dc (.dK []) nl = some (.lst ((srcs d).map V.str)) := Ex.new nD _ _ hnl
    generalize upd H1 Dc (.dK []) = H2 at *
    have nDn : nl ≠ Dc := ne_of_none hnl nD
    refine ⟨_, rfl, _, _, rfl, .inl (SqL.of hnl2), (srcs d).length, by rw [List.length_map], by omega, by omega, for_range (n := (((srcs d).length : Nat) : Int).toNat)
      (fun j σ H' => Ex H H' ∧ H' nl = some (.lst ((srcs d).map V.str)) ∧ ∃ (es : List (Key × V)) (y : Option V), H' Dc = some (.dK es) ∧ es.length ≤ j ∧ PathsAt H' es ((srcs d).take j) (wayB Gs) d S ∧ σ = [some (.ref c), some (.ref sl), some (.ref nl), some (.ref Dc), y, none, none, none, none, none])
      ⟨E2, hnl2, [], _, hD0, Nat.le_refl _, ⟨⟨fun _ => .non, HoldsV.nil, (fun _ h => nomatch h)⟩⟩, rfl⟩ ?_ ?_⟩
    · rintro j σ H3 hj ⟨E3, hnl3, es, y, hD, hel, hP, rfl⟩
      rw [Int.toNat_natCast] at hj
      have ej : (0 : Int) + (j : Int) = (j : Int) := Int.zero_add _
      rw [ej]
      obtain ⟨r, hr'⟩ : ∃ r, S[j]? = some r := ⟨_, List.getElem?_eq_getElem (by omega)⟩
      obtain ⟨b, hb, hbr⟩ := hS.of hr'
      have hx := strV_at hj
      refine ⟨_, rfl, _, rfl, _, _, _, _, rfl, rfl, SqL.of (E3 _ _ hsl), at_of (j := j) rfl (by rw [List.getElem?_map, hb]; rfl), _, _, _, _, rfl, rfl, SqT.of (E3 _ _ hbr), atI_nat (j := 1) rfl, _, rfl, _, rfl, Nat.zero_le _, fun q0 nq0 => ⟨by show 2 ≤ sizeLine; decide, fun q1 nq1 => ⟨by show 2 ≤ sizeLine; decide, fun q2 nq2 => ⟨by show 1 ≤ sizeLine; decide, fun q3 nq3 => ?_⟩⟩⟩⟩
      have e4 : Ex H3 (upd H3 q0 (.tup [])) := Ex.new nq0
      have k4 : upd H3 q0 (.tup []) q0 = some (.tup []) := upd_same
      generalize upd H3 q0 (.tup []) = H4 at *
      have e5 : Ex H4 (upd H4 q1 (.tup [.int (j : Int), .ref q0])) := Ex.new nq1
      have k5 : upd H4 q1 (.tup [.int (j : Int), .ref q0]) q1 = some (.tup [.int (j : Int), .ref q0]) := upd_same
      generalize upd H4 q1 (.tup [.int (j : Int), .ref q0]) = H5 at *
      have e6 : Ex H5 (upd H5 q2 (.tup [.int (-r.2), .ref q1])) := Ex.new nq2
      have k6 : upd H5 q2 (.tup [.int (-r.2), .ref q1]) q2 = some (.tup [.int (-r.2), .ref q1]) := upd_same
      generalize upd H5 q2 (.tup [.int (-r.2), .ref q1]) = H6 at *
      have e7 : Ex H6 (upd H6 q3 (.lst [.ref q2])) := Ex.new nq3
      have k7 : upd H6 q3 (.lst [.ref q2]) q3 = some (.lst [.ref q2]) := upd_same
      generalize upd H6 q3 (.lst [.ref q2]) = H7 at *
      have e37 := e4.trans (e5.trans (e6.trans e7))
      have hD7 := e37 _ _ hD
      have hnl7 := e37 _ _ hnl3
      refine ⟨_, rfl, _, rfl, _, rfl, _, _, _, _, rfl, rfl, SqL.of hnl7, at_of (j := j) rfl hx, Dc, _, rfl, .inl ⟨es, .inr (srcs d)[j], hD7, rfl, sz_lt (by omega), rfl⟩, ?_⟩
      refine ⟨(E3.trans e37).mut nDH, by rw [upd_ne nDn]; exact hnl7, _, _, upd_same, Nat.le_trans (length_putK _ _ _) (by omega), ?_, rfl⟩
      rw [take_snoc1 (List.getElem?_eq_getElem hj)]
      refine (hP.ex' e37).put hD7 ⟨q3, [q2], [(-r.2, j, [])], rfl, k7, .cons ⟨q1, q0, [], (e6.trans e7 |> fun _ => e7) _ _ k6, (e6.trans e7) _ _ k5, (e5.trans (e6.trans e7)) _ _ k4, .nil⟩ .nil, fun w => ?_, wayB_pos _ _⟩
      rw [List.mem_singleton, pth_src hN (List.getElem?_eq_getElem hj) hr']
    rintro σ H3 ⟨E3, hnl3, es, y, hD, hel, hP, rfl⟩
    rw [Int.toNat_natCast, List.take_length] at hP
    rw [Int.toNat_natCast] at hel
    -- the places of the gates
    refine fun Di nDi => ?_
    have e3 : Ex H3 (upd H3 Di (.dK [])) := Ex.new nDi
    have hDi0 : upd H3 Di (.dK []) Di = some (.dK []) := upd_same
    generalize upd H3 Di (.dK []) = H4 at *
    have hD4 := e3 _ _ hD
    have hP4 := hP.ex' e3
    have nDiD : Dc ≠ Di := ne_of_none hD nDi
    have nDiH : H Di = none := fresh_back E3 nDi
    have E4 := E3.trans e3
    have hgl : ga.length = d.gates.length := hc.gates.1
    have keepD : ∀ {b : Addr} {o : HO}, H4 b = some o → b ≠ Di → Ex H4 H4 := fun _ _ => .refl _
    refine ⟨_, rfl, _, _, _, _, rfl, rfl, SqT.of (hc.te (TEx.of E4)).top, atI_nat (j := 1) rfl, _, _, rfl, .inr (SqT.of (hc.te (TEx.of E4)).gts), d.gates.length, by rw [List.length_map, hgl], by omega, by omega, for_range (n := ((d.gates.length : Nat) : Int).toNat)
      (fun j σ H' => Ex H H' ∧ ExBut Di H4 H' ∧ ∃ (ei : List (Key × V)) (y4 y6 : Option V), H' Di = some (.dK ei) ∧ ei.length ≤ j ∧ HoldsV ei ((gnames d).take j) (fun x => .int ((gnames d).idxOf x : Nat)) ∧ σ = [some (.ref c), some (.ref sl), some (.ref nl), some (.ref Dc), y4, some (.ref Di), y6, none, none, none])
      ⟨E4, fun b o h _ => h, [], _, _, hDi0, Nat.le_refl _, HoldsV.nil, rfl⟩ ?_ ?_⟩
    · rintro j σ H5 hj ⟨E5, B5, ei, y4, y6, hDi, hil, hV, rfl⟩
      rw [Int.toNat_natCast] at hj
      have ej : (0 : Int) + (j : Int) = (j : Int) := Int.zero_add _
      rw [ej]
      obtain ⟨g, hg⟩ : ∃ g, d.gates[j]? = some g := ⟨_, List.getElem?_eq_getElem hj⟩
      have hc5 := hc.te (TEx.of E5)
      obtain ⟨b, hb, t, pt, rgt, rla, hgt, _⟩ := hc5.gates.of hg
      have hgn : (gnames d)[j]? = some g.name := by unfold gnames; rw [List.getElem?_map, hg]; rfl
      have hix : (gnames d).idxOf g.name = j := by
        obtain ⟨l1, e1⟩ := List.getElem?_eq_some_iff.mp hgn
        have nd : (gnames d).Nodup := (List.nodup_append.mp hN.nd).2.1
        rw [← e1, nd.idxOf_getElem]
      refine ⟨_, rfl, _, rfl, _, rfl, _, _, _, _, rfl, rfl, SqT.of hc5.top, atI_nat (j := 1) rfl, _, rfl, _, _, _, _, rfl, rfl, SqT.of hc5.gts, at_of (j := j) rfl (by rw [List.getElem?_map, hb]; rfl), _, _, _, _, rfl, rfl, SqT.of hgt, atI_nat (j := 0) rfl, Di, _, rfl, .inl ⟨ei, .inr g.name, hDi, rfl, sz_lt (by omega), rfl⟩, ?_⟩
      refine ⟨E5.mut nDiH, fun b o h ne => by rw [upd_ne ne]; exact B5 b o h ne, _, _, _, upd_same, Nat.le_trans (length_putK _ _ _) (by omega), ?_, rfl⟩
      rw [take_snoc1 hgn]
      refine (hV.put g.name (.int (j : Int))).fn fun x _ => ?_
      by_cases z : x = g.name
      · rw [if_pos z, z, hix]
      · rw [if_neg z]
    rintro σ H5 ⟨E5, B5, ei, y4, y6, hDi, hil, hV, rfl⟩
    rw [Int.toNat_natCast] at hV
    have hgnl : (gnames d).length = d.gates.length := List.length_map _
    rw [← hgnl, List.take_length] at hV
    have hD5 := B5 _ _ hD4 nDiD
    have hP5 : PathsAt H5 es (srcs d) (wayB Gs) d S := by
      obtain ⟨v, h1, h2⟩ := hP4.ex
      exact ⟨v, h1, fun x hx => (h2 x hx).but hDi0 B5⟩
    clear hP hP4 hD hD4 E3 E4 e3 B5 keepD hDi0 hD0 E2 E1
    -- the gates
    refine ⟨_, rfl, c, d, Gs, it, gt, rt, ot, ga, ra, oa, rfl, hc.te (TEx.of E5), hN, hW, fun fl fa FG H6 E6 hfl hF hSG hall hFl => ?_⟩
    have hD6 := E6 _ _ hD5
    have hDi6 := E6 _ _ hDi
    have hP6 := hP5.ex' E6
    have E06 := E5.trans E6
    refine ⟨fl, rfl, ⟨_, SqL.of hfl⟩, for_list (K := K) (a := fl) (xs := fa.map V.ref)
      (fun i σ H' => Ex H H' ∧ ExBut Dc H6 H' ∧ ∃ (es : List (Key × V)) (y4 y6 y7 y8 y9 : Option V), H' Dc = some (.dK es) ∧ es.length ≤ (srcs d).length + i ∧ PathsAt H' es (srcs d ++ (FG.take i).map (·.name)) (wayB Gs) d S ∧ σ = [some (.ref c), some (.ref sl), some (.ref nl), some (.ref Dc), y4, some (.ref Di), y6, y7, y8, y9])
      ⟨E06, fun b o h _ => h, es, _, _, _, _, _, hD6, by omega, by rw [List.take_zero, List.map_nil, List.append_nil]; exact hP6, rfl⟩ (fun i σ H' _ g => SqL.of (g.2.1 _ _ hfl (ne_of hfl hD6 (by intro z; cases z)))) ?_ ?_⟩
    · rintro i xv σ H7 hx ⟨E7, B7, es, y4, y6, y7, y8, y9, hD7, hel7, hP7, rfl⟩
      obtain ⟨b, hb, rfl⟩ := refs_get hx
      obtain ⟨g, hg, hgA6⟩ := hF.at_ hb
      have hgm := hSG.sub g (List.mem_of_getElem? hg)
      obtain ⟨gi, hgi', egi⟩ := List.getElem_of_mem hgm
      have hgi : d.gates[gi]? = some g := List.getElem?_eq_some_iff.mpr ⟨hgi', egi⟩
      have hil : i < FG.length := (List.getElem?_eq_some_iff.mp hg).1
      have hp3 := hN.fewp g hgm
      have hrl := hrp g hgm
      have hin := hSG.cl i g hg
      have T67 : TEx H6 H7 := fun b xs h => B7 b _ h (ne_of h hD6 (by intro z; cases z))
      obtain ⟨t, pt, rgt, rla, hg1, hg2, hg3, hg4, hg5⟩ := (hgA6.te (TEx.of E6)).te T67
      have hDi7 := B7 _ _ hDi6 nDiD.symm
      have hix : (gnames d).idxOf g.name = gi := by
        have hgn : (gnames d)[gi]? = some g.name := by unfold gnames; rw [List.getElem?_map, hgi]; rfl
        obtain ⟨l1, e1⟩ := List.getElem?_eq_some_iff.mp hgn
        have nd : (gnames d).Nodup := (List.nodup_append.mp hN.nd).2.1
        rw [← e1, nd.idxOf_getElem]
      have hB1 := wayB_gate hW hgm
      have hB2 := wayB_le hG9 g.name
      obtain ⟨B1, eB1⟩ : ∃ B1, B1 = 3 ^ (Gs.length - muN Gs g.name - 1) := ⟨_, rfl⟩
      rw [← eB1] at hB1
      refine ⟨Nat.zero_le _, fun rl nrl => ?_⟩
      have nrlH : H rl = none := fresh_back E7 nrl
      have E8 : Ex H7 (upd H7 rl (.lst [])) := Ex.new nrl
      have hrl8 : upd H7 rl (.lst []) rl = some (.lst []) := upd_same
      generalize upd H7 rl (.lst []) = H8 at *
      refine ⟨_, rfl, _, _, _, _, rfl, rfl, SqT.of (E8 _ _ hg1), atI_nat (j := 2) rfl, _, _, rfl, .inr (SqT.of (E8 _ _ hg3)), g.pins.length, by rw [List.length_map], by omega, by omega, for_range (n := ((g.pins.length : Nat) : Int).toNat)
        (fun k σ H' => Ex H7 H' ∧ ∃ (as : List Addr) (rs : List RowD) (y4 y9 : Option V), H' rl = some (.lst (as.map V.ref)) ∧ All2 (WayAt H') as rs ∧ (∀ w, w ∈ rs ↔ PthK d S gi g k w) ∧ rs.length ≤ k * B1 ∧ σ = [some (.ref c), some (.ref sl), some (.ref nl), some (.ref Dc), y4, some (.ref Di), y6, some (.ref b), some (.ref rl), y9])
        ⟨E8, [], [], _, _, hrl8, .nil, fun w => ⟨(fun h => nomatch h), fun h => absurd h (pthk_zero w)⟩, Nat.zero_le _, rfl⟩ ?_ ?_⟩
      · rintro k σ H9 hk ⟨E9, as, rs, y4, y9, hrl9, hA9, hm9, hl9, rfl⟩
        rw [Int.toNat_natCast] at hk
        have ek : (0 : Int) + (k : Int) = (k : Int) := Int.zero_add _
        rw [ek]
        obtain ⟨m, hm⟩ : ∃ m, g.pins[k]? = some m := ⟨_, List.getElem?_eq_getElem hk⟩
        obtain ⟨r, hr'⟩ : ∃ r, g.rng[k]? = some r := ⟨_, List.getElem?_eq_getElem (by omega)⟩
        obtain ⟨rb, hrb, hrI⟩ := hg5.of hr'
        obtain ⟨v, hv, l0, as0, rs0, rfl, hl0, hA0, hm0, hn0⟩ := hP7.get (E9 _ _ hD7) (hin m (List.mem_of_getElem? hm))
        have hBm := Nat.le_trans hn0 (wayB_pin hN hW hgm (List.mem_of_getElem? hm))
        rw [← eB1] at hBm
        refine ⟨_, rfl, _, rfl, _, _, _, _, rfl, rfl, SqT.of (E9 _ _ hg1), atI_nat (j := 2) rfl, _, rfl, _, _, _, _, rfl, rfl, SqT.of (E9 _ _ hg3), at_of (j := k) rfl (by rw [List.getElem?_map, hm]; rfl), Dc, _, rfl, hv, l0, rfl, ⟨_, SqL.of (E9 _ _ hl0)⟩, for_list (K := K) (a := l0) (xs := as0.map V.ref)
          (fun t σ H' => Ex H7 H' ∧ ∃ (as : List Addr) (rs : List RowD) (y9 : Option V), H' rl = some (.lst (as.map V.ref)) ∧ All2 (WayAt H') as rs ∧ (∀ w, w ∈ rs ↔ (PthK d S gi g k w ∨ ∃ u ∈ rs0.take t, w = extR gi k r u)) ∧ rs.length ≤ k * B1 + t ∧ σ = [some (.ref c), some (.ref sl), some (.ref nl), some (.ref Dc), some (.int (k : Int)), some (.ref Di), y6, some (.ref b), some (.ref rl), y9])
          ⟨E9, as, rs, _, hrl9, hA9, fun w => (hm9 w).trans ⟨.inl, fun z => z.elim id fun ⟨u, hu, _⟩ => by rw [List.take_zero] at hu; cases hu⟩, by omega, rfl⟩ (fun t σ H' _ z => SqL.of (z.1 _ _ hl0)) ?_ ?_⟩
        · rintro tt xw σ H10 hxw ⟨E10, as, rs, y9, hrl10, hA10, hm10, hl10, rfl⟩
          obtain ⟨wa, hwa, rfl⟩ := refs_get hxw
          obtain ⟨u, hu, hwA⟩ := hA0.at_ hwa
          have htt := (List.getElem?_eq_some_iff.mp hu).1
          obtain ⟨w1, w2, qs, ha1, ha2, ha3, ha4⟩ := hwA.te (TEx.of E10)
          have hk9 : (k + 1) * B1 ≤ 3 * B1 := Nat.mul_le_mul_right _ (by omega)
          rw [Nat.add_mul, Nat.one_mul] at hk9
          have hul : u.2.2.length ≤ 9 := by
            have := pth_len hN hW ((hm0 u).mp (List.mem_of_getElem? hu))
            omega
          have hqs : qs.length = u.2.2.length := ha4.1
          have hdi : DGet H10 Di (kV (Sum.inr g.name)) (some (.int (gi : Int))) := by
            have := hV.at_ (E10 _ _ hDi7) (show g.name ∈ gnames d from List.mem_map.mpr ⟨g, hgm, rfl⟩)
            rw [hix] at this; exact this
          refine ⟨_, rfl, .inl ⟨rfl, _, SqL.of hrl10⟩, _, rfl, _, _, _, _, rfl, rfl, SqT.of ha1, atI_nat (j := 0) rfl, _, rfl, _, _, _, _, rfl, rfl, SqT.of (E10 _ _ hg1), atI_nat (j := 3) rfl, _, rfl, _, _, _, _, rfl, rfl, SqT.of (E10 _ _ hg4), at_of (j := k) rfl (by rw [List.getElem?_map, hrb]; rfl), _, _, _, _, rfl, rfl, SqT.of (E10 _ _ hrI), atI_nat (j := 1) rfl, _, _, rfl, rfl,
            _, rfl, _, _, _, _, rfl, rfl, SqT.of ha1, atI_nat (j := 1) rfl, _, _, _, _, rfl, rfl, SqT.of ha2, atI_nat (j := 0) rfl,
            _, rfl, _, _, _, _, rfl, rfl, SqT.of ha1, atI_nat (j := 1) rfl, _, _, _, _, rfl, rfl, SqT.of ha2, atI_nat (j := 1) rfl,
            _, rfl, _, rfl, _, _, _, _, rfl, rfl, SqT.of (E10 _ _ hg1), atI_nat (j := 0) rfl, Di, _, rfl, hdi, _, rfl, by show 2 ≤ sizeLine; decide, fun p1 np1 => ⟨by show 1 ≤ sizeLine; decide, fun p2 np2 => ?_⟩⟩
          have e11 : Ex H10 (upd H10 p1 (.tup [.int (gi : Int), .int (k : Int)])) := Ex.new np1
          have k11 : upd H10 p1 (.tup [.int (gi : Int), .int (k : Int)]) p1 = some (.tup [.int (gi : Int), .int (k : Int)]) := upd_same
          generalize upd H10 p1 (.tup [.int (gi : Int), .int (k : Int)]) = H11 at *
          have e12 : Ex H11 (upd H11 p2 (.tup [.ref p1])) := Ex.new np2
          have k12 : upd H11 p2 (.tup [.ref p1]) p2 = some (.tup [.ref p1]) := upd_same
          generalize upd H11 p2 (.tup [.ref p1]) = H12 at *
          refine cat_tup ((e11.trans e12) _ _ ha3) k12 (by rw [List.length_map, hqs, sizeLine_eq]; show _ + 1 ≤ _; omega) fun c0 H13 e13 hc13 => ⟨by show 2 ≤ sizeLine; decide, fun p3 np3 => ⟨by show 2 ≤ sizeLine; decide, fun p4 np4 => ?_⟩⟩
          have e14 : Ex H13 (upd H13 p3 (.tup [.int (u.2.1 : Int), .ref c0])) := Ex.new np3
          have k14 : upd H13 p3 (.tup [.int (u.2.1 : Int), .ref c0]) p3 = some (.tup [.int (u.2.1 : Int), .ref c0]) := upd_same
          generalize upd H13 p3 (.tup [.int (u.2.1 : Int), .ref c0]) = H14 at *
          have e15 : Ex H14 (upd H14 p4 (.tup [.int (u.1 - r.2), .ref p3])) := Ex.new np4
          have k15 : upd H14 p4 (.tup [.int (u.1 - r.2), .ref p3]) p4 = some (.tup [.int (u.1 - r.2), .ref p3]) := upd_same
          generalize upd H14 p4 (.tup [.int (u.1 - r.2), .ref p3]) = H15 at *
          have e35 := e14.trans e15
          have e15' := (e11.trans e12).trans (e13.trans e35)
          have hrl15 := e15' _ _ hrl10
          refine ⟨rl, _, .ref p4, rfl, rfl, hrl15, sz_lt (by rw [List.length_map, hA10.1]; omega), (E10.trans e15').mut nrl, as ++ [p4], rs ++ [extR gi k r u], _, by rw [upd_same, List.map_append]; rfl, ?_, fun w => ?_, by rw [List.length_append]; show _ + 1 ≤ _; omega, rfl⟩
          · refine ((hA10.imp fun _ _ z => z.te (TEx.of e15')).snoc (show WayAt H15 p4 (extR gi k r u) from ⟨p3, c0, qs ++ [p1], k15, e15 _ _ k14, ?_, ?_⟩)).imp fun _ _ z => z.te (TEx.mut hrl15)
            · rw [List.map_append]; exact e35 _ _ hc13
            · exact (ha4.imp fun _ _ z => z.te (TEx.of e15')).snoc (show IntsAt H15 p1 (pinP (gi, k)) from (e12.trans (e13.trans e35)) _ _ k11)
          · rw [List.mem_append, hm10 w, List.mem_singleton, take_snoc1 hu]
            constructor
            · rintro ((z | ⟨u', hu', e⟩) | e)
              · exact .inl z
              · exact .inr ⟨u', List.mem_append_left _ hu', e⟩
              · exact .inr ⟨u, List.mem_append_right _ (List.mem_singleton.mpr rfl), e⟩
            · rintro (z | ⟨u', hu', e⟩)
              · exact .inl (.inl z)
              · rcases List.mem_append.mp hu' with m | m
                · exact .inl (.inr ⟨u', m, e⟩)
                · rw [List.mem_singleton.mp m] at e
                  exact .inr e
        · rintro σ H10 ⟨E10, as, rs, y9, hrl10, hA10, hm10, hl10, rfl⟩
          have e0 : (as0.map V.ref).length = rs0.length := by rw [List.length_map, hA0.1]
          rw [e0, List.take_length] at hm10
          rw [e0] at hl10
          refine ⟨E10, as, rs, _, _, hrl10, hA10, fun w => ?_, by rw [Nat.add_mul, Nat.one_mul]; omega, rfl⟩
          rw [hm10 w, pthk_succ hm hr' w]
          exact or_congr Iff.rfl ⟨fun ⟨u, hu, e⟩ => ⟨u, (hm0 u).mp hu, e⟩, fun ⟨u, hu, e⟩ => ⟨u, (hm0 u).mpr hu, e⟩⟩
      · rintro σ H9 ⟨E9, as, rs, y4, y9, hrl9, hA9, hm9, hl9, rfl⟩
        rw [Int.toNat_natCast] at hm9 hl9
        have hl9' : rs.length ≤ 3 * B1 := Nat.le_trans hl9 (Nat.mul_le_mul_right _ hp3)
        have hzl : ∀ z ∈ as.zip rs, WayAt H9 z.1 z.2 := fun z hz => by
          obtain ⟨i, hi, e⟩ := List.getElem_of_mem hz
          rw [List.length_zip] at hi
          rw [List.getElem_zip] at e
          rw [← e]
          exact hA9.2 i _ _ (List.getElem?_eq_getElem (by omega)) (List.getElem?_eq_getElem (by omega))
        have hz1 : (as.zip rs).map (·.1) = as := List.map_fst_zip (Nat.le_of_eq hA9.1)
        have hz2 : (as.zip rs).map (·.2) = rs := List.map_snd_zip (Nat.le_of_eq hA9.1.symm)
        refine ⟨_, rfl, rl, (as.zip rs).map rowV, rfl, ?_, ?_, ?_, ?_, ?_, fun q9 nq9 => ?_⟩
        · have e : ((as.zip rs).map rowV).map (·.1) = as.map V.ref := by
            rw [List.map_map]
            exact (List.map_map (f := fun z : Addr × RowD => z.1) (g := V.ref) (l := as.zip rs)).symm.trans (by rw [hz1])
          rw [e]; exact SqL.of hrl9
        · intro p hp
          obtain ⟨z, hz, rfl⟩ := List.mem_map.mp hp
          exact (hzl z hz).rd
        · rw [List.map_map]
          exact PySem.W.AllAlike.of (enc := fun z : Addr × RowD => rowP z.2) fun a b => rows_alike a.2 b.2
        · intro p hp
          obtain ⟨z, hz, rfl⟩ := List.mem_map.mp hp
          exact ⟨_, _, rfl⟩
        · intro p hp
          obtain ⟨z, hz, rfl⟩ := List.mem_map.mp hp
          exact rows_depth z.2
        obtain ⟨zs, ezs, pzs⟩ := perm_map_inv (List.mergeSort_perm ((as.zip rs).map rowV) _) (as.zip rs) rfl
        have hq9 : upd H9 q9 (.lst ((sortN ((as.zip rs).map rowV)).map (·.1))) q9 = some (.lst ((zs.map (·.1)).map V.ref)) := by
          rw [upd_same]
          unfold sortN
          rw [ezs, List.map_map, List.map_map]; rfl
        have e10 : Ex H9 (upd H9 q9 (.lst ((sortN ((as.zip rs).map rowV)).map (·.1)))) := Ex.new nq9
        generalize upd H9 q9 (.lst ((sortN ((as.zip rs).map rowV)).map (·.1))) = H10 at *
        have e79 := E9.trans e10
        have hD10 := e79 _ _ hD7
        refine ⟨_, rfl, _, rfl, _, _, _, _, rfl, rfl, SqT.of (e79 _ _ hg1), atI_nat (j := 0) rfl, Dc, _, rfl, .inl ⟨es, .inr g.name, hD10, rfl, sz_lt (by omega), rfl⟩, ?_⟩
        refine ⟨(E7.trans e79).mut nDH, fun b o h ne => by rw [upd_ne ne]; exact e79 _ _ (B7 b o h ne), _, _, _, _, _, _, upd_same, Nat.le_trans (length_putK _ _ _) (by omega), ?_, rfl⟩
        rw [take_snoc1 hg, List.map_append, ← List.append_assoc]
        refine (hP7.ex' e79).put hD10 ⟨q9, zs.map (·.1), zs.map (·.2), rfl, hq9, ⟨by rw [List.length_map, List.length_map], fun i x y hx hy => ?_⟩, fun w => ?_, ?_⟩
        · rw [List.getElem?_map] at hx hy
          cases ez : zs[i]? with
          | none => rw [ez] at hx; cases hx
          | some z =>
            rw [ez] at hx hy
            cases hx; cases hy
            exact (hzl z (pzs.mem_iff.mp (List.mem_of_getElem? ez))).te (TEx.of e10)
        · rw [← pth_gate hN hgi, ← hm9 w, ← hz2]
          exact (pzs.map (·.2)).mem_iff
        · have : (zs.map fun z : Addr × RowD => z.2).length = rs.length := by rw [(pzs.map fun z : Addr × RowD => z.2).length_eq, hz2]
          rw [this, hB1]; exact hl9'
    · rintro σ H7 ⟨E7, B7, es, y4, y6, y7, y8, y9, hD7, hel7, hP7, rfl⟩
      rw [List.length_map, hF.1, List.take_length] at hP7
      refine ⟨_, rfl, q Dc es H7 E7 hD7 (hP7.congr fun x => ?_)⟩
      rw [List.mem_append, List.mem_append]
      refine or_congr Iff.rfl ⟨fun z => ?_, fun z => ?_⟩
      · obtain ⟨g, hg, rfl⟩ := List.mem_map.mp z
        exact List.mem_map.mpr ⟨g, hSG.sub g hg, rfl⟩
      · obtain ⟨g, hg, rfl⟩ := List.mem_map.mp z
        exact List.mem_map.mpr ⟨g, hall g hg, rfl⟩
end
end G
namespace G
open PySem PySem.Spec PyProof.Rows L2 Evl TL
/-! ## the ways to a net and its latest change -/
theorem known_mem {A : Str → Option Pr} {xs : List Str} {rs : List Pr} {k : Nat} {x : Str} {r p : Pr} (hx : xs[k]? = some x) (hr : rs[k]? = some r) (hA : A x = some p) : (p, r) ∈ knownP A xs rs := by
  unfold knownP
  refine List.mem_filterMap.mpr ⟨(x, r), ?_, by rw [hA]; rfl⟩
  exact List.mem_of_getElem? (i := k) (List.getElem?_zip_eq_some.mpr ⟨hx, hr⟩)
theorem known_of {A : Str → Option Pr} {xs : List Str} {rs : List Pr} {p r : Pr} (h : (p, r) ∈ knownP A xs rs) : ∃ (k : Nat) (x : Str), xs[k]? = some x ∧ rs[k]? = some r ∧ A x = some p := by
  unfold knownP at h
  obtain ⟨⟨x, r'⟩, h1, h2⟩ := List.mem_filterMap.mp h
  obtain ⟨k, hk, e⟩ := List.getElem_of_mem h1
  have h3 : (xs.zip rs)[k]? = some (x, r') := List.getElem?_eq_some_iff.mpr ⟨hk, e⟩
  obtain ⟨a, b⟩ := List.getElem?_zip_eq_some.mp h3
  cases hA : A x with
  | none => rw [hA] at h2; cases h2
  | some q =>
    rw [hA] at h2
    cases h2
    exact ⟨k, x, a, b, hA⟩
section
variable {d : CircD} {Gs : List GateD} {S : List Pr} {A : Str → Option Pr}
theorem pth_le (hA : Arr d S A) {n : Str} {w : RowD} (h : Pth d S n w) : ∃ p, A n = some p ∧ -p.2 ≤ w.1 := by
  induction h with
  | @src k n p h1 h2 => exact ⟨p, by rw [← hA.src k n h1]; exact h2, Int.le_refl _⟩
  | @gate gi g j m r u h1 h2 h3 h4 ih =>
    obtain ⟨pm, e1, e2⟩ := ih
    have hk := known_mem h2 h3 e1
    have hG := hA.gate g (List.mem_of_getElem? h1)
    cases e : A g.name with
    | none =>
      rw [e] at hG
      have hG : knownP A g.pins g.rng = [] := hG
      rw [hG] at hk; cases hk
    | some p =>
      rw [e] at hG
      obtain ⟨_, _, h5⟩ := hG
      have := h5 (pm.2 + r.2) (List.mem_map.mpr ⟨(pm, r), hk, rfl⟩)
      refine ⟨p, rfl, ?_⟩
      show -p.2 ≤ u.1 - r.2
      omega
theorem pth_at (N : Nets d) (W : Crea d Gs) (hS : S.length = (srcs d).length) (hA : Arr d S A) : ∀ (b : Nat) (n : Str), n ∈ srcs d ++ gnames d → Gs.length - muN Gs n < b → ∀ p, A n = some p → ∃ w, Pth d S n w ∧ w.1 = -p.2
  | 0, _, _, h, _, _ => absurd h (Nat.not_lt_zero _)
  | b + 1, n, hn, hb, p, hp => by
    rcases List.mem_append.mp hn with z | z
    · obtain ⟨k, hk, e⟩ := List.getElem_of_mem z
      have h1 : (srcs d)[k]? = some n := List.getElem?_eq_some_iff.mpr ⟨hk, e⟩
      exact ⟨_, .src h1 ((hA.src k n h1).trans hp), rfl⟩
    · obtain ⟨g, hg, rfl⟩ := List.mem_map.mp z
      obtain ⟨gi, hgi, eg⟩ := List.getElem_of_mem hg
      have hG := hA.gate g hg
      rw [hp] at hG
      obtain ⟨_, h1, _⟩ := hG
      obtain ⟨⟨pm, r⟩, h2, h3⟩ := List.mem_map.mp h1
      obtain ⟨j, m, a1, a2, a3⟩ := known_of h2
      have hm := List.mem_of_getElem? a1
      have hlt := mu_lt N W hg hm
      have hle := mu_le Gs m
      obtain ⟨u, hu, eu⟩ := pth_at N W hS hA b m (N.pins g hg m hm) (by omega) pm a3
      refine ⟨extR gi j r u, .gate (List.getElem?_eq_some_iff.mpr ⟨hgi, eg⟩) a1 a2 hu, ?_⟩
      show u.1 - r.2 = -p.2
      have h3 : pm.2 + r.2 = p.2 := h3
      omega
/-- the latest change: the least that is lost on a way, negated -/
theorem pth_min (N : Nets d) (W : Crea d Gs) (hS : S.length = (srcs d).length) (hA : Arr d S A) {n : Str} (hn : n ∈ srcs d ++ gnames d) : match A n with
    | none => ∀ w, ¬ Pth d S n w
    | some p => (∃ w, Pth d S n w ∧ w.1 = -p.2) ∧ ∀ w, Pth d S n w → -p.2 ≤ w.1 := by
  cases e : A n with
  | none =>
    intro w h
    obtain ⟨p, hp, _⟩ := pth_le hA h
    rw [e] at hp; cases hp
  | some p =>
    refine ⟨pth_at N W hS hA _ n hn (Nat.lt_succ_self _) p e, fun w h => ?_⟩
    obtain ⟨q, hq, hle⟩ := pth_le hA h
    rw [e] at hq; cases hq; exact hle
end
end G
namespace G
open PySem PySem.Spec PyProof.Rows L2 Evl TL
theorem CircN.rp {ni nr most : Nat} {d : CircD} {Gs : List GateD} {ns : List Str} (W : CircN ni nr most d Gs ns) : ∀ g ∈ d.gates, g.rng.length = g.pins.length := fun g hg => by
  obtain ⟨k, hk, e⟩ := List.getElem_of_mem (W.perm.mem_iff.mp hg)
  exact (W.gates k g (List.getElem?_eq_some_iff.mpr ⟨hk, e⟩)).2.many
theorem shaped_strs {xs : List Str} (h : ∀ x ∈ xs, PyData.strOk x = true) : SeqAt.shaped (.list (xs.map PyData.str)) = true := by
  have : PyData.canLayAll0 (xs.map PyData.str) = true ∧ PyData.depthAll (xs.map PyData.str) = 0 := by
    induction xs with
    | nil => exact ⟨rfl, rfl⟩
    | cons x xs ih =>
      obtain ⟨a, b⟩ := ih fun y hy => h y (List.mem_cons_of_mem _ hy)
      exact ⟨by show (PyData.strOk x && PyData.canLayAll0 _) = true; rw [h x (List.mem_cons_self ..), a]; rfl, by show max 0 (PyData.depthAll _) = 0; rw [b]; rfl⟩
  simp [SeqAt.shaped, PyData.canLay0, PyData.depth, this.1, this.2]
theorem dp_strs {K : PySem.W.Frag} {H : Hp} {a : Addr} {xs : List Str} (h : SqL K H a (xs.map V.str)) : Dp K H (.ref a) (.list (xs.map PyData.str)) := .lst h (dpAll_map (fun x => .str x) xs)
theorem canLay_strs {xs : List Str} (h : ∀ x ∈ xs, PyData.strOk x = true) : PyData.canLay0 (.list (xs.map PyData.str)) = true := by
  have := shaped_strs h
  simp [SeqAt.shaped] at this
  exact this.1
theorem iteN {b : Bool} {A B : Prop} (h : b = false) (a : B) : if b = true then A else B := by rw [if_neg (by rw [h]; decide)]; exact a
theorem valV_at {kvs : List (L2.Key × V)} (nd : (kvs.map (·.1)).Nodup) {i : Nat} {k : L2.Key} {v : V} (h : kvs[i]? = some (k, v)) : valV kvs k = some v := by
  induction kvs generalizing i with
  | nil => cases h
  | cons q l ih =>
    rw [List.map_cons, List.nodup_cons] at nd
    cases i with
    | zero => cases h; exact valV_pos rfl
    | succ i =>
      have h : l[i]? = some (k, v) := h
      rw [valV_neg (fun z => nd.1 (by rw [z]; exact List.mem_map.mpr ⟨_, List.mem_of_getElem? h, rfl⟩))]
      exact ih nd.2 h
theorem it1 {b : Bool} {A B : Prop} (h : b = true) (a : A) : if b = true then A else B := by rw [if_pos h]; exact a
theorem it0 {b : Bool} {A B : Prop} (h : b = false) (a : B) : if b = true then A else B := by rw [if_neg (by rw [h]; decide)]; exact a
structure TxtQ (mg : Str → Option Value) : Prop where
  len : mg "len" = none
  range : mg "range" = none
  sorted : mg "sorted" = none
  min : mg "min" = none
  int : mg "int" = none
  dict : mg "dict" = none
  isinstance : mg "isinstance" = none
section
variable {P : Program} {w : World} {K : PySem.W.Frag} {mg : Str → Option Value} {base : Heap}
def spLaw (K : PySem.W.Frag) : Sp := fun vs H Q _ => ∃ (a : Addr) (ns : List Int), vs = [.ref a] ∧ SqL K H a (ns.map V.int) ∧ ns.length ≤ 63 ∧ ∀ H', Q (.bl true) H'
theorem sc_law : FnScope ["script", "pool", "circuit", "nets", "starts", "limits", "k", "kept", "told", "required", "paths", "net", "ahead", "gaps", "row"] ["script"] (defScope s_law) := ⟨rfl, rfl, rfl, by decide +kernel, rfl, by decide +kernel, by decide +kernel⟩
theorem fn_law {C Wc Br : Addr} {f f0 f1 f2 : Addr} {fd d0 d1 d2 : FuncData} (F : Fun K "law" "law" s_law f fd) (T : TxtQ mg) (W : Cl_Arrivals K mg C)
    (C1 : Has P w K mg base 1 "_law_pool" ["script"] (spPool K)) (C2 : Has P w K mg base 2 "_law_draw" ["pool", "many"] spDrawX) (C3 : Has P w K mg base 5 "_law_circuit" ["pool", "inputs", "regs", "most"] spLCirc) (C4 : Has P w K mg base 3 "_law_starts" ["pool", "circuit"] spLStarts)
    (C5 : Has P w K mg base 3 "_law_paths" ["circuit", "starts"] spLPaths) (C6 : Has P w K mg base 2 "_law_nets" ["circuit"] spLNets) (C7 : Has P w K mg base 7 "_law_same" ["actual", "due"] (spSame 7)) (C8 : Has P w K mg base 11 "_law_ahead" ["circuit", "net", "limits"] (spAhead 10))
    (Mk_Arrivals : Mk K C f0) (G_Arrivals_init : FnOk P w K mg base (L2.CX P w) 3 f0 d0 ["self", "circuit", "starts"] (spAInit C Wc Br)) (b_Arrivals_init : Binds K d0 ["self", "circuit", "starts"] [])
    (M_Arrivals_required : Meth K C "required" f1) (G_Arrivals_required : FnOk P w K mg base (L2.CX P w) 3 f1 d1 ["self", "limits"] (spReq C)) (b_Arrivals_required : Binds K d1 ["self", "limits"] [])
    (M_Arrivals_slack : Meth K C "slack" f2) (G_Arrivals_slack : FnOk P w K mg base (L2.CX P w) 4 f2 d2 ["self", "net", "limits"] (spSlack C)) (b_Arrivals_slack : Binds K d2 ["self", "net", "limits"] []) : FnOk P w K mg base CX0 12 f fd ["script"] (spLaw K) := by
  obtain ⟨f_law_pool, d_law_pool, G_law_pool, g_law_pool, k_law_pool, b_law_pool⟩ := C1
  obtain ⟨f_law_draw, d_law_draw, G_law_draw, g_law_draw, k_law_draw, b_law_draw⟩ := C2
  obtain ⟨f_law_circuit, d_law_circuit, G_law_circuit, g_law_circuit, k_law_circuit, b_law_circuit⟩ := C3
  obtain ⟨f_law_starts, d_law_starts, G_law_starts, g_law_starts, k_law_starts, b_law_starts⟩ := C4
  obtain ⟨f_law_paths, d_law_paths, G_law_paths, g_law_paths, k_law_paths, b_law_paths⟩ := C5
  obtain ⟨f_law_nets, d_law_nets, G_law_nets, g_law_nets, k_law_nets, b_law_nets⟩ := C6
  obtain ⟨f_law_same, d_law_same, G_law_same, g_law_same, k_law_same, b_law_same⟩ := C7
  obtain ⟨f_law_ahead, d_law_ahead, G_law_ahead, g_law_ahead, k_law_ahead, b_law_ahead⟩ := C8
  have c_Arrivals := W.cl
  have g_Arrivals := W.gC
  refine F.ok sc_law (fun vs H Q E h => ?_) (fun cdv Ar outer s H vs Q E hr h => ?_)
  · obtain ⟨a, ns, rfl, _⟩ := h
    rfl
  obtain ⟨sa, ns, rfl, hs, hn, q⟩ := h
  refine ⟨_, (pss_cons (ps_set (i := 1) sc_law.nd rfl (.inl rfl) (pe_call G_law_pool (hr.mono (by omega)) (by rfl) g_law_pool k_law_pool b_law_pool .nil pass0 (pa_cons (pv 0) pa_nil)))
    (pss_cons (ps_set (i := 2) sc_law.nd rfl (.inl rfl) (pe_call G_law_circuit (hr.mono (by omega)) (by rfl) g_law_circuit k_law_circuit b_law_circuit .nil pass0 (pa_cons (pv 1) (pa_cons (pe_call G_law_draw (hr.mono (by omega)) (by rfl) g_law_draw k_law_draw b_law_draw .nil pass0 (pa_cons (pv 1) (pa_cons pe_int pa_nil))) (pa_cons (pe_call G_law_draw (hr.mono (by omega)) (by rfl) g_law_draw k_law_draw b_law_draw .nil pass0 (pa_cons (pv 1) (pa_cons pe_int pa_nil))) (pa_cons pe_int pa_nil))))))
    (pss_cons (ps_set (i := 3) sc_law.nd rfl (.inl rfl) (pe_call G_law_nets (hr.mono (by omega)) (by rfl) g_law_nets k_law_nets b_law_nets .nil pass0 (pa_cons (pv 2) pa_nil)))
    (pss_cons (ps_set (i := 4) sc_law.nd rfl (.inl rfl) (pe_call G_law_starts (hr.mono (by omega)) (by rfl) g_law_starts k_law_starts b_law_starts .nil pass0 (pa_cons (pv 1) (pa_cons (pv 2) pa_nil))))
    (pss_cons (ps_set (i := 5) sc_law.nd rfl (.inl rfl) pe_dnewK)
    (pss_cons (ps_for PassesOwn.never rfl (pi_range1 rfl T.range (pa_cons (pe_op op_mul (pe_call G_law_draw (hr.mono (by omega)) (by rfl) g_law_draw k_law_draw b_law_draw .nil pass0 (pa_cons (pv 1) (pa_cons pe_int pa_nil))) (pe_callTy call_int1 (by rfl) T.int (by decide +kernel) (pa_cons (pe_cmpR op_gt (pe_callB call_len_seq (by rfl) T.len (by decide +kernel) (pa_cons (pv 3) pa_nil)) pe_int (nomark _)) pa_nil))) pa_nil)) (pg_name (i := 6) sc_law.nd rfl (.inl rfl))
      (pss_one (ps_asg (pe_op op_sub (pe_call G_law_draw (hr.mono (by omega)) (by rfl) g_law_draw k_law_draw b_law_draw .nil pass0 (pa_cons (pv 1) (pa_cons pe_int pa_nil))) pe_int) (pg_sub (pv 5) (pe_ix ix_list (pv 3) (pe_call G_law_draw (hr.mono (by omega)) (by rfl) g_law_draw k_law_draw b_law_draw .nil pass0 (pa_cons (pv 1) (pa_cons (pe_callB call_len_seq (by rfl) T.len (by decide +kernel) (pa_cons (pv 3) pa_nil)) pa_nil))) (fun _ _ => rfl)) (set_dict (hu_of hr))))))
    (pss_cons (ps_set (i := 7) sc_law.nd rfl (.inl rfl) (pe_callTy call_dictD (by rfl) T.dict (by decide +kernel) (pa_cons (pv 5) pa_nil)))
    (pss_cons (ps_set (i := 8) sc_law.nd rfl (.inl rfl) (pe_make Mk_Arrivals G_Arrivals_init (hr.mono (by omega)) (by rfl) g_Arrivals b_Arrivals_init .nil passX0 (pa_cons (pv 2) (pa_cons (pv 4) pa_nil))))
    (pss_cons (ps_set (i := 9) sc_law.nd rfl (.inl rfl) (pe_meth (pv 8) c_Arrivals M_Arrivals_required G_Arrivals_required (hr.mono (by omega)) b_Arrivals_required .nil passX0 (pa_cons (pv 5) pa_nil)))
    (pss_cut (ps_if (PW.pt (pw_or (pt_not (pt_val (pe_callB call_isi (by rfl) T.isinstance (by decide +kernel) (pa_cons (pv 9) (pa_cons (pe_bltn (v := .ty "dict") (by rfl) T.dict (by decide +kernel) rfl) pa_nil))))) (pw_or (pt_cmpR (op_neD hr.units) (pe_callB (call_sortedD rfl) (by rfl) T.sorted (by decide +kernel) (pa_cons (pv 9) pa_nil)) (pe_callB cr_sortedS (by rfl) T.sorted (by decide +kernel) (pa_cons (pv 3) pa_nil)) (nomark _)) (pw_or1 (pt_cmpR (op_ne_dictA (Nat.lt_of_le_of_lt (Nat.le_add_right _ 64) hr.units)) (pv 5) (pv 7) (nomark _))))))
      (pss_one (ps_ret pe_bl))
      pss_nil)
    (pss_cons (ps_set (i := 10) sc_law.nd rfl (.inl rfl) (pe_call G_law_paths (hr.mono (by omega)) (by rfl) g_law_paths k_law_paths b_law_paths .nil pass0 (pa_cons (pv 2) (pa_cons (pv 4) pa_nil))))
    (pss_cons (ps_for PassesOwn.never rfl (pi_list (pv 3)) (pg_name (i := 11) sc_law.nd rfl (.inl rfl))
      (pss_cons (ps_set (i := 12) sc_law.nd rfl (.inr rfl) (pe_call G_law_ahead (hr.mono (by omega)) (by rfl) g_law_ahead k_law_ahead b_law_ahead .nil pass0 (pa_cons (pv 2) (pa_cons (pv 11) (pa_cons (pv 5) pa_nil)))))
      (pss_cons (ps_if (pt_not (pt_val (pe_call G_law_same (hr.mono (by omega)) (by rfl) g_law_same k_law_same b_law_same .nil pass0 (pa_cons (pe_dget (hu_of hr) (pv 9) (pv 11) (fun _ _ => rfl)) (pa_cons (pe_ifExp (pt_cmpR op_gt (pe_callB call_len_seq (by rfl) T.len (by decide +kernel) (pa_cons (pv 12) pa_nil)) pe_int (nomark _)) (pe_callB (kMin4 (K := K) rfl rfl) (by rfl) T.min (by decide +kernel) (pa_cons (pv 12) pa_nil)) pe_non) pa_nil)))))
        (pss_one (ps_ret pe_bl))
        pss_nil)
      (pss_cons (ps_setLc (i := 13) (own := [("row", 14)]) (g := gName 14) (tt := _) rfl sc_law.nd rfl rfl (sw_true rfl rfl rfl (by decide +kernel)) (pi_list (pe_dget (hu_of hr) (pv 10) (pv 11) (fun _ _ => rfl))) (blkOk_by (N := ["script", "pool", "circuit", "nets", "starts", "limits", "k", "kept", "told", "required", "paths", "net", "ahead", "gaps", "row"]) (sc := defScope s_law) (own := [("row", 14)]) (by decide +kernel)) (fun _ _ _ _ _ => (pg_name (i := 14) sc_law.nd rfl (.inl rfl))) (fun _ _ _ _ _ => pts_one (pt_cmpR op_gt (pe_callB (kLen (K := K) rfl) (by rfl) T.len (by decide +kernel) (pa_cons (pv 12) pa_nil)) pe_int (nomark _))) (fun _ _ _ _ _ => (pe_op op_add (pe_callB (kMin4 (K := K) rfl rfl) (by rfl) T.min (by decide +kernel) (pa_cons (pv 12) pa_nil)) (pe_ix (kIxT (K := K) rfl) (pv 14) pe_int (fun _ _ => rfl)))))
      (pss_one (ps_if (pt_not (pt_val (pe_call G_law_same (hr.mono (by omega)) (by rfl) g_law_same k_law_same b_law_same .nil pass0 (pa_cons (pe_meth (pv 8) c_Arrivals M_Arrivals_slack G_Arrivals_slack (hr.mono (by omega)) b_Arrivals_slack .nil passX0 (pa_cons (pv 11) (pa_cons (pv 5) pa_nil))) (pa_cons (pe_ifExp (pt_cmpR op_gt (pe_callB call_len_seq (by rfl) T.len (by decide +kernel) (pa_cons (pv 13) pa_nil)) pe_int (nomark _)) (pe_callB (kMin4 (K := K) rfl rfl) (by rfl) T.min (by decide +kernel) (pa_cons (pv 13) pa_nil)) pe_non) pa_nil)))))
        (pss_one (ps_ret pe_bl))
        pss_nil))))))
    (pss_one (ps_ret (pe_cmpR (op_eq_dictA (Nat.lt_of_le_of_lt (Nat.le_add_right _ 64) hr.units)) (pv 5) (pv 7) (nomark _)))))))))))))))), ?_⟩
  refine ⟨_, rfl, sa, ns, rfl, hs, by omega, fun p a H0 hp E0 np => ?_⟩
  refine ⟨_, rfl, _, rfl, p, a, 4, rfl, by decide, by decide, hp, fun v1 H1 h1 X1 _ => ⟨_, rfl, p, a, 3, rfl, by decide, by decide, X1.pool, fun v2 H2 h2 X2 _ => ⟨p, a, v1, v2, 7, rfl, by omega, X2.pool, fun c d Gs nms it gt rt ot ga ra oa H3 X3 nc hc hW => ?_⟩⟩⟩
  have hN := hW.nets (by omega)
  have hrp := hW.rp
  have hCr := hW.crea
  have hG9 : Gs.length ≤ 9 := by have := hW.few; omega
  have hnl : ∀ x ∈ srcs d ++ gnames d, x.length ≤ 1000 := fun x z => by have := (hW.nm.ok (List.mem_of_mem_take (hW.perm_names.mem_iff.mp z))).1; omega
  have hs16 := hN.fews
  have hnets : (srcs d ++ gnames d).length ≤ 32 := by rw [List.length_append]; unfold gnames; rw [List.length_map]; have := hN.few; omega
  have P3 := X3.pool
  clear X1 X2 X3 h1 h2 nc np E0 hs hn
  refine ⟨_, rfl, c, d, it, gt, rt, ot, ga, ra, oa, rfl, hc, hN, fun nl H4 nnl E4 hnl4 => ?_⟩
  have P4 := P3.kept E4
  have hc4 := hc.te (TEx.of E4)
  refine ⟨_, rfl, _, rfl, p, a, c, d, it, gt, rt, ot, ga, ra, oa, rfl, P4, hc4, hN, fun sl s0 S H5 X5 nsl hsl0 hS hSl hSw => ?_⟩
  have okS : ∀ r ∈ S, r.1 ≤ r.2 := fun r hr' => (hSw r hr').2.2.1
  have hnl5 := X5.at_ (show hid p H4 nl = some (.lst ((srcs d ++ gnames d).map V.str)) by rw [hid_ne (P3.ne nnl)]; exact hnl4)
  have hc5 := hc4.te (TEx.px X5)
  have P5 := X5.pool
  have hsl5 := hid_get hsl0
  have nlp : nl ≠ p := P3.ne nnl
  have slp : sl ≠ p := hid_neq hsl0
  clear hc4 hc hnl4 X5 P4 P3 E4 nnl nsl hsl0 hSw
  intro Ld nLd
  have Ldp : Ld ≠ p := P5.ne nLd
  have hnl5p : hid p H5 nl = some (.lst ((srcs d ++ gnames d).map V.str)) := by rw [hid_ne nlp]; exact hnl5
  have hsl5p : hid p H5 sl = some (.lst (s0.map V.ref)) := by rw [hid_ne slp]; exact hsl5
  have X6 := (Px.refl P5).new (o := .dK []) nLd
  have hLd6 : hid p (upd H5 Ld (.dK [])) Ld = some (.dK []) := hid_new Ldp
  generalize upd H5 Ld (.dK []) = H6 at *
  refine ⟨_, rfl, p, a, 5, rfl, by decide, by decide, X6.pool, fun v H7 hv X7 _ => ?_⟩
  have X57 := X6.trans X7
  refine ⟨_, rfl, _, _, rfl, .inl (SqL.of (hid_get (X57.get hnl5p))), _, _, rfl, rfl, .inr ⟨_, rfl, _, _, rfl, rfl, ?_, ?_⟩⟩
  · exact .inl ⟨by omega, by omega⟩
  obtain ⟨M, hM, hM4, hMn⟩ : ∃ M : Nat, (v : Int) * (if decide ((0 : Int) < ((((srcs d ++ gnames d).map V.str).length : Nat) : Int)) = true then (1 : Int) else 0) = (M : Int) ∧ M ≤ 4 ∧ (0 < M → 0 < (srcs d ++ gnames d).length) := by
    by_cases z : 0 < (srcs d ++ gnames d).length
    · refine ⟨v, ?_, by omega, fun _ => z⟩
      rw [if_pos (decide_eq_true (by rw [List.length_map]; omega)), Int.mul_one]
    · refine ⟨0, ?_, by omega, fun h => absurd h (Nat.lt_irrefl _)⟩
      rw [if_neg (by intro h; have := of_decide_eq_true h; rw [List.length_map] at this; omega), Int.mul_zero]; rfl
  refine ⟨(M : Int), congrArg (fun z : Int => [V.int z]) hM, by omega, by omega, for_range (n := ((M : Nat) : Int).toNat)
    (fun j σ H' => Px p a H5 H' ∧ ∃ (L : Str → Option Int) (ls : List (Key × V)) (lns : List Str) (y6 : Option V), hid p H' Ld = some (.dK ls) ∧ HoldsV ls lns (fun x => optI (L x)) ∧ (∀ x, x ∈ lns ↔ (L x).isSome = true) ∧ (∀ x ∈ lns, x ∈ srcs d ++ gnames d) ∧ ls.length ≤ j ∧
      σ = [some (.ref sa), some (.ref p), some (.ref c), some (.ref nl), some (.ref sl), some (.ref Ld), y6, none, none, none, none, none, none, none, none])
    ⟨X57, fun _ => none, [], [], _, X7.get hLd6, HoldsV.nil, fun x => ⟨(fun h => nomatch h), (fun h => nomatch h)⟩, (fun _ h => nomatch h), Nat.zero_le _, rfl⟩ ?_ ?_⟩
  · rintro j σ H8 hj ⟨X8, L, ls, lns, y6, hLd, hLV, hLs, hLn, hll, rfl⟩
    rw [Int.toNat_natCast] at hj
    have hpos := hMn (by omega)
    refine ⟨_, rfl, p, a, 40, rfl, by decide, by decide, X8.pool, fun v2 H9 hv2 X9 _ => ⟨_, _, rfl, rfl, ?_⟩⟩
    have X59 := X8.trans X9
    refine ⟨_, rfl, _, rfl, _, rfl, _, rfl, _, _, rfl, .inl (SqL.of (hid_get (X59.get hnl5p))), ?_⟩
    rw [List.length_map]
    refine ⟨p, a, (((srcs d ++ gnames d).length : Nat) : Int), rfl, by omega, by omega, X9.pool, fun v3 H10 hv3 X10 _ => ?_⟩
    have hv3' : v3 < (srcs d ++ gnames d).length := by omega
    have X510 := X59.trans X10
    have hLd10 := X10.get (X9.get hLd)
    refine ⟨_, _, _, _, rfl, rfl, SqL.of (hid_get (X510.get hnl5p)), at_of (j := v3) rfl (strV_at hv3'), Ld, _, rfl, .inl ⟨ls, .inr (srcs d ++ gnames d)[v3], hid_get hLd10, rfl, sz_lt (by omega), rfl⟩, ?_⟩
    refine ⟨X510.mut nLd, fun x => if x = (srcs d ++ gnames d)[v3] then some ((v2 : Int) - 5) else L x, _, lns ++ [(srcs d ++ gnames d)[v3]], _, hid_new Ldp, (hLV.put _ (.int ((v2 : Int) - 5))).fn fun z _ => ?_, fun x => ?_, fun x hx => ?_, Nat.le_trans (length_putK _ _ _) (by omega), rfl⟩
    · by_cases e : z = (srcs d ++ gnames d)[v3]
      · rw [if_pos e]; exact (congrArg optI (if_pos e : (if z = (srcs d ++ gnames d)[v3] then some ((v2 : Int) - 5) else L z) = _)).symm
      · rw [if_neg e]; exact (congrArg optI (if_neg e : (if z = (srcs d ++ gnames d)[v3] then some ((v2 : Int) - 5) else L z) = _)).symm
    · show x ∈ lns ++ _ ↔ (if x = _ then _ else _ : Option Int).isSome = true
      rw [List.mem_append, List.mem_singleton]
      by_cases e : x = (srcs d ++ gnames d)[v3]
      · rw [if_pos e]; exact ⟨fun _ => rfl, fun _ => .inr e⟩
      · rw [if_neg e, ← hLs x]; exact ⟨fun h => h.elim id fun z => absurd z e, .inl⟩
    · rcases List.mem_append.mp hx with m | m
      · exact hLn x m
      · rw [List.mem_singleton.mp m]; exact List.getElem_mem _
  rintro σ H8 ⟨X8, L, ls, lns, y6, hLd, hLV, hLs, hLn, hll, rfl⟩
  have hnl8 := hid_get (X8.get hnl5p)
  have hsl8 := hid_get (X8.get hsl5p)
  have hLd8 := hid_get hLd
  have hc8 := hc5.te (TEx.px X8)
  have hS8 : All2 (IntsAt H8) s0 S := hS.imp fun _ _ z => z.te (TEx.px X8)
  have hok : ∀ z ∈ srcs d ++ gnames d, PyData.strOk z = true := hN.tx
  clear X8 hLd hnl5p hsl5p hnl5 hsl5 hc5 hS nLd Ldp nlp slp X57 X7 X6 hLd6 hM hM4 hMn P5 hv
  -- the copy
  refine ⟨_, rfl, Ld, ls, rfl, .inl hLd8, fun Kd nKd => ?_⟩
  have E9 : Ex H8 (upd H8 Kd (.dK ls)) := Ex.new nKd
  have hKd : upd H8 Kd (.dK ls) Kd = some (.dK ls) := upd_same
  generalize upd H8 Kd (.dK ls) = H9 at *
  have hnl9 := E9 _ _ hnl8
  have hsl9 := E9 _ _ hsl8
  have hLd9 := E9 _ _ hLd8
  have hc9 := hc8.te (TEx.of E9)
  have hS9 : All2 (IntsAt H9) s0 S := hS8.imp fun _ _ z => z.te (TEx.of E9)
  obtain ⟨A, hA0⟩ : ∃ A : Str → Option Pr, Arr d S A := arr_ex hN S
  refine ⟨_, rfl, _, rfl, fun x dx nx nd ne => ⟨x, dx, c, sl, d, it, gt, rt, ot, ga, ra, oa, s0, S, A, rfl, upd_same, hc9.te (TEx.of fun b o h => made_old nx nd h), hN, hrp, made_old nx nd hsl9, hS9.imp fun _ _ z => made_old nx nd z, by omega, fun hne => absurd hSl hne, fun _ hbad => by obtain ⟨r, h1, h2⟩ := hbad; exact absurd (okS r h1) h2, fun _ _ => ⟨hA0, fun tl gl Dc rl H10 eb nDc hAt => ⟨rfl, ?_⟩⟩⟩⟩
  have E10 := ExBut.made nx nd eb
  have nLD : Ld ≠ Dc := fun z => by
    have h1 : Ld ≠ x := ne_of_none hLd9 nx
    rw [← z, hid_ne h1, made_old nx nd hLd9] at nDc
    cases nDc
  have hA10 : ArrAt C H10 x c tl gl Dc s0 rl d S A := hAt.ex hid_ex
  have hc10 := hc9.te (TEx.of E10)
  have hL10 : LimAt H10 Ld L (srcs d ++ gnames d) := ⟨ls, lns, E10 _ _ hLd9, hLV, hLs, hLn⟩
  have hnl10 := E10 _ _ hnl9
  have hsl10 := E10 _ _ hsl9
  have hLd10 := E10 _ _ hLd9
  have hKd10 := E10 _ _ hKd
  have hS10 : All2 (IntsAt H10) s0 S := hS9.imp fun _ _ z => z.te (TEx.of E10)
  clear hAt eb nDc nx nd ne E10 hL10 hc9 hS9 hnl9 hsl9 hLd9 hKd hc8 hS8 hnl8 hsl8 hLd8 E9 nKd
  have hL10 : LimAt H10 Ld L (srcs d ++ gnames d) := ⟨ls, lns, hLd10, hLV, hLs, hLn⟩
  obtain ⟨dx2, fs, k1, k2, k3, k4, k5, k6, k7⟩ := hA10.ob
  refine ⟨_, rfl, x, dx2, fs, rfl, k1, k7 _ (by decide +kernel), _, rfl, x, c, tl, gl, Dc, Ld, s0, rl, d, S, A, it, gt, rt, ot, ga, ra, oa, L, rfl, hA10, hc10, hN, hrp, hL10, nLD, hnl, fun qr er Tq H11 E11 nqr hqr hqV hqM => ?_⟩
  have same : ls.length = ls.length ∧ ∀ pr ∈ ls, valV ls pr.1 = some pr.2 ∧ flatB pr.2 = true := ⟨rfl, fun pr hpr => by
    obtain ⟨i, hi, e⟩ := List.getElem_of_mem hpr
    obtain ⟨ks, b1, b2, b3⟩ := hLV.keys
    have hnd : (ls.map (·.1)).Nodup := by
      rw [b1, List.Nodup, List.pairwise_map]
      exact b2.imp fun h z => h (Sum.inr.inj z)
    have hv : valV ls pr.1 = some pr.2 := valV_at hnd (i := i) (List.getElem?_eq_some_iff.mpr ⟨hi, e⟩)
    refine ⟨hv, ?_⟩
    have hk : pr.1 ∈ ks.map Sum.inr := by rw [← b1]; exact List.mem_map.mpr ⟨pr, hpr, rfl⟩
    obtain ⟨z, hz, ez⟩ := List.mem_map.mp hk
    rw [← ez, hLV.val z] at hv
    rw [if_pos ((b3 z).mp hz)] at hv
    rw [← Option.some.inj hv]
    cases L z <;> rfl⟩
  refine ⟨fun σ H' => Ex H11 H' ∧ σ = [some (.ref sa), some (.ref p), some (.ref c), some (.ref nl), some (.ref sl), some (.ref Ld), y6, some (.ref Kd), some (.ref x), some (.ref qr), none, none, none, none, none], ?_, ?_⟩
  · refine ⟨_, rfl, _, _, _, _, _, rfl, .ty "dict", .base (.dK hqr), kit_ty (a := "dict") (r := true) (by decide +kernel), _, rfl, iteF ?_⟩
    obtain ⟨ks, b1, b2, b3⟩ := hqV.keys
    have pk := perm_mem b2 hN.nd b3
    refine ⟨_, rfl, qr, er, ks, rfl, .inl hqr, b1, by rw [pk.length_eq]; omega, fun y1 w1 r1 t1 n1 => ?_⟩
    have F1 : Ex H11 (upd H11 w1 (.lst (y1.map V.str))) := Ex.new n1
    have g1 : upd H11 w1 (.lst (y1.map V.str)) w1 = some (.lst (y1.map V.str)) := upd_same
    generalize upd H11 w1 (.lst (y1.map V.str)) = H12 at *
    refine ⟨_, rfl, nl, srcs d ++ gnames d, rfl, SqL.of (F1 _ _ (E11 _ _ hnl10)), by omega, fun y2 w2 r2 t2 n2 => ?_⟩
    have F2 : Ex H12 (upd H12 w2 (.lst (y2.map V.str))) := Ex.new n2
    have g2 : upd H12 w2 (.lst (y2.map V.str)) w2 = some (.lst (y2.map V.str)) := upd_same
    generalize upd H12 w2 (.lst (y2.map V.str)) = H13 at *
    have e12 : y1 = y2 := sort_eq (r1.nodup_iff.mpr b2) (r2.nodup_iff.mpr hN.nd) (fun z => (r1.mem_iff.trans (b3 z)).trans r2.mem_iff.symm) t1 t2
    subst e12
    have ok1 : ∀ z ∈ y1, PyData.strOk z = true := fun z hz => hok z (r2.mem_iff.mp hz)
    have eqt : (!PyData.eqv (.list (y1.map PyData.str)) (.list (y1.map PyData.str))) = false := by
      rw [PySem.SeqAt.eqv_refl _ (canLay_strs ok1)]; rfl
    have F12 := F1.trans F2
    refine ⟨_, _, dp_strs (SqL.of (F2 _ _ g1)), dp_strs (SqL.of g2), shaped_strs ok1, shaped_strs ok1, _, rfl, iteN eqt ?_⟩
    exact ⟨_, rfl, _, rfl, Ld, Kd, ls, ls, rfl, rfl, F12 _ _ (E11 _ _ hLd10), F12 _ _ (E11 _ _ hKd10), same.1, same.2, _, rfl, iteF ⟨F12, rfl⟩⟩
  rintro σ H12 ⟨E12, rfl⟩
  have E012 := E11.trans E12
  have hqr12 := E12 _ _ hqr
  refine ⟨_, rfl, _, rfl, c, sl, d, Gs, it, gt, rt, ot, ga, ra, oa, s0, S, rfl, hc10.te (TEx.of E012), hN, hCr, hrp, hG9, E012 _ _ hsl10, hS10.imp fun _ _ z => z.te (TEx.of E012), hSl, fun Pd ep H13 E13 hPd hPP => ?_⟩
  have E013 := E012.trans E13
  have hqr13 := E13 _ _ hqr12
  have hA13 := hA10.ex E013
  have hc13 := hc10.te (TEx.of E013)
  have hL13 := hL10.ex E013
  have hnl13 := E013 _ _ hnl10
  have k113 := E013 _ _ k1
  have hLd13 := E013 _ _ hLd10
  have hKd13 := E013 _ _ hKd10
  clear hqr12 hqr hA10 hc10 hL10 hnl10 k1 hLd10 hKd10 hsl10 hS10 E012 E013 E12 E13 E11
  obtain ⟨vf, hv1, hv2⟩ := hPP.ex
  refine ⟨_, rfl, nl, rfl, ⟨_, SqL.of hnl13⟩, for_list (K := K) (a := nl) (xs := (srcs d ++ gnames d).map V.str)
    (fun i σ H' => Ex H13 H' ∧ ∃ (y11 y12 y13 y14 : Option V), σ = [some (.ref sa), some (.ref p), some (.ref c), some (.ref nl), some (.ref sl), some (.ref Ld), y6, some (.ref Kd), some (.ref x), some (.ref qr), some (.ref Pd), y11, y12, y13, y14])
    ⟨.refl _, _, _, _, _, rfl⟩ (fun i σ H' _ g => SqL.of (g.1 _ _ hnl13)) ?_ ?_⟩
  · rintro i yv σ H14 hy ⟨E14, y11, y12, y13, y14, rfl⟩
    obtain ⟨n, hn, rfl⟩ : ∃ n, (srcs d ++ gnames d)[i]? = some n ∧ yv = .str n := by
      rw [List.getElem?_map] at hy
      cases e : (srcs d ++ gnames d)[i]? with
      | none => rw [e] at hy; cases hy
      | some z => rw [e] at hy; cases hy; exact ⟨z, rfl, rfl⟩
    have hnm := List.mem_of_getElem? hn
    have hM := hqM n hnm
    have hPm := pth_min hN hCr hSl hA0 hnm
    obtain ⟨l0, as0, rs0, el, hl0, hA0w, hm0, hn0⟩ := hv2 n hnm
    have hrl0 : rs0.length ≤ 19683 := Nat.le_trans hn0 (wayB_le hG9 n)
    refine ⟨_, rfl, _, rfl, _, rfl, c, Ld, d, Gs, it, gt, rt, ot, ga, ra, oa, L, n, rfl, hc13.te (TEx.of E14), hN, hCr, hrp, hG9, hL13.ex E14, by have := mu_le Gs n; omega, fun al ans H15 E15 nal hal hans hanl => ?_⟩
    have E115 := E14.trans E15
    have hreq := hqV.at_ (E115 _ _ hqr13) hnm
    have hget : DGet H15 Pd (kV (Sum.inr n)) (some (.ref l0)) := by
      have := hv1.at_ (E115 _ _ hPd) hnm
      rw [el] at this; exact this
    have hl15 := E115 _ _ hl0
    have hA15 : All2 (WayAt H15) as0 rs0 := hA0w.imp fun _ _ z => z.te (TEx.of E115)
    cases hT : Tq n with
    | none =>
      rw [hT] at hM hreq
      have e0 : ans = [] := by
        cases ans with
        | nil => rfl
        | cons z r => exact absurd ((hans z).mp (List.mem_cons_self ..)) (hM z)
      subst e0
      refine ⟨_, rfl, _, rfl, qr, _, rfl, hreq, _, rfl, _, _, rfl, .inl (SqL.of hal), _, _, rfl, rfl, _, rfl, iteF ⟨_, _, .non, rfl, .non, .non, trivial, _, rfl, iteF ?_⟩⟩
      refine ⟨_, rfl, _, rfl, Pd, _, rfl, hget, l0, rfl, ⟨_, SqL.of hl15⟩, fun R nR => wk_list (K := K) (a := l0) (xs := as0.map V.ref) (fun k H' => Ex H15 H' ∧ H' R = some (.lst [])) ⟨Ex.new nR, upd_same⟩ (fun k H' _ z => SqL.of (z.1 _ _ hl15)) ?_ ?_⟩
      · rintro k y H16 hk ⟨E16, hR⟩
        refine ⟨rfl, ?_⟩
        simp only [wipe, _root_.L2.start, List.map_cons, List.map_nil, List.length_cons, List.length_nil, Nat.reduceAdd, Nat.reduceSub, List.replicate_succ, List.replicate_zero, List.cons_append, List.nil_append, List.set_cons_zero, List.set_cons_succ]
        exact ⟨_, rfl, _, _, rfl, .inl (SqL.of (E16 _ _ hal)), _, _, rfl, rfl, _, rfl, iteF ⟨E16, hR⟩⟩
      rintro H16 ⟨E16, hR⟩
      have e := E115.trans E16
      refine ⟨_, rfl, x, dx2, fs, rfl, e _ _ k113, k7 _ (by decide +kernel), _, rfl, _, rfl, x, c, tl, gl, Dc, Ld, s0, rl, d, S, A, it, gt, rt, ot, ga, ra, oa, L, n, rfl, hA13.ex e, hc13.te (TEx.of e), hN, hrp, hL13.ex e, nLD, hnl, hnm, fun o H17 E17 hMo => ?_⟩
      have eo : o = none := hMo.uniq hM
      subst eo
      exact ⟨_, rfl, _, _, rfl, .inl (SqL.of (E17 _ _ hR)), _, _, rfl, rfl, _, rfl, iteF ⟨_, _, .non, rfl, .non, .non, trivial, _, rfl, iteF ⟨e.trans E17, _, _, _, _, rfl⟩⟩⟩
    | some t =>
      rw [hT] at hM hreq
      have hpos : 0 < ans.length := List.length_pos_of_mem ((hans t).mpr hM.1)
      have hdec : decide ((0 : Int) < (((ans.map V.int).length : Nat) : Int)) = true := decide_eq_true (by rw [List.length_map]; omega)
      have hmt : ∀ m, m ∈ ans → (∀ y, y ∈ ans → m ≤ y) → m = t := fun m hm hmin => Int.le_antisymm (hmin t ((hans t).mpr hM.1)) (hM.2 m ((hans m).mp hm))
      refine ⟨_, rfl, _, rfl, qr, _, rfl, hreq, _, rfl, _, _, rfl, .inl (SqL.of hal), _, _, rfl, rfl, _, rfl, it1 hdec ⟨_, rfl, al, ans, rfl, SqL.of hal, hpos, fun m hm hmin => ?_⟩⟩
      rw [hmt m hm hmin]
      refine ⟨_, _, .int t, rfl, .int _, .int _, trivial, _, rfl, iteF ?_⟩
      refine ⟨_, rfl, _, rfl, Pd, _, rfl, hget, l0, rfl, ⟨_, SqL.of hl15⟩, fun R nR => wk_list (K := K) (a := l0) (xs := as0.map V.ref) (fun k H' => Ex H15 H' ∧ H' R = some (.lst ((rs0.take k).map fun w => V.int (t + w.1)))) ⟨Ex.new nR, upd_same⟩ (fun k H' _ z => SqL.of (z.1 _ _ hl15)) ?_ ?_⟩
      · rintro k y H16 hk ⟨E16, hR⟩
        obtain ⟨wa, hwa, rfl⟩ := refs_get hk
        obtain ⟨u, hu, hwA⟩ := hA15.at_ hwa
        obtain ⟨w1, w2, qs, ha1, _⟩ := hwA.te (TEx.of E16)
        refine ⟨rfl, ?_⟩
        simp only [wipe, _root_.L2.start, List.map_cons, List.map_nil, List.length_cons, List.length_nil, Nat.reduceAdd, Nat.reduceSub, List.replicate_succ, List.replicate_zero, List.cons_append, List.nil_append, List.set_cons_zero, List.set_cons_succ]
        refine ⟨_, rfl, _, _, rfl, .inl (SqL.of (E16 _ _ hal)), _, _, rfl, rfl, _, rfl, it1 hdec ⟨_, rfl, al, ans, rfl, SqL.of (E16 _ _ hal), hpos, fun m hm hmin => ?_⟩⟩
        rw [hmt m hm hmin]
        refine ⟨_, rfl, _, _, _, _, rfl, rfl, SqT.of ha1, atI_nat (j := 0) rfl, _, _, rfl, rfl, _, hR, sz_lt (by rw [List.length_map, List.length_take]; omega), E16.mut nR, ?_⟩
        rw [upd_same, take_snoc1 hu, List.map_append]; rfl
      rintro H16 ⟨E16, hR⟩
      rw [List.length_map, hA15.1, List.take_length] at hR
      have e := E115.trans E16
      refine ⟨_, rfl, x, dx2, fs, rfl, e _ _ k113, k7 _ (by decide +kernel), _, rfl, _, rfl, x, c, tl, gl, Dc, Ld, s0, rl, d, S, A, it, gt, rt, ot, ga, ra, oa, L, n, rfl, hA13.ex e, hc13.te (TEx.of e), hN, hrp, hL13.ex e, nLD, hnl, hnm, fun o H17 E17 hMo => ?_⟩
      have eo : o = some t := hMo.uniq hM
      subst eo
      cases hAn : A n with
      | none =>
        rw [hAn] at hPm
        have e0 : rs0 = [] := by
          cases rs0 with
          | nil => rfl
          | cons z r => exact absurd ((hm0 z).mp (List.mem_cons_self ..)) (hPm z)
        subst e0
        exact ⟨_, rfl, _, _, rfl, .inl (SqL.of (E17 _ _ hR)), _, _, rfl, rfl, _, rfl, iteF ⟨_, _, .non, rfl, .non, .non, trivial, _, rfl, iteF ⟨e.trans E17, _, _, _, _, rfl⟩⟩⟩
      | some pr =>
        rw [hAn] at hPm
        obtain ⟨⟨w0, hw0, ew0⟩, hle⟩ := hPm
        have hw0m := (hm0 w0).mpr hw0
        have hR17 : H17 R = some (.lst ((rs0.map fun w => t + w.1).map V.int)) := by
          rw [List.map_map]; exact E17 _ _ hR
        have hpos2 : 0 < (rs0.map fun w => t + w.1).length := by rw [List.length_map]; exact List.length_pos_of_mem hw0m
        have hdec2 : decide ((0 : Int) < ((((rs0.map fun w => t + w.1).map V.int).length : Nat) : Int)) = true := decide_eq_true (by rw [List.length_map]; omega)
        refine ⟨_, rfl, _, _, rfl, .inl (SqL.of hR17), _, _, rfl, rfl, _, rfl, it1 hdec2 ⟨_, rfl, R, _, rfl, SqL.of hR17, hpos2, fun m hm hmin => ?_⟩⟩
        have em : m = t - pr.2 := by
          obtain ⟨u, hu, eu⟩ := List.mem_map.mp hm
          have h1 := hle u ((hm0 u).mp hu)
          have h2 := hmin (t + w0.1) (List.mem_map.mpr ⟨w0, hw0m, rfl⟩)
          omega
        rw [em]
        exact ⟨_, _, .int (t - pr.2), rfl, .int _, .int _, trivial, _, rfl, iteF ⟨e.trans E17, _, _, _, _, rfl⟩⟩
  rintro σ H14 ⟨E14, y11, y12, y13, y14, rfl⟩
  refine ⟨_, rfl, _, rfl, Ld, Kd, ls, ls, rfl, rfl, E14 _ _ hLd13, E14 _ _ hKd13, same.1, same.2, q _⟩
end
end G
namespace G
open PySem PySem.Spec PyProof.Rows L2
/-- the defs and the built-in names as the top has left them -/
structure All (K : PySem.W.Frag) (mg : Str → Option Value) : Prop where
  d_wall : Dfd K mg "_wall" s_wall ["k"]
  d_sources : Dfd K mg "sources" s_sources ["circuit"]
  d_gate_order : Dfd K mg "gate_order" s_gate_order ["circuit"]
  d_check_nets : Dfd K mg "check_nets" s_check_nets ["circuit", "names"]
  d_with_ranges : Dfd K mg "with_ranges" s_with_ranges ["circuit", "rows"]
  d_least_order : Dfd K mg "least_order" s_least_order ["needed"]
  d_all_names : Dfd K mg "_all_names" s_all_names ["circuit"]
  d_gates_read : Dfd K mg "_gates_read" s_gates_read ["gates"]
  d_check_start : Dfd K mg "_check_start" s_check_start ["pair"]
  d_gates_by_net : Dfd K mg "_gates_by_net" s_gates_by_net ["circuit"]
  d_law_same : Dfd K mg "_law_same" s_law_same ["actual", "due"]
  d_law_pool : Dfd K mg "_law_pool" s_law_pool ["script"]
  d_law_spread : Dfd K mg "_law_spread" s_law_spread ["cell"]
  d_law_draw : Dfd K mg "_law_draw" s_law_draw ["pool", "many"]
  d_law_names : Dfd K mg "_law_names" s_law_names ["pool", "many"]
  d_law_span : Dfd K mg "_law_span" s_law_span ["pool"]
  d_law_gate : Dfd K mg "_law_gate" s_law_gate ["pool", "name", "nets"]
  d_law_times : Dfd K mg "_law_times" s_law_times ["pool"]
  d_law_circuit : Dfd K mg "_law_circuit" s_law_circuit ["pool", "inputs", "regs", "most"]
  d_law_sources : Dfd K mg "_law_sources" s_law_sources ["circuit"]
  d_law_nets : Dfd K mg "_law_nets" s_law_nets ["circuit"]
  d_law_sorted_gates : Dfd K mg "_law_sorted_gates" s_law_sorted_gates ["circuit"]
  d_law_starts : Dfd K mg "_law_starts" s_law_starts ["pool", "circuit"]
  d_law_paths : Dfd K mg "_law_paths" s_law_paths ["circuit", "starts"]
  d_law_ahead : Dfd K mg "_law_ahead" s_law_ahead ["circuit", "net", "limits"]
  z_list : mg "list" = none
  z_tuple : mg "tuple" = none
  z_zip : mg "zip" = none
  z_len : mg "len" = none
  z_enumerate : mg "enumerate" = none
  z_reversed : mg "reversed" = none
  z_min : mg "min" = none
  z_max : mg "max" = none
  z_property : mg "property" = none
  z_sorted : mg "sorted" = none
  z_set : mg "set" = none
  z_isinstance : mg "isinstance" = none
  z_range : mg "range" = none
  z_bool : mg "bool" = none
  z_int : mg "int" = none
  z_str : mg "str" = none
  z_sum : mg "sum" = none
  z_dict : mg "dict" = none
  z_ValueError : mg "ValueError" = none
  y_heappop : mg "heappop" = some (.builtin "_heapq.heappop")
  y_heappush : mg "heappush" = some (.builtin "_heapq.heappush")
  k_Arrivals : ∃ C : Addr, Cl_Arrivals K mg C
  e_WrongCount : ∃ C : Addr, ExcH K mg "WrongCount" C
  e_UnknownName : ∃ C : Addr, ExcH K mg "UnknownName" C
  e_BadRange : ∃ C : Addr, ExcH K mg "BadRange" C
end G
namespace G
open PySem PySem.Spec PyProof.Rows L2
theorem glue {P : Program} {w : World} {K : PySem.W.Frag} {mg : Str → Option Value} {base : Heap} (A : All K mg) {f : Addr} {fd : FuncData} (F : Fun K "law" "law" s_law f fd) : FnOk P w K mg base CX0 12 f fd ["script"] (spLaw K) := by
  have TL : TxtL mg := ⟨A.z_int, A.z_len, A.z_list, A.z_range⟩
  have TS : TxtS mg := ⟨A.z_isinstance, A.z_tuple, A.z_list, A.z_len, A.z_range, A.z_bool, A.z_int, A.z_str⟩
  have TD : TxtD mg := ⟨A.z_len, A.z_list, A.z_tuple, A.z_range, A.z_str, A.z_max, A.z_min⟩
  have TM : TxtM mg := ⟨A.z_len, A.z_list, A.z_tuple, A.z_enumerate, A.z_sum, A.z_zip⟩
  have TP : TxtP mg := ⟨A.z_len, A.z_list, A.z_tuple, A.z_zip, A.z_min, A.z_max, A.z_enumerate, A.z_sorted, A.z_set⟩
  obtain ⟨Wc, UW⟩ := A.e_WrongCount
  obtain ⟨Br, UB⟩ := A.e_BadRange
  obtain ⟨U, UN⟩ := A.e_UnknownName
  obtain ⟨C, W⟩ := A.k_Arrivals
  obtain ⟨f0, d0, M0, F0, b0⟩ := W.m_init
  obtain ⟨f1, d1, M1, F1, b1⟩ := W.m_required
  obtain ⟨f2, d2, M2, F2, b2⟩ := W.m_slack
  obtain ⟨f9, d9, M9, F9, b9⟩ := W.m_check_net
  obtain ⟨f10, d10, M10, F10, b10⟩ := W.m_computed
  have hd := drawX (P := P) (w := w) (base := base) (ok_law_draw A.d_law_draw TL (ok_law_spread A.d_law_spread TL))
  have hls := ok_law_sources (P := P) (w := w) (base := base) A.d_law_sources TD
  have hsrc := ok_sources (P := P) (w := w) (base := base) A.d_sources TM
  have hsp := ok_law_span (P := P) (w := w) (base := base) A.d_law_span hd
  have hci := ok_law_circuit (P := P) (w := w) (base := base) A.d_law_circuit TD hd (ok_law_names A.d_law_names TD hd) (ok_law_gate A.d_law_gate TD hd hsp) (ok_law_times A.d_law_times TD hd)
  have hal := ok_all_names (P := P) (w := w) (base := base) A.d_all_names ⟨A.z_list⟩
  have hcn := ok_check_nets A.d_check_nets UN.u hal
  have hlo := ok_least_order (P := P) (w := w) (base := base) A.d_least_order ⟨A.z_len, A.z_enumerate, A.y_heappop, A.y_heappush⟩
  have hgo := ok_gate_order (P := P) (w := w) (base := base) A.d_gate_order hlo (ok_gates_read A.d_gates_read TM)
  have hck := ok_Arrivals_check_net (P := P) (w := w) (base := base) F9 W UN.u
  have hin := ok_Arrivals_init (P := P) (w := w) (base := base) F0 W TP UW.u hsrc (ok_check_start A.d_check_start UB.u) hgo (ok_gates_by_net A.d_gates_by_net TP hsrc) M10 (ok_Arrivals_computed F10 W TP) b10
  have hre := ok_Arrivals_required (P := P) (w := w) (base := base) F1 W ⟨A.z_list, A.z_reversed, A.z_zip⟩ hcn
  have hsl := ok_Arrivals_slack F2 W M9 hck b9 M1 hre b1
  obtain ⟨fah, dah, Fah, gah, bah⟩ := A.d_law_ahead
  have hah := fn_law_ahead (P := P) (w := w) (base := base) Fah ⟨A.z_len, A.z_range⟩ gah bah 10
  have hpa := ok_law_paths (P := P) (w := w) (base := base) A.d_law_paths ⟨A.z_len, A.z_range, A.z_sorted⟩ hls (ok_law_sorted_gates A.d_law_sorted_gates TD hls)
  exact fn_law F ⟨A.z_len, A.z_range, A.z_sorted, A.z_min, A.z_int, A.z_dict, A.z_isinstance⟩ W (ok_law_pool A.d_law_pool TL) hd hci (ok_law_starts A.d_law_starts hd hls) hpa (ok_law_nets A.d_law_nets TD hls) (ok_law_same A.d_law_same TS 7) ⟨fah, dah, hah, gah, Fah.kp, bah⟩ M0 hin b0 M1 hre b1 M2 hsl b2
end G
namespace G
open PySem PySem.Spec PyProof.Rows L2
theorem all_mk {l : PySem.W.OpenLaw} {w : World} {K : PySem.W.Frag} {h : Heap} {mg : Str → Option Value} {fa f0 f1 f2 f3 f4 f5 f6 f7 f8 f9 f10 f11 f12 f13 f14 f15 f16 f17 f18 f19 f20 f21 f22 f23 f24 f25 : Addr} (X : K.In h) (G : h.Ns mainGlobals mg) (hfa : mg "law" = some (.ref fa))
    {od0 an0 od1 an1 od2 an2 od3 an3 od4 an4 od5 an5 od6 an6 od7 an7 od8 an8 od9 an9 od10 an10 od11 an11 od12 an12 od13 an13 od14 an14 od15 an15 od16 an16 od17 an17 od18 an18 od19 an19 od20 an20 od21 an21 od22 an22 od23 an23 od24 an24 od25 an25 : Option Addr} {sl0 sl1 sl2 sl3 sl4 sl5 sl6 sl7 sl8 sl9 sl10 sl11 sl12 sl13 sl14 sl15 sl16 sl17 sl18 sl19 sl20 sl21 sl22 sl23 sl24 sl25 : Array (Option Value)} {oc0 kv0 dc0 pm0 cd0 ct0 oc1 kv1 dc1 pm1 cd1 ct1 oc2 kv2 dc2 pm2 cd2 ct2 oc3 kv3 dc3 pm3 cd3 ct3 oc4 kv4 dc4 pm4 cd4 ct4 oc5 kv5 dc5 pm5 cd5 ct5 oc6 kv6 dc6 pm6 cd6 ct6 oc7 kv7 dc7 pm7 cd7 ct7 oc8 kv8 dc8 pm8 cd8 ct8 oc9 kv9 dc9 pm9 cd9 ct9 oc10 kv10 dc10 pm10 cd10 ct10 oc11 kv11 dc11 pm11 cd11 ct11 oc12 kv12 dc12 pm12 cd12 ct12 oc13 kv13 dc13 pm13 cd13 ct13 oc14 kv14 dc14 pm14 cd14 ct14 oc15 kv15 dc15 pm15 cd15 ct15 oc16 kv16 dc16 pm16 cd16 ct16 oc17 kv17 dc17 pm17 cd17 ct17 oc18 kv18 dc18 pm18 cd18 ct18 oc19 kv19 dc19 pm19 cd19 ct19 oc20 kv20 dc20 pm20 cd20 ct20 oc21 kv21 dc21 pm21 cd21 ct21 oc22 kv22 dc22 pm22 cd22 ct22 oc23 kv23 dc23 pm23 cd23 ct23 oc24 kv24 dc24 pm24 cd24 ct24 oc25 kv25 dc25 pm25 cd25 ct25 : Value}
    (a0 : PySem.W.nsIn K mainGlobals "_wall" = some (some (.ref f0))) (l0 : K.lookup f0 = some ⟨oc0, od0, .func (PySem.W.fnOf "_wall" "_wall" (defArgs s_wall) (defBody s_wall) (defScope s_wall) .none kv0 dc0 pm0 an0 cd0 ct0), sl0⟩) (c0 : PySem.W.codeIn K cd0 "_wall" = true) (k0 : PySem.W.keepIn K (.ref f0) = true)
    (a1 : PySem.W.nsIn K mainGlobals "sources" = some (some (.ref f1))) (l1 : K.lookup f1 = some ⟨oc1, od1, .func (PySem.W.fnOf "sources" "sources" (defArgs s_sources) (defBody s_sources) (defScope s_sources) .none kv1 dc1 pm1 an1 cd1 ct1), sl1⟩) (c1 : PySem.W.codeIn K cd1 "sources" = true) (k1 : PySem.W.keepIn K (.ref f1) = true)
    (a2 : PySem.W.nsIn K mainGlobals "gate_order" = some (some (.ref f2))) (l2 : K.lookup f2 = some ⟨oc2, od2, .func (PySem.W.fnOf "gate_order" "gate_order" (defArgs s_gate_order) (defBody s_gate_order) (defScope s_gate_order) .none kv2 dc2 pm2 an2 cd2 ct2), sl2⟩) (c2 : PySem.W.codeIn K cd2 "gate_order" = true) (k2 : PySem.W.keepIn K (.ref f2) = true)
    (a3 : PySem.W.nsIn K mainGlobals "check_nets" = some (some (.ref f3))) (l3 : K.lookup f3 = some ⟨oc3, od3, .func (PySem.W.fnOf "check_nets" "check_nets" (defArgs s_check_nets) (defBody s_check_nets) (defScope s_check_nets) .none kv3 dc3 pm3 an3 cd3 ct3), sl3⟩) (c3 : PySem.W.codeIn K cd3 "check_nets" = true) (k3 : PySem.W.keepIn K (.ref f3) = true)
    (a4 : PySem.W.nsIn K mainGlobals "with_ranges" = some (some (.ref f4))) (l4 : K.lookup f4 = some ⟨oc4, od4, .func (PySem.W.fnOf "with_ranges" "with_ranges" (defArgs s_with_ranges) (defBody s_with_ranges) (defScope s_with_ranges) .none kv4 dc4 pm4 an4 cd4 ct4), sl4⟩) (c4 : PySem.W.codeIn K cd4 "with_ranges" = true) (k4 : PySem.W.keepIn K (.ref f4) = true)
    (a5 : PySem.W.nsIn K mainGlobals "least_order" = some (some (.ref f5))) (l5 : K.lookup f5 = some ⟨oc5, od5, .func (PySem.W.fnOf "least_order" "least_order" (defArgs s_least_order) (defBody s_least_order) (defScope s_least_order) .none kv5 dc5 pm5 an5 cd5 ct5), sl5⟩) (c5 : PySem.W.codeIn K cd5 "least_order" = true) (k5 : PySem.W.keepIn K (.ref f5) = true)
    (a6 : PySem.W.nsIn K mainGlobals "_all_names" = some (some (.ref f6))) (l6 : K.lookup f6 = some ⟨oc6, od6, .func (PySem.W.fnOf "_all_names" "_all_names" (defArgs s_all_names) (defBody s_all_names) (defScope s_all_names) .none kv6 dc6 pm6 an6 cd6 ct6), sl6⟩) (c6 : PySem.W.codeIn K cd6 "_all_names" = true) (k6 : PySem.W.keepIn K (.ref f6) = true)
    (a7 : PySem.W.nsIn K mainGlobals "_gates_read" = some (some (.ref f7))) (l7 : K.lookup f7 = some ⟨oc7, od7, .func (PySem.W.fnOf "_gates_read" "_gates_read" (defArgs s_gates_read) (defBody s_gates_read) (defScope s_gates_read) .none kv7 dc7 pm7 an7 cd7 ct7), sl7⟩) (c7 : PySem.W.codeIn K cd7 "_gates_read" = true) (k7 : PySem.W.keepIn K (.ref f7) = true)
    (a8 : PySem.W.nsIn K mainGlobals "_check_start" = some (some (.ref f8))) (l8 : K.lookup f8 = some ⟨oc8, od8, .func (PySem.W.fnOf "_check_start" "_check_start" (defArgs s_check_start) (defBody s_check_start) (defScope s_check_start) .none kv8 dc8 pm8 an8 cd8 ct8), sl8⟩) (c8 : PySem.W.codeIn K cd8 "_check_start" = true) (k8 : PySem.W.keepIn K (.ref f8) = true)
    (a9 : PySem.W.nsIn K mainGlobals "_gates_by_net" = some (some (.ref f9))) (l9 : K.lookup f9 = some ⟨oc9, od9, .func (PySem.W.fnOf "_gates_by_net" "_gates_by_net" (defArgs s_gates_by_net) (defBody s_gates_by_net) (defScope s_gates_by_net) .none kv9 dc9 pm9 an9 cd9 ct9), sl9⟩) (c9 : PySem.W.codeIn K cd9 "_gates_by_net" = true) (k9 : PySem.W.keepIn K (.ref f9) = true)
    (a10 : PySem.W.nsIn K mainGlobals "_law_same" = some (some (.ref f10))) (l10 : K.lookup f10 = some ⟨oc10, od10, .func (PySem.W.fnOf "_law_same" "_law_same" (defArgs s_law_same) (defBody s_law_same) (defScope s_law_same) .none kv10 dc10 pm10 an10 cd10 ct10), sl10⟩) (c10 : PySem.W.codeIn K cd10 "_law_same" = true) (k10 : PySem.W.keepIn K (.ref f10) = true)
    (a11 : PySem.W.nsIn K mainGlobals "_law_pool" = some (some (.ref f11))) (l11 : K.lookup f11 = some ⟨oc11, od11, .func (PySem.W.fnOf "_law_pool" "_law_pool" (defArgs s_law_pool) (defBody s_law_pool) (defScope s_law_pool) .none kv11 dc11 pm11 an11 cd11 ct11), sl11⟩) (c11 : PySem.W.codeIn K cd11 "_law_pool" = true) (k11 : PySem.W.keepIn K (.ref f11) = true)
    (a12 : PySem.W.nsIn K mainGlobals "_law_spread" = some (some (.ref f12))) (l12 : K.lookup f12 = some ⟨oc12, od12, .func (PySem.W.fnOf "_law_spread" "_law_spread" (defArgs s_law_spread) (defBody s_law_spread) (defScope s_law_spread) .none kv12 dc12 pm12 an12 cd12 ct12), sl12⟩) (c12 : PySem.W.codeIn K cd12 "_law_spread" = true) (k12 : PySem.W.keepIn K (.ref f12) = true)
    (a13 : PySem.W.nsIn K mainGlobals "_law_draw" = some (some (.ref f13))) (l13 : K.lookup f13 = some ⟨oc13, od13, .func (PySem.W.fnOf "_law_draw" "_law_draw" (defArgs s_law_draw) (defBody s_law_draw) (defScope s_law_draw) .none kv13 dc13 pm13 an13 cd13 ct13), sl13⟩) (c13 : PySem.W.codeIn K cd13 "_law_draw" = true) (k13 : PySem.W.keepIn K (.ref f13) = true)
    (a14 : PySem.W.nsIn K mainGlobals "_law_names" = some (some (.ref f14))) (l14 : K.lookup f14 = some ⟨oc14, od14, .func (PySem.W.fnOf "_law_names" "_law_names" (defArgs s_law_names) (defBody s_law_names) (defScope s_law_names) .none kv14 dc14 pm14 an14 cd14 ct14), sl14⟩) (c14 : PySem.W.codeIn K cd14 "_law_names" = true) (k14 : PySem.W.keepIn K (.ref f14) = true)
    (a15 : PySem.W.nsIn K mainGlobals "_law_span" = some (some (.ref f15))) (l15 : K.lookup f15 = some ⟨oc15, od15, .func (PySem.W.fnOf "_law_span" "_law_span" (defArgs s_law_span) (defBody s_law_span) (defScope s_law_span) .none kv15 dc15 pm15 an15 cd15 ct15), sl15⟩) (c15 : PySem.W.codeIn K cd15 "_law_span" = true) (k15 : PySem.W.keepIn K (.ref f15) = true)
    (a16 : PySem.W.nsIn K mainGlobals "_law_gate" = some (some (.ref f16))) (l16 : K.lookup f16 = some ⟨oc16, od16, .func (PySem.W.fnOf "_law_gate" "_law_gate" (defArgs s_law_gate) (defBody s_law_gate) (defScope s_law_gate) .none kv16 dc16 pm16 an16 cd16 ct16), sl16⟩) (c16 : PySem.W.codeIn K cd16 "_law_gate" = true) (k16 : PySem.W.keepIn K (.ref f16) = true)
    (a17 : PySem.W.nsIn K mainGlobals "_law_times" = some (some (.ref f17))) (l17 : K.lookup f17 = some ⟨oc17, od17, .func (PySem.W.fnOf "_law_times" "_law_times" (defArgs s_law_times) (defBody s_law_times) (defScope s_law_times) .none kv17 dc17 pm17 an17 cd17 ct17), sl17⟩) (c17 : PySem.W.codeIn K cd17 "_law_times" = true) (k17 : PySem.W.keepIn K (.ref f17) = true)
    (a18 : PySem.W.nsIn K mainGlobals "_law_circuit" = some (some (.ref f18))) (l18 : K.lookup f18 = some ⟨oc18, od18, .func (PySem.W.fnOf "_law_circuit" "_law_circuit" (defArgs s_law_circuit) (defBody s_law_circuit) (defScope s_law_circuit) .none kv18 dc18 pm18 an18 cd18 ct18), sl18⟩) (c18 : PySem.W.codeIn K cd18 "_law_circuit" = true) (k18 : PySem.W.keepIn K (.ref f18) = true)
    (a19 : PySem.W.nsIn K mainGlobals "_law_sources" = some (some (.ref f19))) (l19 : K.lookup f19 = some ⟨oc19, od19, .func (PySem.W.fnOf "_law_sources" "_law_sources" (defArgs s_law_sources) (defBody s_law_sources) (defScope s_law_sources) .none kv19 dc19 pm19 an19 cd19 ct19), sl19⟩) (c19 : PySem.W.codeIn K cd19 "_law_sources" = true) (k19 : PySem.W.keepIn K (.ref f19) = true)
    (a20 : PySem.W.nsIn K mainGlobals "_law_nets" = some (some (.ref f20))) (l20 : K.lookup f20 = some ⟨oc20, od20, .func (PySem.W.fnOf "_law_nets" "_law_nets" (defArgs s_law_nets) (defBody s_law_nets) (defScope s_law_nets) .none kv20 dc20 pm20 an20 cd20 ct20), sl20⟩) (c20 : PySem.W.codeIn K cd20 "_law_nets" = true) (k20 : PySem.W.keepIn K (.ref f20) = true)
    (a21 : PySem.W.nsIn K mainGlobals "_law_sorted_gates" = some (some (.ref f21))) (l21 : K.lookup f21 = some ⟨oc21, od21, .func (PySem.W.fnOf "_law_sorted_gates" "_law_sorted_gates" (defArgs s_law_sorted_gates) (defBody s_law_sorted_gates) (defScope s_law_sorted_gates) .none kv21 dc21 pm21 an21 cd21 ct21), sl21⟩) (c21 : PySem.W.codeIn K cd21 "_law_sorted_gates" = true) (k21 : PySem.W.keepIn K (.ref f21) = true)
    (a22 : PySem.W.nsIn K mainGlobals "_law_starts" = some (some (.ref f22))) (l22 : K.lookup f22 = some ⟨oc22, od22, .func (PySem.W.fnOf "_law_starts" "_law_starts" (defArgs s_law_starts) (defBody s_law_starts) (defScope s_law_starts) .none kv22 dc22 pm22 an22 cd22 ct22), sl22⟩) (c22 : PySem.W.codeIn K cd22 "_law_starts" = true) (k22 : PySem.W.keepIn K (.ref f22) = true)
    (a23 : PySem.W.nsIn K mainGlobals "_law_paths" = some (some (.ref f23))) (l23 : K.lookup f23 = some ⟨oc23, od23, .func (PySem.W.fnOf "_law_paths" "_law_paths" (defArgs s_law_paths) (defBody s_law_paths) (defScope s_law_paths) .none kv23 dc23 pm23 an23 cd23 ct23), sl23⟩) (c23 : PySem.W.codeIn K cd23 "_law_paths" = true) (k23 : PySem.W.keepIn K (.ref f23) = true)
    (a24 : PySem.W.nsIn K mainGlobals "_law_ahead" = some (some (.ref f24))) (l24 : K.lookup f24 = some ⟨oc24, od24, .func (PySem.W.fnOf "_law_ahead" "_law_ahead" (defArgs s_law_ahead) (defBody s_law_ahead) (defScope s_law_ahead) .none kv24 dc24 pm24 an24 cd24 ct24), sl24⟩) (c24 : PySem.W.codeIn K cd24 "_law_ahead" = true) (k24 : PySem.W.keepIn K (.ref f24) = true)
    (a25 : PySem.W.nsIn K mainGlobals "law" = some (some (.ref f25))) (l25 : K.lookup f25 = some ⟨oc25, od25, .func (PySem.W.fnOf "law" "law" (defArgs s_law) (defBody s_law) (defScope s_law) .none kv25 dc25 pm25 an25 cd25 ct25), sl25⟩) (c25 : PySem.W.codeIn K cd25 "law" = true) (k25 : PySem.W.keepIn K (.ref f25) = true)
    (m0 : PySem.W.nsIn K mainGlobals "heappop" = some (some (.builtin "_heapq.heappop")))
    (m1 : PySem.W.nsIn K mainGlobals "heappush" = some (some (.builtin "_heapq.heappush")))
    {xC0 : Addr} (u0_0 : PySem.W.nsIn K mainGlobals "WrongCount" = some (some (.ref xC0))) (u0_1 : PySem.W.excIn K xC0 [.type "ValueError", .type "Exception", .type "BaseException", .type "object"] "ValueError.__new__" = true) (u0_2 : PySem.W.keepIn K (.ref xC0) = true) (u0_3 : PySem.W.subIn K (.ref xC0) (.type "BaseException") = some true) (u0_4 : PySem.W.typeIn K (.ref xC0) = some (.type "type")) (u0_5 : PySem.W.hasDictIn K xC0 = true) (u0_6 : PySem.W.subIn K (.ref xC0) (.ref xC0) = some true)
    {xC1 : Addr} (u1_0 : PySem.W.nsIn K mainGlobals "UnknownName" = some (some (.ref xC1))) (u1_1 : PySem.W.excIn K xC1 [.type "ValueError", .type "Exception", .type "BaseException", .type "object"] "ValueError.__new__" = true) (u1_2 : PySem.W.keepIn K (.ref xC1) = true) (u1_3 : PySem.W.subIn K (.ref xC1) (.type "BaseException") = some true) (u1_4 : PySem.W.typeIn K (.ref xC1) = some (.type "type")) (u1_5 : PySem.W.hasDictIn K xC1 = true) (u1_6 : PySem.W.subIn K (.ref xC1) (.ref xC1) = some true)
    {xC2 : Addr} (u2_0 : PySem.W.nsIn K mainGlobals "BadRange" = some (some (.ref xC2))) (u2_1 : PySem.W.excIn K xC2 [.type "ValueError", .type "Exception", .type "BaseException", .type "object"] "ValueError.__new__" = true) (u2_2 : PySem.W.keepIn K (.ref xC2) = true) (u2_3 : PySem.W.subIn K (.ref xC2) (.type "BaseException") = some true) (u2_4 : PySem.W.typeIn K (.ref xC2) = some (.type "type")) (u2_5 : PySem.W.hasDictIn K xC2 = true) (u2_6 : PySem.W.subIn K (.ref xC2) (.ref xC2) = some true)
    {yC0 : Addr} {f0m0 : Addr} {od0m0 an0m0 : Option Addr} {sl0m0 : Array (Option Value)} {oc0m0 kv0m0 dc0m0 pm0m0 cd0m0 ct0m0 : Value} {f0m1 : Addr} {od0m1 an0m1 : Option Addr} {sl0m1 : Array (Option Value)} {oc0m1 kv0m1 dc0m1 pm0m1 cd0m1 ct0m1 : Value} {f0m2 : Addr} {od0m2 an0m2 : Option Addr} {sl0m2 : Array (Option Value)} {oc0m2 kv0m2 dc0m2 pm0m2 cd0m2 ct0m2 : Value} {f0m3 : Addr} {od0m3 an0m3 : Option Addr} {sl0m3 : Array (Option Value)} {oc0m3 kv0m3 dc0m3 pm0m3 cd0m3 ct0m3 : Value} {f0m4 : Addr} {od0m4 an0m4 : Option Addr} {sl0m4 : Array (Option Value)} {oc0m4 kv0m4 dc0m4 pm0m4 cd0m4 ct0m4 : Value}
    (y0_0 : PySem.W.nsIn K mainGlobals "Arrivals" = some (some (.ref yC0))) (y0_4 : PySem.W.findIn K (.ref yC0) "__setattr__" = some (some (.builtin "object.__setattr__"))) (y0_10 : PySem.W.findIn K (.ref yC0) "__init__" = some (some (.ref f0m0))) (y0_15 : PySem.W.findIn K (.ref yC0) "required" = some (some (.ref f0m1))) (y0_20 : PySem.W.findIn K (.ref yC0) "slack" = some (some (.ref f0m2))) (y0_25 : PySem.W.findIn K (.ref yC0) "_check_net" = some (some (.ref f0m3))) (y0_30 : PySem.W.findIn K (.ref yC0) "_computed" = some (some (.ref f0m4))) (y0_32 : PySem.W.findIn K (.ref yC0) "_circuit" = some none) (y0_33 : PySem.W.findIn K (.ref yC0) "_roots" = some none) (y0_34 : PySem.W.findIn K (.ref yC0) "_starts" = some none) (y0_35 : PySem.W.findIn K (.ref yC0) "_ranges" = some none) (y0_36 : PySem.W.findIn K (.ref yC0) "_order" = some none) (y0_37 : PySem.W.findIn K (.ref yC0) "_places" = some none) (y0_38 : PySem.W.findIn K (.ref yC0) "_followers" = some none) (y0_39 : PySem.W.findIn K (.ref yC0) "_pairs" = some none) (y0_40 : PySem.W.findIn K (.ref yC0) "_touched" = some none) (y0_1 : PySem.W.plainGet K yC0 Str.empty = true) (y0_2 : PySem.W.hasDictIn K yC0 = true) (y0_3 : PySem.W.plainOver K yC0 = true) (y0_5 : PySem.W.makesIn K yC0 = true) (y0_6 : PySem.W.keepIn K (.ref yC0) = true) (y0_7 : K.lookup f0m0 = some ⟨oc0m0, od0m0, .func (PySem.W.fnOf "__init__" "Arrivals.__init__" (defArgs s_Arrivals_init) (defBody s_Arrivals_init) (defScope s_Arrivals_init) .none kv0m0 dc0m0 pm0m0 an0m0 cd0m0 ct0m0), sl0m0⟩) (y0_8 : PySem.W.codeIn K cd0m0 "Arrivals.__init__" = true) (y0_9 : PySem.W.keepIn K (.ref f0m0) = true) (y0_11 : PySem.W.isFn K (.ref f0m0) = true) (y0_12 : K.lookup f0m1 = some ⟨oc0m1, od0m1, .func (PySem.W.fnOf "required" "Arrivals.required" (defArgs s_Arrivals_required) (defBody s_Arrivals_required) (defScope s_Arrivals_required) .none kv0m1 dc0m1 pm0m1 an0m1 cd0m1 ct0m1), sl0m1⟩) (y0_13 : PySem.W.codeIn K cd0m1 "Arrivals.required" = true) (y0_14 : PySem.W.keepIn K (.ref f0m1) = true) (y0_16 : PySem.W.isFn K (.ref f0m1) = true) (y0_17 : K.lookup f0m2 = some ⟨oc0m2, od0m2, .func (PySem.W.fnOf "slack" "Arrivals.slack" (defArgs s_Arrivals_slack) (defBody s_Arrivals_slack) (defScope s_Arrivals_slack) .none kv0m2 dc0m2 pm0m2 an0m2 cd0m2 ct0m2), sl0m2⟩) (y0_18 : PySem.W.codeIn K cd0m2 "Arrivals.slack" = true) (y0_19 : PySem.W.keepIn K (.ref f0m2) = true) (y0_21 : PySem.W.isFn K (.ref f0m2) = true) (y0_22 : K.lookup f0m3 = some ⟨oc0m3, od0m3, .func (PySem.W.fnOf "_check_net" "Arrivals._check_net" (defArgs s_Arrivals_check_net) (defBody s_Arrivals_check_net) (defScope s_Arrivals_check_net) .none kv0m3 dc0m3 pm0m3 an0m3 cd0m3 ct0m3), sl0m3⟩) (y0_23 : PySem.W.codeIn K cd0m3 "Arrivals._check_net" = true) (y0_24 : PySem.W.keepIn K (.ref f0m3) = true) (y0_26 : PySem.W.isFn K (.ref f0m3) = true) (y0_27 : K.lookup f0m4 = some ⟨oc0m4, od0m4, .func (PySem.W.fnOf "_computed" "Arrivals._computed" (defArgs s_Arrivals_computed) (defBody s_Arrivals_computed) (defScope s_Arrivals_computed) .none kv0m4 dc0m4 pm0m4 an0m4 cd0m4 ct0m4), sl0m4⟩) (y0_28 : PySem.W.codeIn K cd0m4 "Arrivals._computed" = true) (y0_29 : PySem.W.keepIn K (.ref f0m4) = true) (y0_31 : PySem.W.isFn K (.ref f0m4) = true)
    (z0 : PySem.W.nsIn K mainGlobals "list" = some none) (z1 : PySem.W.nsIn K mainGlobals "tuple" = some none) (z2 : PySem.W.nsIn K mainGlobals "zip" = some none) (z3 : PySem.W.nsIn K mainGlobals "len" = some none) (z4 : PySem.W.nsIn K mainGlobals "enumerate" = some none) (z5 : PySem.W.nsIn K mainGlobals "reversed" = some none) (z6 : PySem.W.nsIn K mainGlobals "min" = some none) (z7 : PySem.W.nsIn K mainGlobals "max" = some none) (z8 : PySem.W.nsIn K mainGlobals "property" = some none) (z9 : PySem.W.nsIn K mainGlobals "sorted" = some none) (z10 : PySem.W.nsIn K mainGlobals "set" = some none) (z11 : PySem.W.nsIn K mainGlobals "isinstance" = some none) (z12 : PySem.W.nsIn K mainGlobals "range" = some none) (z13 : PySem.W.nsIn K mainGlobals "bool" = some none) (z14 : PySem.W.nsIn K mainGlobals "int" = some none) (z15 : PySem.W.nsIn K mainGlobals "str" = some none) (z16 : PySem.W.nsIn K mainGlobals "sum" = some none) (z17 : PySem.W.nsIn K mainGlobals "dict" = some none) (z18 : PySem.W.nsIn K mainGlobals "ValueError" = some none) :
    ∃ fd : FuncData, (∀ (s : Shared) (v : Value), BindsTo s fd ⟨[v], []⟩ [("script", v)]) ∧ ∀ base : Heap, K.In base → base.Ns mainGlobals mg → FnOk l.prog w K mg base CX0 12 fa fd ["script"] (spLaw K) := by
  have e := hfa.symm.trans (PySem.W.mg_of X G a25)
  cases e
  have F0 := fun_mk (st := s_wall) l0 c0 k0
  have F1 := fun_mk (st := s_sources) l1 c1 k1
  have F2 := fun_mk (st := s_gate_order) l2 c2 k2
  have F3 := fun_mk (st := s_check_nets) l3 c3 k3
  have F4 := fun_mk (st := s_with_ranges) l4 c4 k4
  have F5 := fun_mk (st := s_least_order) l5 c5 k5
  have F6 := fun_mk (st := s_all_names) l6 c6 k6
  have F7 := fun_mk (st := s_gates_read) l7 c7 k7
  have F8 := fun_mk (st := s_check_start) l8 c8 k8
  have F9 := fun_mk (st := s_gates_by_net) l9 c9 k9
  have F10 := fun_mk (st := s_law_same) l10 c10 k10
  have F11 := fun_mk (st := s_law_pool) l11 c11 k11
  have F12 := fun_mk (st := s_law_spread) l12 c12 k12
  have F13 := fun_mk (st := s_law_draw) l13 c13 k13
  have F14 := fun_mk (st := s_law_names) l14 c14 k14
  have F15 := fun_mk (st := s_law_span) l15 c15 k15
  have F16 := fun_mk (st := s_law_gate) l16 c16 k16
  have F17 := fun_mk (st := s_law_times) l17 c17 k17
  have F18 := fun_mk (st := s_law_circuit) l18 c18 k18
  have F19 := fun_mk (st := s_law_sources) l19 c19 k19
  have F20 := fun_mk (st := s_law_nets) l20 c20 k20
  have F21 := fun_mk (st := s_law_sorted_gates) l21 c21 k21
  have F22 := fun_mk (st := s_law_starts) l22 c22 k22
  have F23 := fun_mk (st := s_law_paths) l23 c23 k23
  have F24 := fun_mk (st := s_law_ahead) l24 c24 k24
  have F25 := fun_mk (st := s_law) l25 c25 k25
  have A : All K mg := ⟨⟨f0, _, F0, PySem.W.mg_of X G a0, F0.binds (ps := ["k"]) fun _ _ _ _ _ _ us hl => match us, hl with | [_], _ => rfl⟩,
    ⟨f1, _, F1, PySem.W.mg_of X G a1, F1.binds (ps := ["circuit"]) fun _ _ _ _ _ _ us hl => match us, hl with | [_], _ => rfl⟩,
    ⟨f2, _, F2, PySem.W.mg_of X G a2, F2.binds (ps := ["circuit"]) fun _ _ _ _ _ _ us hl => match us, hl with | [_], _ => rfl⟩,
    ⟨f3, _, F3, PySem.W.mg_of X G a3, F3.binds (ps := ["circuit", "names"]) fun _ _ _ _ _ _ us hl => match us, hl with | [_, _], _ => rfl⟩,
    ⟨f4, _, F4, PySem.W.mg_of X G a4, F4.binds (ps := ["circuit", "rows"]) fun _ _ _ _ _ _ us hl => match us, hl with | [_, _], _ => rfl⟩,
    ⟨f5, _, F5, PySem.W.mg_of X G a5, F5.binds (ps := ["needed"]) fun _ _ _ _ _ _ us hl => match us, hl with | [_], _ => rfl⟩,
    ⟨f6, _, F6, PySem.W.mg_of X G a6, F6.binds (ps := ["circuit"]) fun _ _ _ _ _ _ us hl => match us, hl with | [_], _ => rfl⟩,
    ⟨f7, _, F7, PySem.W.mg_of X G a7, F7.binds (ps := ["gates"]) fun _ _ _ _ _ _ us hl => match us, hl with | [_], _ => rfl⟩,
    ⟨f8, _, F8, PySem.W.mg_of X G a8, F8.binds (ps := ["pair"]) fun _ _ _ _ _ _ us hl => match us, hl with | [_], _ => rfl⟩,
    ⟨f9, _, F9, PySem.W.mg_of X G a9, F9.binds (ps := ["circuit"]) fun _ _ _ _ _ _ us hl => match us, hl with | [_], _ => rfl⟩,
    ⟨f10, _, F10, PySem.W.mg_of X G a10, F10.binds (ps := ["actual", "due"]) fun _ _ _ _ _ _ us hl => match us, hl with | [_, _], _ => rfl⟩,
    ⟨f11, _, F11, PySem.W.mg_of X G a11, F11.binds (ps := ["script"]) fun _ _ _ _ _ _ us hl => match us, hl with | [_], _ => rfl⟩,
    ⟨f12, _, F12, PySem.W.mg_of X G a12, F12.binds (ps := ["cell"]) fun _ _ _ _ _ _ us hl => match us, hl with | [_], _ => rfl⟩,
    ⟨f13, _, F13, PySem.W.mg_of X G a13, F13.binds (ps := ["pool", "many"]) fun _ _ _ _ _ _ us hl => match us, hl with | [_, _], _ => rfl⟩,
    ⟨f14, _, F14, PySem.W.mg_of X G a14, F14.binds (ps := ["pool", "many"]) fun _ _ _ _ _ _ us hl => match us, hl with | [_, _], _ => rfl⟩,
    ⟨f15, _, F15, PySem.W.mg_of X G a15, F15.binds (ps := ["pool"]) fun _ _ _ _ _ _ us hl => match us, hl with | [_], _ => rfl⟩,
    ⟨f16, _, F16, PySem.W.mg_of X G a16, F16.binds (ps := ["pool", "name", "nets"]) fun _ _ _ _ _ _ us hl => match us, hl with | [_, _, _], _ => rfl⟩,
    ⟨f17, _, F17, PySem.W.mg_of X G a17, F17.binds (ps := ["pool"]) fun _ _ _ _ _ _ us hl => match us, hl with | [_], _ => rfl⟩,
    ⟨f18, _, F18, PySem.W.mg_of X G a18, F18.binds (ps := ["pool", "inputs", "regs", "most"]) fun _ _ _ _ _ _ us hl => match us, hl with | [_, _, _, _], _ => rfl⟩,
    ⟨f19, _, F19, PySem.W.mg_of X G a19, F19.binds (ps := ["circuit"]) fun _ _ _ _ _ _ us hl => match us, hl with | [_], _ => rfl⟩,
    ⟨f20, _, F20, PySem.W.mg_of X G a20, F20.binds (ps := ["circuit"]) fun _ _ _ _ _ _ us hl => match us, hl with | [_], _ => rfl⟩,
    ⟨f21, _, F21, PySem.W.mg_of X G a21, F21.binds (ps := ["circuit"]) fun _ _ _ _ _ _ us hl => match us, hl with | [_], _ => rfl⟩,
    ⟨f22, _, F22, PySem.W.mg_of X G a22, F22.binds (ps := ["pool", "circuit"]) fun _ _ _ _ _ _ us hl => match us, hl with | [_, _], _ => rfl⟩,
    ⟨f23, _, F23, PySem.W.mg_of X G a23, F23.binds (ps := ["circuit", "starts"]) fun _ _ _ _ _ _ us hl => match us, hl with | [_, _], _ => rfl⟩,
    ⟨f24, _, F24, PySem.W.mg_of X G a24, F24.binds (ps := ["circuit", "net", "limits"]) fun _ _ _ _ _ _ us hl => match us, hl with | [_, _, _], _ => rfl⟩,
    PySem.W.mg_none_of X G z0,
    PySem.W.mg_none_of X G z1,
    PySem.W.mg_none_of X G z2,
    PySem.W.mg_none_of X G z3,
    PySem.W.mg_none_of X G z4,
    PySem.W.mg_none_of X G z5,
    PySem.W.mg_none_of X G z6,
    PySem.W.mg_none_of X G z7,
    PySem.W.mg_none_of X G z8,
    PySem.W.mg_none_of X G z9,
    PySem.W.mg_none_of X G z10,
    PySem.W.mg_none_of X G z11,
    PySem.W.mg_none_of X G z12,
    PySem.W.mg_none_of X G z13,
    PySem.W.mg_none_of X G z14,
    PySem.W.mg_none_of X G z15,
    PySem.W.mg_none_of X G z16,
    PySem.W.mg_none_of X G z17,
    PySem.W.mg_none_of X G z18,
    PySem.W.mg_of X G m0,
    PySem.W.mg_of X G m1,
    ⟨yC0, ⟨PySem.W.mg_of X G y0_0, ⟨y0_1, y0_2, y0_3, y0_4⟩, ⟨f0m0, _, ⟨y0_5, y0_10, y0_11, y0_6⟩, (fun_mk (st := s_Arrivals_init) y0_7 y0_8 y0_9), (fun_mk (st := s_Arrivals_init) y0_7 y0_8 y0_9).binds (ps := ["self", "circuit", "starts"]) fun _ _ _ _ _ _ us hl => match us, hl with | [_, _, _], _ => rfl⟩, ⟨f0m1, _, ⟨y0_15, y0_16, y0_14⟩, (fun_mk (st := s_Arrivals_required) y0_12 y0_13 y0_14), (fun_mk (st := s_Arrivals_required) y0_12 y0_13 y0_14).binds (ps := ["self", "limits"]) fun _ _ _ _ _ _ us hl => match us, hl with | [_, _], _ => rfl⟩, ⟨f0m2, _, ⟨y0_20, y0_21, y0_19⟩, (fun_mk (st := s_Arrivals_slack) y0_17 y0_18 y0_19), (fun_mk (st := s_Arrivals_slack) y0_17 y0_18 y0_19).binds (ps := ["self", "net", "limits"]) fun _ _ _ _ _ _ us hl => match us, hl with | [_, _, _], _ => rfl⟩, ⟨f0m3, _, ⟨y0_25, y0_26, y0_24⟩, (fun_mk (st := s_Arrivals_check_net) y0_22 y0_23 y0_24), (fun_mk (st := s_Arrivals_check_net) y0_22 y0_23 y0_24).binds (ps := ["self", "net"]) fun _ _ _ _ _ _ us hl => match us, hl with | [_, _], _ => rfl⟩, ⟨f0m4, _, ⟨y0_30, y0_31, y0_29⟩, (fun_mk (st := s_Arrivals_computed) y0_27 y0_28 y0_29), (fun_mk (st := s_Arrivals_computed) y0_27 y0_28 y0_29).binds (ps := ["self", "g"]) fun _ _ _ _ _ _ us hl => match us, hl with | [_, _], _ => rfl⟩, y0_32, y0_33, y0_34, y0_35, y0_36, y0_37, y0_38, y0_39, y0_40⟩⟩,
    ⟨xC0, ⟨⟨PySem.W.mg_of X G u0_0, u0_1, u0_2, u0_3, u0_4⟩, u0_5, u0_6⟩⟩,
    ⟨xC1, ⟨⟨PySem.W.mg_of X G u1_0, u1_1, u1_2, u1_3, u1_4⟩, u1_5, u1_6⟩⟩,
    ⟨xC2, ⟨⟨PySem.W.mg_of X G u2_0, u2_1, u2_2, u2_3, u2_4⟩, u2_5, u2_6⟩⟩⟩
  exact ⟨_, fun s v => .of_eq rfl, fun base _ _ => glue A F25⟩
end G
open PySem PySem.W PyProof.Rows
set_option maxRecDepth 100000 in
set_option maxHeartbeats 0 in
theorem PySem.Challenge.cw_signoff_k45_required_times_and_slacks_holds : PySem.Challenge.rw_signoff_k45_required_times_and_slacks.Holds := by
  w_on; o_law; k_head; (case hw => w_witness2)
  k_fill
  refine L2.walk_of (l := PySem.Challenge.rw_signoff_k45_required_times_and_slacks) (n := 63) (k := 12) (x := "script") (CX := fun _ => L2.CX0) (sp := fun w => G.spLaw _) rfl (by decide) rfl ⟨rfl, by decide, by decide⟩ (fun w h Y => PySem.W.kIn_of Y) ?F (fun _ _ a ns hl _ hS => ⟨a, ns, rfl, hS, hl, fun _ => rfl⟩) (fun _ _ _ _ _ h => h)
  case F =>
    intro w mg fa h KX GN hmg
    refine' G.all_mk KX GN hmg ?a0 ?l0 ?c0 ?k0 ?a1 ?l1 ?c1 ?k1 ?a2 ?l2 ?c2 ?k2 ?a3 ?l3 ?c3 ?k3 ?a4 ?l4 ?c4 ?k4 ?a5 ?l5 ?c5 ?k5 ?a6 ?l6 ?c6 ?k6 ?a7 ?l7 ?c7 ?k7 ?a8 ?l8 ?c8 ?k8 ?a9 ?l9 ?c9 ?k9 ?a10 ?l10 ?c10 ?k10 ?a11 ?l11 ?c11 ?k11 ?a12 ?l12 ?c12 ?k12 ?a13 ?l13 ?c13 ?k13 ?a14 ?l14 ?c14 ?k14 ?a15 ?l15 ?c15 ?k15 ?a16 ?l16 ?c16 ?k16 ?a17 ?l17 ?c17 ?k17 ?a18 ?l18 ?c18 ?k18 ?a19 ?l19 ?c19 ?k19 ?a20 ?l20 ?c20 ?k20 ?a21 ?l21 ?c21 ?k21 ?a22 ?l22 ?c22 ?k22 ?a23 ?l23 ?c23 ?k23 ?a24 ?l24 ?c24 ?k24 ?a25 ?l25 ?c25 ?k25 ?m0 ?m1 ?xu0_0 ?xu0_1 ?xu0_2 ?xu0_3 ?xu0_4 ?xu0_5 ?xu0_6 ?xu1_0 ?xu1_1 ?xu1_2 ?xu1_3 ?xu1_4 ?xu1_5 ?xu1_6 ?xu2_0 ?xu2_1 ?xu2_2 ?xu2_3 ?xu2_4 ?xu2_5 ?xu2_6 ?vy0_0 ?vy0_4 ?vy0_10 ?vy0_15 ?vy0_20 ?vy0_25 ?vy0_30 ?vy0_32 ?vy0_33 ?vy0_34 ?vy0_35 ?vy0_36 ?vy0_37 ?vy0_38 ?vy0_39 ?vy0_40 ?vy0_1 ?vy0_2 ?vy0_3 ?vy0_5 ?vy0_6 ?vy0_7 ?vy0_8 ?vy0_9 ?vy0_11 ?vy0_12 ?vy0_13 ?vy0_14 ?vy0_16 ?vy0_17 ?vy0_18 ?vy0_19 ?vy0_21 ?vy0_22 ?vy0_23 ?vy0_24 ?vy0_26 ?vy0_27 ?vy0_28 ?vy0_29 ?vy0_31 ?z0 ?z1 ?z2 ?z3 ?z4 ?z5 ?z6 ?z7 ?z8 ?z9 ?z10 ?z11 ?z12 ?z13 ?z14 ?z15 ?z16 ?z17 ?z18
    (case a0 => k_is)
    (case l0 => k_is)
    (case c0 => k_is)
    (case k0 => k_is)
    (case a1 => k_is)
    (case l1 => k_is)
    (case c1 => k_is)
    (case k1 => k_is)
    (case a2 => k_is)
    (case l2 => k_is)
    (case c2 => k_is)
    (case k2 => k_is)
    (case a3 => k_is)
    (case l3 => k_is)
    (case c3 => k_is)
    (case k3 => k_is)
    (case a4 => k_is)
    (case l4 => k_is)
    (case c4 => k_is)
    (case k4 => k_is)
    (case a5 => k_is)
    (case l5 => k_is)
    (case c5 => k_is)
    (case k5 => k_is)
    (case a6 => k_is)
    (case l6 => k_is)
    (case c6 => k_is)
    (case k6 => k_is)
    (case a7 => k_is)
    (case l7 => k_is)
    (case c7 => k_is)
    (case k7 => k_is)
    (case a8 => k_is)
    (case l8 => k_is)
    (case c8 => k_is)
    (case k8 => k_is)
    (case a9 => k_is)
    (case l9 => k_is)
    (case c9 => k_is)
    (case k9 => k_is)
    (case a10 => k_is)
    (case l10 => k_is)
    (case c10 => k_is)
    (case k10 => k_is)
    (case a11 => k_is)
    (case l11 => k_is)
    (case c11 => k_is)
    (case k11 => k_is)
    (case a12 => k_is)
    (case l12 => k_is)
    (case c12 => k_is)
    (case k12 => k_is)
    (case a13 => k_is)
    (case l13 => k_is)
    (case c13 => k_is)
    (case k13 => k_is)
    (case a14 => k_is)
    (case l14 => k_is)
    (case c14 => k_is)
    (case k14 => k_is)
    (case a15 => k_is)
    (case l15 => k_is)
    (case c15 => k_is)
    (case k15 => k_is)
    (case a16 => k_is)
    (case l16 => k_is)
    (case c16 => k_is)
    (case k16 => k_is)
    (case a17 => k_is)
    (case l17 => k_is)
    (case c17 => k_is)
    (case k17 => k_is)
    (case a18 => k_is)
    (case l18 => k_is)
    (case c18 => k_is)
    (case k18 => k_is)
    (case a19 => k_is)
    (case l19 => k_is)
    (case c19 => k_is)
    (case k19 => k_is)
    (case a20 => k_is)
    (case l20 => k_is)
    (case c20 => k_is)
    (case k20 => k_is)
    (case a21 => k_is)
    (case l21 => k_is)
    (case c21 => k_is)
    (case k21 => k_is)
    (case a22 => k_is)
    (case l22 => k_is)
    (case c22 => k_is)
    (case k22 => k_is)
    (case a23 => k_is)
    (case l23 => k_is)
    (case c23 => k_is)
    (case k23 => k_is)
    (case a24 => k_is)
    (case l24 => k_is)
    (case c24 => k_is)
    (case k24 => k_is)
    (case a25 => k_is)
    (case l25 => k_is)
    (case c25 => k_is)
    (case k25 => k_is)
    (case m0 => k_is)
    (case m1 => k_is)
    (case xu0_0 => first | k_exc | k_is | rfl)
    (case xu0_1 => first | k_exc | k_is | rfl)
    (case xu0_2 => first | k_exc | k_is | rfl)
    (case xu0_3 => first | k_exc | k_is | rfl)
    (case xu0_4 => first | k_exc | k_is | rfl)
    (case xu0_5 => first | k_exc | k_is | rfl)
    (case xu0_6 => first | k_exc | k_is | rfl)
    (case xu1_0 => first | k_exc | k_is | rfl)
    (case xu1_1 => first | k_exc | k_is | rfl)
    (case xu1_2 => first | k_exc | k_is | rfl)
    (case xu1_3 => first | k_exc | k_is | rfl)
    (case xu1_4 => first | k_exc | k_is | rfl)
    (case xu1_5 => first | k_exc | k_is | rfl)
    (case xu1_6 => first | k_exc | k_is | rfl)
    (case xu2_0 => first | k_exc | k_is | rfl)
    (case xu2_1 => first | k_exc | k_is | rfl)
    (case xu2_2 => first | k_exc | k_is | rfl)
    (case xu2_3 => first | k_exc | k_is | rfl)
    (case xu2_4 => first | k_exc | k_is | rfl)
    (case xu2_5 => first | k_exc | k_is | rfl)
    (case xu2_6 => first | k_exc | k_is | rfl)
    (case vy0_0 => k_is)
    (case vy0_4 => k_is)
    (case vy0_10 => k_is)
    (case vy0_15 => k_is)
    (case vy0_20 => k_is)
    (case vy0_25 => k_is)
    (case vy0_30 => k_is)
    (case vy0_32 => k_is)
    (case vy0_33 => k_is)
    (case vy0_34 => k_is)
    (case vy0_35 => k_is)
    (case vy0_36 => k_is)
    (case vy0_37 => k_is)
    (case vy0_38 => k_is)
    (case vy0_39 => k_is)
    (case vy0_40 => k_is)
    (case vy0_1 => k_is)
    (case vy0_2 => k_is)
    (case vy0_3 => k_is)
    (case vy0_5 => k_is)
    (case vy0_6 => k_is)
    (case vy0_7 => k_is)
    (case vy0_8 => k_is)
    (case vy0_9 => k_is)
    (case vy0_11 => k_is)
    (case vy0_12 => k_is)
    (case vy0_13 => k_is)
    (case vy0_14 => k_is)
    (case vy0_16 => k_is)
    (case vy0_17 => k_is)
    (case vy0_18 => k_is)
    (case vy0_19 => k_is)
    (case vy0_21 => k_is)
    (case vy0_22 => k_is)
    (case vy0_23 => k_is)
    (case vy0_24 => k_is)
    (case vy0_26 => k_is)
    (case vy0_27 => k_is)
    (case vy0_28 => k_is)
    (case vy0_29 => k_is)
    (case vy0_31 => k_is)
    (case z0 => k_is)
    (case z1 => k_is)
    (case z2 => k_is)
    (case z3 => k_is)
    (case z4 => k_is)
    (case z5 => k_is)
    (case z6 => k_is)
    (case z7 => k_is)
    (case z8 => k_is)
    (case z9 => k_is)
    (case z10 => k_is)
    (case z11 => k_is)
    (case z12 => k_is)
    (case z13 => k_is)
    (case z14 => k_is)
    (case z15 => k_is)
    (case z16 => k_is)
    (case z17 => k_is)
    (case z18 => k_is)
#print axioms PySem.Challenge.cw_signoff_k45_required_times_and_slacks_holds
