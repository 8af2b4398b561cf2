import PyProof.Rows.All
import Wide.All
import OpenK.AllK
import Wide.FinOn
import HandS.ForMost
import HandS.Evl
import HandS.Wide
import HandS.WideBits
import HandS.Flow
import HandS.IsInst
import HandS.TupAny
import HandS.Walk
import HandS.Zip
import HandS.Steps
import KE.GoesMore
import KE.GoesEnum
import KE.KEqSeq
import HandS.SetTxt0
import HandS.Set
import HandS.SetFor
import HandS.Strs
import HandS.DictComp
import KE.GoesSet
import HandS.More
import HandS.Style
import HandS.Small
import HandS.SetKeys
import HandS.StrMore
import PyProof.StrLawsFirst
import HandS.Iter
import HandS.FStr
import HandS.ForExc
import HandS.ExcIs
import HandS.CallSlots
import HandS.Property
import HandS.ClsMeth
import HandS.ExcInit
import HandS.ExcField
import HandS.Nested
import KE.KExcSuper
import KE.KSuper
import KE.KExcIs
import KE.KFromBytes
import PyProof.DelItemList
import HandS.Flow
import KE.DataMinMax
import HandS.SortKw
import HandS.List
import HandS.Defaults
import HandS.Text
import PyProof.Rows.StrMul
import PyProof.Rows.StrJoinRep
import PySem.Challenge.RW_signoff_k08_depth_and_order_of_errors
set_option Elab.async false
set_option linter.all false
set_option maxRecDepth 100000
set_option maxHeartbeats 4000000
set_option Elab.async false
set_option linter.all false
set_option maxRecDepth 100000
set_option maxHeartbeats 4000000
namespace G
open PySem PySem.Spec PyProof.Rows L2 Evl
/-! ## defs by name -/
def Dfd (K : PySem.W.Frag) (mg : Str → Option Value) (x : Str) (st : Stmt) (ps : List Str) : Prop := ∃ (f : Addr) (fd : FuncData), Fun K x x st f fd ∧ mg x = some (.ref f) ∧ Binds K fd ps []
def Has (P : Program) (w : World) (K : PySem.W.Frag) (mg : Str → Option Value) (base : Heap) (k : Nat) (x : Str) (ps : List Str) (sp : Sp) : Prop :=
  ∃ (f : Addr) (fd : FuncData), FnOk P w K mg base CX0 k f fd ps sp ∧ mg x = some (.ref f) ∧ PySem.W.keepIn K (.ref f) = true ∧ Binds K fd ps []
section
variable {P : Program} {w : World} {K : PySem.W.Frag} {mg : Str → Option Value} {base : Heap}
theorem Dfd.has {x : Str} {st : Stmt} {ps : List Str} {k : Nat} {sp : Sp} (d : Dfd K mg x st ps) (h : ∀ f fd, Fun K x x st f fd → FnOk P w K mg base CX0 k f fd ps sp) : Has P w K mg base k x ps sp := by
  obtain ⟨f, fd, F, g, b⟩ := d
  exact ⟨f, fd, h f fd F, g, F.kp, b⟩
theorem Has.mono {x : Str} {ps : List Str} {j k : Nat} {sp : Sp} (h : Has P w K mg base j x ps sp) (l : j ≤ k) : Has P w K mg base k x ps sp := by
  obtain ⟨f, fd, F, g⟩ := h
  exact ⟨f, fd, F.mono l, g⟩
theorem Has.imp {x : Str} {ps : List Str} {k : Nat} {sp sp' : Sp} (h : Has P w K mg base k x ps sp) (i : ∀ vs H Q E, sp' vs H Q E → sp vs H Q E) : Has P w K mg base k x ps sp' := by
  obtain ⟨f, fd, F, g⟩ := h
  exact ⟨f, fd, F.imp i, g⟩
end
/-! ## heaps -/
theorem sq_ex {K : PySem.W.Frag} {H H' : Hp} {a : Addr} {xs : List V} (e : Ex H H') (h : SqL K H a xs) : SqL K H' a xs := ex_l e h
/-- the heap without what stands at p -/
def hid (p : Addr) (H : Hp) : Hp := fun b => if b = p then none else H b
theorem hid_self {p : Addr} {H : Hp} : hid p H p = none := by unfold hid; rw [if_pos rfl]
theorem hid_ne {p b : Addr} {H : Hp} (h : b ≠ p) : hid p H b = H b := by unfold hid; rw [if_neg h]
theorem hid_get {p b : Addr} {H : Hp} {o : HO} (h : hid p H b = some o) : H b = some o := by
  by_cases e : b = p
  · subst e; rw [hid_self] at h; cases h
  · rw [hid_ne e] at h; exact h
theorem hid_neq {p b : Addr} {H : Hp} {o : HO} (h : hid p H b = some o) : b ≠ p := by
  intro e; subst e; rw [hid_self] at h; cases h
theorem hid_ex {p : Addr} {H : Hp} : Ex (hid p H) H := fun _ _ h => hid_get h
theorem hid_upd {p : Addr} {H : Hp} {o : HO} : hid p (upd H p o) = hid p H := by
  funext b
  by_cases e : b = p
  · subst e; rw [hid_self, hid_self]
  · rw [hid_ne e, hid_ne e, upd_ne e]
theorem hid_upd_ne {p q : Addr} {H : Hp} {o : HO} (h : q ≠ p) : hid p (upd H q o) = upd (hid p H) q o := by
  funext b
  by_cases e2 : b = q
  · subst e2; rw [hid_ne h, upd_same, upd_same]
  · rw [upd_ne e2]
    by_cases e : b = p
    · subst e; rw [hid_self, hid_self]
    · rw [hid_ne e, hid_ne e, upd_ne e2]
theorem hid_none {p b : Addr} {H : Hp} (h : H b = none) : hid p H b = none := by
  unfold hid; split
  · rfl
  · exact h
/-! ## the pool of draws: the list at p, the script's copy at a -/
def PoolOk (p a : Addr) (H : Hp) : Prop := ∃ (ns : List Int) (i : Nat) (c k s : Int), H p = some (.lst [.ref a, .int i, .int c, .int k, .int s]) ∧ hid p H a = some (.lst (ns.map V.int)) ∧ ns.length ≤ 1000
/-- from H to H' all but the pool is kept, and the pool is a pool -/
structure Px (p a : Addr) (H H' : Hp) : Prop where
  was : PoolOk p a H
  pool : PoolOk p a H'
  ex : Ex (hid p H) (hid p H')
section
variable {p a : Addr} {H H1 H2 H' : Hp}
theorem Px.refl (h : PoolOk p a H) : Px p a H H := ⟨h, h, Ex.refl _⟩
theorem Px.trans (x : Px p a H H1) (y : Px p a H1 H2) : Px p a H H2 := ⟨x.was, y.pool, x.ex.trans y.ex⟩
theorem PoolOk.ne {b : Addr} (h : PoolOk p a H) (n : H b = none) : b ≠ p := by
  obtain ⟨_, _, _, _, _, e, _⟩ := h
  exact (ne_of_none e n).symm
theorem PoolOk.ne2 {b : Addr} (h : PoolOk p a H) (n : H b = none) : a ≠ b := by
  obtain ⟨_, _, _, _, _, _, e, _⟩ := h
  exact ne_of_none (hid_get e) n
theorem PoolOk.kept (h : PoolOk p a H) (e : Ex H H') : PoolOk p a H' := by
  obtain ⟨ns, i, c, k, s, h1, h2, h3⟩ := h
  exact ⟨ns, i, c, k, s, e _ _ h1, by rw [hid_ne (hid_neq h2)]; exact e _ _ (hid_get h2), h3⟩
theorem Px.ofEx (h : PoolOk p a H) (e : Ex H H') : Px p a H H' := ⟨h, h.kept e, fun b o hb => by rw [hid_ne (hid_neq hb)]; exact e _ _ (hid_get hb)⟩
theorem Px.more (x : Px p a H H1) (e : Ex H1 H2) : Px p a H H2 := x.trans (Px.ofEx x.pool e)
theorem Px.draw {o : HO} (w : PoolOk p a H) (h : PoolOk p a (upd H p o)) : Px p a H (upd H p o) := ⟨w, h, by rw [hid_upd]; exact Ex.refl _⟩
theorem Px.new (x : Px p a H H1) {l : Addr} {o : HO} (n : H1 l = none) : Px p a H (upd H1 l o) := x.more (Ex.new n)
/-- what H has is kept -/
theorem Px.get (x : Px p a H H1) {b : Addr} {o : HO} (h : hid p H b = some o) : hid p H1 b = some o := x.ex _ _ h
theorem Px.at_ (x : Px p a H H1) {b : Addr} {o : HO} (h : hid p H b = some o) : H1 b = some o := hid_get (x.ex _ _ h)
theorem Px.free (x : Px p a H H1) {b : Addr} (n : H1 b = none) : H b = none := by
  cases e : H b with
  | none => rfl
  | some o =>
    have hb : b ≠ p := x.pool.ne n
    have := x.ex b o (by rw [hid_ne hb]; exact e)
    rw [hid_get this] at n; cases n
/-- an object that H does not have may change -/
theorem Px.mut (x : Px p a H H1) {l : Addr} {o : HO} (n : H l = none) : Px p a H (upd H1 l o) := by
  have hl : l ≠ p := x.was.ne n
  have ha : a ≠ l := x.was.ne2 n
  refine ⟨x.was, ?_, ?_⟩
  · obtain ⟨ns, i, c, k, s, h1, h2, h3⟩ := x.pool
    exact ⟨ns, i, c, k, s, by rw [upd_ne hl.symm]; exact h1, by rw [hid_upd_ne hl, upd_ne ha]; exact h2, h3⟩
  · rw [hid_upd_ne hl]; exact Ex.mut x.ex (hid_none n)
/-- a fresh object stands apart from the pool -/
theorem Px.seen (x : Px p a H H1) {l : Addr} {o : HO} (n : H l = none) (e : H1 l = some o) : hid p H1 l = some o := by
  rw [hid_ne (x.was.ne n)]; exact e
end
end G
namespace G
open PySem PySem.Spec PyProof.Rows L2 Evl
/-! ## comprehensions whose elements are plain values -/
theorem given_all {n : Nat} {v : Nat → V} : given n (fun _ => true) v = (List.range n).map v := by
  unfold given
  rw [List.filter_eq_self.mpr (fun _ _ => rfl)]
section
variable {lo : Int} {n j : Nat} {tt : TT} {te : TE} {vs : List Nat} {σ : L2.St} {H1 : Hp} {D : Addr} {Qd : Hp → Prop} {K : PySem.W.Frag} {a : Addr} {xs : List V}
theorem lc_turn {f : Nat → Bool} {v : Nat → V} {i : Nat} {H : Hp} {σ2 : L2.St} (e : H = upd H1 D (.lst (given i f v))) (hi : i < 100000) (ht : Ans tt σ2 H (f i)) (he : f i = true → Val te σ2 H (v i)) :
    tt σ2 H fun b H3 => if b = true then te σ2 H3 fun y H4 => ∃ acc, H4 D = some (.lst acc) ∧ acc.length < sizeLine ∧ (upd H4 D (.lst (acc ++ [y]))) = upd H1 D (.lst (given (i + 1) f v)) else H3 = upd H1 D (.lst (given (i + 1) f v)) := by
  refine ht _ ?_
  subst e
  cases hf : f i with
  | true =>
    refine iteT (he hf _ ⟨_, upd_same, sz_lt (by have := given_len i f v; omega), ?_⟩)
    rw [given_yes hf, upd_upd]
  | false =>
    refine iteF ?_
    rw [given_no hf]
theorem lcR (f : Nat → Bool) (v : Nat → V) (hn : n ≤ 100000) (hw : ∀ x, wipe ((wipe σ vs).set j (some x)) vs = wipe σ vs)
    (ht : ∀ (i : Nat) (H : Hp), i < n → H = upd H1 D (.lst (given i f v)) → Ans tt ((wipe σ vs).set j (some (.int (lo + i)))) H (f i))
    (he : ∀ (i : Nat) (H : Hp), i < n → H = upd H1 D (.lst (given i f v)) → f i = true → Val te ((wipe σ vs).set j (some (.int (lo + i)))) H (v i)) (q : Qd (upd H1 D (.lst (given n f v)))) :
    ∃ W : Nat → Nat → Hp → Prop, (∃ m, W 0 m (upd H1 D (.lst []))) ∧ ∀ i m H, W i m H →
      ((Itr lo n).stop i H ∧ Qd H) ∨ ((Itr lo n).go i H ∧ ∃ Nx : Hp → Prop, (∀ H', Nx H' → ∃ m', m' < m ∧ W (i + 1) m' H') ∧ ∀ x H', (Itr lo n).yld i H x H' → gName j x (wipe σ vs) H' fun σ2 H2 => wipe σ2 vs = wipe σ vs ∧ tt σ2 H2 fun b H3 =>
        if b = true then te σ2 H3 fun y H4 => ∃ acc, H4 D = some (.lst acc) ∧ acc.length < sizeLine ∧ Nx (upd H4 D (.lst (acc ++ [y]))) else Nx H3) :=
  lc_range (fun i H => H = upd H1 D (.lst (given i f v))) rfl (fun i H hi e => ⟨hw _, lc_turn e (by omega) (ht i H hi e) (he i H hi e)⟩) (fun H e => by rw [e]; exact q)
theorem lcRv (v : Nat → V) (hn : n ≤ 100000) (hw : ∀ x, wipe ((wipe σ vs).set j (some x)) vs = wipe σ vs)
    (he : ∀ (i : Nat) (H : Hp), i < n → H = upd H1 D (.lst (given i (fun _ => true) v)) → Val te ((wipe σ vs).set j (some (.int (lo + i)))) H (v i)) (q : Qd (upd H1 D (.lst ((List.range n).map v)))) :
    ∃ W : Nat → Nat → Hp → Prop, (∃ m, W 0 m (upd H1 D (.lst []))) ∧ ∀ i m H, W i m H →
      ((Itr lo n).stop i H ∧ Qd H) ∨ ((Itr lo n).go i H ∧ ∃ Nx : Hp → Prop, (∀ H', Nx H' → ∃ m', m' < m ∧ W (i + 1) m' H') ∧ ∀ x H', (Itr lo n).yld i H x H' → gName j x (wipe σ vs) H' fun σ2 H2 => wipe σ2 vs = wipe σ vs ∧ tYes σ2 H2 fun b H3 =>
        if b = true then te σ2 H3 fun y H4 => ∃ acc, H4 D = some (.lst acc) ∧ acc.length < sizeLine ∧ Nx (upd H4 D (.lst (acc ++ [y]))) else Nx H3) :=
  lcR (fun _ => true) v hn hw (fun _ _ _ _ => fun _ q => q) (fun i H hi e _ => he i H hi e) (by rw [given_all]; exact q)
theorem lcL (f : Nat → Bool) (v : Nat → V) (hx : SqL K H1 a xs) (hD : H1 D = none) (hn : xs.length ≤ 100000) (hw : ∀ x, wipe ((wipe σ vs).set j (some x)) vs = wipe σ vs)
    (ht : ∀ (i : Nat) (x : V) (H : Hp), xs[i]? = some x → H = upd H1 D (.lst (given i f v)) → Ans tt ((wipe σ vs).set j (some x)) H (f i))
    (he : ∀ (i : Nat) (x : V) (H : Hp), xs[i]? = some x → H = upd H1 D (.lst (given i f v)) → f i = true → Val te ((wipe σ vs).set j (some x)) H (v i)) (q : Qd (upd H1 D (.lst (given xs.length f v)))) :
    ∃ W : Nat → Nat → Hp → Prop, (∃ m, W 0 m (upd H1 D (.lst []))) ∧ ∀ i m H, W i m H →
      ((Itl K a).stop i H ∧ Qd H) ∨ ((Itl K a).go i H ∧ ∃ Nx : Hp → Prop, (∀ H', Nx H' → ∃ m', m' < m ∧ W (i + 1) m' H') ∧ ∀ x H', (Itl K a).yld i H x H' → gName j x (wipe σ vs) H' fun σ2 H2 => wipe σ2 vs = wipe σ vs ∧ tt σ2 H2 fun b H3 =>
        if b = true then te σ2 H3 fun y H4 => ∃ acc, H4 D = some (.lst acc) ∧ acc.length < sizeLine ∧ Nx (upd H4 D (.lst (acc ++ [y]))) else Nx H3) :=
  lc_list (fun i H => H = upd H1 D (.lst (given i f v))) rfl (fun i H hi e => by rw [e]; exact ex_l (Ex.new hD) hx) (fun i x H hi e => ⟨hw _, lc_turn e (by have := (List.getElem?_eq_some_iff.mp hi).1; omega) (ht i x H hi e) (he i x H hi e)⟩) (fun H e => by rw [e]; exact q)
theorem lcT (f : Nat → Bool) (v : Nat → V) (hx : SqT K H1 a xs) (hD : H1 D = none) (hn : xs.length ≤ 100000) (hw : ∀ x, wipe ((wipe σ vs).set j (some x)) vs = wipe σ vs)
    (ht : ∀ (i : Nat) (x : V) (H : Hp), xs[i]? = some x → H = upd H1 D (.lst (given i f v)) → Ans tt ((wipe σ vs).set j (some x)) H (f i))
    (he : ∀ (i : Nat) (x : V) (H : Hp), xs[i]? = some x → H = upd H1 D (.lst (given i f v)) → f i = true → Val te ((wipe σ vs).set j (some x)) H (v i)) (q : Qd (upd H1 D (.lst (given xs.length f v)))) :
    ∃ W : Nat → Nat → Hp → Prop, (∃ m, W 0 m (upd H1 D (.lst []))) ∧ ∀ i m H, W i m H →
      ((Itt K a).stop i H ∧ Qd H) ∨ ((Itt K a).go i H ∧ ∃ Nx : Hp → Prop, (∀ H', Nx H' → ∃ m', m' < m ∧ W (i + 1) m' H') ∧ ∀ x H', (Itt K a).yld i H x H' → gName j x (wipe σ vs) H' fun σ2 H2 => wipe σ2 vs = wipe σ vs ∧ tt σ2 H2 fun b H3 =>
        if b = true then te σ2 H3 fun y H4 => ∃ acc, H4 D = some (.lst acc) ∧ acc.length < sizeLine ∧ Nx (upd H4 D (.lst (acc ++ [y]))) else Nx H3) :=
  lc_tup (fun i H => H = upd H1 D (.lst (given i f v))) rfl (fun i H hi e => by rw [e]; exact ex_t (Ex.new hD) hx) (fun i x H hi e => ⟨hw _, lc_turn e (by have := (List.getElem?_eq_some_iff.mp hi).1; omega) (ht i x H hi e) (he i x H hi e)⟩) (fun H e => by rw [e]; exact q)
theorem lcLm (g : V → V) (hx : SqL K H1 a xs) (hD : H1 D = none) (hn : xs.length ≤ 100000) (hw : ∀ x, wipe ((wipe σ vs).set j (some x)) vs = wipe σ vs)
    (he : ∀ (i : Nat) (x : V) (H : Hp), xs[i]? = some x → H = upd H1 D (.lst ((xs.take i).map g)) → Val te ((wipe σ vs).set j (some x)) H (g x)) (q : Qd (upd H1 D (.lst (xs.map g)))) :
    ∃ W : Nat → Nat → Hp → Prop, (∃ m, W 0 m (upd H1 D (.lst []))) ∧ ∀ i m H, W i m H →
      ((Itl K a).stop i H ∧ Qd H) ∨ ((Itl K a).go i H ∧ ∃ Nx : Hp → Prop, (∀ H', Nx H' → ∃ m', m' < m ∧ W (i + 1) m' H') ∧ ∀ x H', (Itl K a).yld i H x H' → gName j x (wipe σ vs) H' fun σ2 H2 => wipe σ2 vs = wipe σ vs ∧ tYes σ2 H2 fun b H3 =>
        if b = true then te σ2 H3 fun y H4 => ∃ acc, H4 D = some (.lst acc) ∧ acc.length < sizeLine ∧ Nx (upd H4 D (.lst (acc ++ [y]))) else Nx H3) :=
  lc_list (fun i H => H = upd H1 D (.lst ((xs.take i).map g))) (by rw [List.take_zero]; rfl) (fun i H hi e => by rw [e]; exact ex_l (Ex.new hD) hx)
    (fun i x H hi e => ⟨hw _, by
      refine iteT (B := H = upd H1 D (.lst ((xs.take (i + 1)).map g))) ?_
      refine he i x H hi e _ ?_
      subst e
      refine ⟨_, upd_same, sz_lt ?_, ?_⟩
      · rw [List.length_map, List.length_take]; have := (List.getElem?_eq_some_iff.mp hi).1; omega
      · rw [upd_upd, List.take_add_one, hi, List.map_append]; rfl⟩) (fun H e => by rw [e, List.take_length]; exact q)
theorem lcTm (g : V → V) (hx : SqT K H1 a xs) (hD : H1 D = none) (hn : xs.length ≤ 100000) (hw : ∀ x, wipe ((wipe σ vs).set j (some x)) vs = wipe σ vs)
    (he : ∀ (i : Nat) (x : V) (H : Hp), xs[i]? = some x → H = upd H1 D (.lst ((xs.take i).map g)) → Val te ((wipe σ vs).set j (some x)) H (g x)) (q : Qd (upd H1 D (.lst (xs.map g)))) :
    ∃ W : Nat → Nat → Hp → Prop, (∃ m, W 0 m (upd H1 D (.lst []))) ∧ ∀ i m H, W i m H →
      ((Itt K a).stop i H ∧ Qd H) ∨ ((Itt K a).go i H ∧ ∃ Nx : Hp → Prop, (∀ H', Nx H' → ∃ m', m' < m ∧ W (i + 1) m' H') ∧ ∀ x H', (Itt K a).yld i H x H' → gName j x (wipe σ vs) H' fun σ2 H2 => wipe σ2 vs = wipe σ vs ∧ tYes σ2 H2 fun b H3 =>
        if b = true then te σ2 H3 fun y H4 => ∃ acc, H4 D = some (.lst acc) ∧ acc.length < sizeLine ∧ Nx (upd H4 D (.lst (acc ++ [y]))) else Nx H3) :=
  lc_tup (fun i H => H = upd H1 D (.lst ((xs.take i).map g))) (by rw [List.take_zero]; rfl) (fun i H hi e => by rw [e]; exact ex_t (Ex.new hD) hx)
    (fun i x H hi e => ⟨hw _, by
      refine iteT (B := H = upd H1 D (.lst ((xs.take (i + 1)).map g))) ?_
      refine he i x H hi e _ ?_
      subst e
      refine ⟨_, upd_same, sz_lt ?_, ?_⟩
      · rw [List.length_map, List.length_take]; have := (List.getElem?_eq_some_iff.mp hi).1; omega
      · rw [upd_upd, List.take_add_one, hi, List.map_append]; rfl⟩) (fun H e => by rw [e, List.take_length]; exact q)
end
end G
namespace G
open PySem PySem.Spec PyProof.Rows L2 Evl
/-! ## rules within a comprehension's block: the written part by its letter -/
section
variable {X : Cx} {K : PySem.W.Frag}
theorem kIxT (h : X.K = K) : IxR X (rIxT K) := by subst h; exact ix_tup
theorem kIxL (h : X.K = K) : IxR X (rIxL K) := by subst h; exact ix_list
theorem kIx (h : X.K = K) : IxR X (rIx K) := by subst h; exact ix_seq
theorem kIn (h : X.K = K) : OpR X (compareOp .In) (rIn K false) := by subst h; exact op_in_seq
theorem kNotIn (h : X.K = K) : OpR X (compareOp .NotIn) (rIn K true) := by subst h; exact op_notIn_seq
theorem kLen (h : X.K = K) : CallR X (.builtin "len") (rLenS K) := by subst h; exact call_len_seq
theorem gStr {x s : Str} {t : Tok} {pos : Pos} (hg : Gl X x) (h : X.mg x = some (.str s t)) (hd : (x == ("__debug__" : Str)) = false := by decide) : PE X (.Name x pos) (tC (.str s)) := pe_glob (v := .str s) hg h ⟨t, rfl⟩ hd
theorem gInt {x : Str} {i : Int} {t : Tok} {pos : Pos} (hg : Gl X x) (h : X.mg x = some (.int i t)) (hd : (x == ("__debug__" : Str)) = false := by decide) : PE X (.Name x pos) (tC (.int i)) := pe_glob (v := .int i) hg h ⟨t, rfl⟩ hd
theorem gRef {x : Str} {a : Addr} {pos : Pos} (hg : Gl X x) (h : X.mg x = some (.ref a)) (hd : (x == ("__debug__" : Str)) = false := by decide) : PE X (.Name x pos) (tC (.ref a)) := pe_glob (v := .ref a) hg h rfl hd
theorem kSlL (h : X.K = K) : SlR X (rSlL K) := by subst h; exact sl_list
theorem kCatA (h : X.K = K) : OpR X (binaryOp .Add) (rCatA K) := by subst h; exact op_catA
theorem kAny (h : X.K = K) (hc : X.calm = true) : CallR X (.builtin "any") (rAny K) := by subst h; exact cr_any hc
theorem kAll (h : X.K = K) (hc : X.calm = true) : CallR X (.builtin "all") (rAll K) := by subst h; exact cr_all hc
theorem kLtT (h : X.K = K) (hu : X.A.units < cLine) : OpR X (compareOp .Lt) (rLtT K) := by subst h; exact op_ltT hu
theorem kPiT {e tg : Expr} {te : TE} (h : X.K = K) (he : PE X e te) : PI X tg e (iTup K te) := by subst h; exact pi_tup he
theorem kPiL {e tg : Expr} {te : TE} (h : X.K = K) (he : PE X e te) : PI X tg e (iList K te) := by subst h; exact pi_list he
theorem kSlA (h : X.K = K) : SlR X (rSlA K) := by subst h; exact sl_tupA
end
end G
namespace G
open PySem PySem.Spec PyProof.Rows L2 Evl
theorem dpAll_map {α : Type} {K : PySem.W.Frag} {H : Hp} {f : α → V} {g : α → PyData} (h : ∀ x, Dp K H (f x) (g x)) : ∀ l : List α, DpAll K H (l.map f) (l.map g)
  | [] => .nil
  | x :: r => .cons (h x) (dpAll_map h r)
theorem dp_ints {K : PySem.W.Frag} {H : Hp} {a : Addr} {ns : List Int} (h : SqL K H a (ns.map V.int)) : Dp K H (.ref a) (.list (ns.map PyData.int)) := .lst h (dpAll_map (fun i => .int i) ns)
theorem dp_nil {K : PySem.W.Frag} {H : Hp} {a : Addr} (h : SqL K H a []) : Dp K H (.ref a) (.list []) := .lst h .nil
theorem eqv_nil (l : List PyData) : PyData.eqv (.list l) (.list []) = l.isEmpty := by cases l <;> rfl
theorem shaped_nil : SeqAt.shaped (.list []) = true := by decide +kernel
end G
/-! enumerate over a tuple -/
namespace PySem
section
variable {prog : Program} {w : World} {A : Around} {E : Value → Shared → Prop} {s : Shared}
theorem G_tupOf {h : Heap} {a : Addr} {xs : Array Value} (p : PyProof.Rows.IsTup h a xs) : h.IsTuple a xs := p
set_option maxHeartbeats 2000000 in
theorem G_enumNew {v : Value} {o : Obj} {Hh : Heap → Prop} (B : Begins v o Hh) :
    Meets (Builtin.«enumerate.__new__» ⟨[.type "enumerate", v], []⟩) (fun _ R s => Hh s.heap ∧
      R (.ok (.ret (.ref (s.heap.push o).objs.size))) { s with heap := (s.heap.push o).push { cls := .type "enumerate", data := .fields #[.none, .bool false, .ref s.heap.objs.size, rawInt 0, .none, .none] } }) :=
  .of_wp fun pr wo ar rr sh hh => by
    obtain ⟨hp, gg, dd, tk, os⟩ := sh; obtain ⟨h1, h2⟩ := hh
    have sub0 := sub_enumerate
    have qq : ∀ {A' : Around} {E : Value → Shared → Prop} {Q : Value → Shared → Prop}, Q (.ref hp.objs.size) ⟨hp.push o, gg, dd, tk, os⟩ → wpAny (model pr wo) A' (pyIter v) Q E ⟨hp, gg, dd, tk, os⟩ :=
      fun z => B.iter pr wo _ _ ⟨hp, gg, dd, tk, os⟩ _ h1 z
    wp_walk using qq
    refine wpAny_stack_any fun _ => wpAny_pure ?_
    split
    · rename_i cc _ _ _ _ _
      cases (cc == Value.type "enumerate") <;> (wp_walk using qq; exact ⟨_, rfl, h2⟩)
    · wp_walk using qq
      exact ⟨_, rfl, h2⟩
theorem G_enumCall {v : Value} {o : Obj} {Hh : Heap → Prop} {Q : Value → Shared → Prop} (B : Begins v o Hh) (h1 : Hh s.heap)
    (k : ∀ h', IsEnum h' (s.heap.objs.size + 1) s.heap.objs.size 0 .none → h'.get? s.heap.objs.size = some o → (∀ b u, s.heap.get? b = some u → h'.get? b = some u) → Q (.ref (s.heap.objs.size + 1)) { s with heap := h' }) :
    wpAny (model prog w) A (call (.type "enumerate") [v]) Q E s := by
  refine callType_new F.called_enumerate (by decide) (F.typeCall_enumerate_1 _) (F.newCall_enumerate_1 _) (fun y => F.args_object_init_2 y _) F.entry_enumerate_new (G_enumNew B) ⟨h1, ?_⟩
  have hz : (s.heap.push o).objs.size = s.heap.objs.size + 1 := Heap.size_push ..
  show _ ∧ _
  rw [hz]
  have he : IsEnum ((s.heap.push o).push { cls := .type "enumerate", data := .fields #[.none, .bool false, .ref s.heap.objs.size, rawInt 0, .none, .none] }) (s.heap.objs.size + 1) s.heap.objs.size 0 .none := by
    have hs := Heap.get?_push_size (s.heap.push o) (o := { cls := .type "enumerate", data := .fields #[.none, .bool false, .ref s.heap.objs.size, rawInt 0, .none, .none] }) rfl
    rw [hz] at hs; exact hs
  exact ⟨⟨_, he, rfl⟩, k _ he (Heap.get?_push_of_some _ (Heap.get?_push_size _ B.free)) fun b u x => Heap.get?_push_of_some _ (Heap.get?_push_of_some _ x)⟩
end
end PySem
namespace G
open PySem PySem.Spec PyProof.Rows L2 Evl
/-- the tuple at a at each turn, each item in a new pair -/
def IteT (K : PySem.W.Frag) (a : Addr) : It :=
  ⟨fun i H => ∃ (xs : List V) (x : V), SqT K H a xs ∧ xs[i]? = some x,
   fun i H v H' => ∃ T x, v = .ref T ∧ H T = none ∧ H' = upd H T (.tup [.int (i : Nat), x]) ∧ ∀ xs, SqT K H a xs → xs[i]? = some x,
   fun i H => ∃ xs : List V, SqT K H a xs ∧ xs.length = i⟩
theorem turn_enumT {P : Program} {w : World} {K : PySem.W.Frag} {elts : List Expr} {kk : Nat} {tpos : Pos} (a e it : Addr) :
    Turn P w K (.Tuple elts kk tpos) (IteT K a) [e, it] e (fun i h => (∃ old, IsEnum h e it ((i : Nat) : Int) old) ∧ h.IsTupleIter it a i ∧ e ≠ it ∧ a ≠ it ∧ a ≠ e) where
  mem := by simp
  obj := fun i h st b hb => by
    obtain ⟨⟨old, he⟩, ⟨o, ho, hc, hd⟩, _⟩ := st
    have hb' : b = e ∨ b = it := by simpa using hb
    rcases hb' with z | z
    · rw [z]; exact ⟨_, he, fun v q => nomatch q⟩
    · rw [z]; exact ⟨o, ho, fun v q => by rw [hd] at q; cases q⟩
  keep := fun i h h' st k => by
    obtain ⟨⟨old, he⟩, hi, hne⟩ := st
    exact ⟨⟨old, k e (by simp) _ he⟩, hi.at fun o q => k it (by simp) o q, hne⟩
  item := by
    intro X hP hw hK hc i pins s σ H E I hf st hg
    subst hP hw hK
    obtain ⟨⟨old, he⟩, hit, hne, hai, hae⟩ := st
    obtain ⟨xs, x, hq, hx⟩ := hg
    obtain ⟨its, rv, p, hz⟩ := I.tuple hq
    obtain ⟨u, hu, ru⟩ := rv.get hx
    have hel : e < s.heap.objs.size := Heap.lt_size he
    have hil : it < s.heap.objs.size := by obtain ⟨_, q, _⟩ := hit; exact Heap.lt_size q
    have hh : X.A.handled = none := I.ok.hd hc
    refine wpAny_pyNext_enum_itemD (Draws.tuple (A := X.A.in1) hh it a hai its.toArray) he ⟨hit, p⟩ ?_ hne ?_ fun y h' tk hy ho hst hT hsz hk => ?_
    · have := (List.getElem?_eq_some_iff.mp hu).1
      simpa using this
    · intro hm
      have hm' : e = it ∨ e = a := by simpa using hm
      rcases hm' with z | z
      · exact hne z
      · exact hae z.symm
    · have ey : y = u := by
        have hy' : its[i]? = some y := by simpa using hy
        exact Option.some.inj (hy'.symm.trans hu)
      subst ey
      refine ⟨_, rfl, wpAny_letOwnedTupleGo_enum (s := { s with heap := h', toks := tk + 1 }) ho fun h'' he' sb => ?_⟩
      have hT2 : h''.get? s.heap.objs.size = some { cls := .type "tuple", data := .seq #[.int i tk, y] } := (sb.2 _ (Nat.ne_of_gt hel)).trans hT
      have new : ObjOk X.prog X.w (upd H s.heap.objs.size (.tup [.int (i : Nat), x])) h'' s.heap.objs.size (.tup [.int (i : Nat), x]) :=
        ⟨by show 2 ≤ sizeLine; decide, [.int i tk, y], .cons ⟨_, rfl⟩ (.cons ru .nil), ⟨_, hT2, rfl, _, rfl⟩⟩
      have I1 : Inv X pins σ (upd H s.heap.objs.size (.tup [.int (i : Nat), x])) { s with heap := h'', toks := tk + 1 } :=
        I.turnedNew (ch := [e, it]) (fun b ob hb q => (sb.2 b (fun z => hb (by simp [z]))).trans (hk b ob (fun z => hb (by simp [z])) (fun z => hb (by simp [z])) q)) hf (Nat.le_refl _) new
      refine ⟨.ref s.heap.objs.size, _, I1, rfl, ⟨_, x, rfl, I.hok.fresh (Nat.le_refl _), rfl, fun ys hy => by rw [I.tuple_inj hy hq]; exact hx⟩, ⟨⟨y, ?_⟩, hst.1.at fun o q => (sb.2 it (Ne.symm hne)).trans q, hne, hai, hae⟩, fun b hb => ?_⟩
      · have e1 : ((i + 1 : Nat) : Int) = (i : Int) + 1 := by omega
        rw [e1]; exact he'
      · have hb' : b < s.heap.objs.size := by
          have hb2 : b = e ∨ b = it := by simpa using hb
          rcases hb2 with z | z
          · rw [z]; exact hel
          · rw [z]; exact hil
        rw [upd_ne (Nat.ne_of_lt hb')]
        exact (hf b hb).1
  done := by
    intro X hP hw hK hc i pins s σ H E I hf st hg
    subst hP hw hK
    obtain ⟨⟨old, he⟩, hit, hne, hai, hae⟩ := st
    obtain ⟨xs, hq, hx⟩ := hg
    obtain ⟨its, rv, p, hz⟩ := I.tuple hq
    obtain ⟨f0, f1, f2, f3, f4, f5⟩ := hf it (by simp)
    have hl := rv.length
    have hh : X.A.handled = none := I.ok.hd hc
    have ei : its.toArray.size = i := by rw [List.size_toArray, ← hl]; exact hx
    have st2 : s.heap.IsTupleIter it a its.toArray.size ∧ s.heap.IsTuple a its.toArray := by rw [ei]; exact ⟨hit, p⟩
    exact wpAny_pyNext_enum_endD (Draws.tuple (A := X.A.in1) hh it a hai its.toArray) he st2 fun h' eb => ⟨rfl, I.turned (t' := s.toks) (fun b o hb q => eb b o hb q) f0 f1 f3 f4 f5⟩
  self := fun A i s Q E st h => by
    obtain ⟨⟨_, he⟩, _⟩ := st
    exact wpAny_pyIter_enum he h
def iEnumT (K : PySem.W.Frag) (ta : TA) : TI := fun σ H R => ta σ H fun vs H1 => ∃ a xs, vs = [.ref a] ∧ SqT K H1 a xs ∧ R (IteT K a) H1
theorem pi_enumT {X : Cx} {e : Expr} {ta : TA} {p pos tpos : Pos} {elts : List Expr} {kk : Nat} (hg : Gl X "enumerate") (hm : X.mg "enumerate" = none) (ha : PA X [e] ta) (hs : starEach [e] X.env = [(false, eval e X.env)] := by rfl) :
    PI X (.Tuple elts kk tpos) (.Call (.Name "enumerate" p) [e] [] pos) (iEnumT X.K ta) := by
  refine ⟨fun pins s σ H R I h => Call_ (ld_blt I hg hm boot_enumerate (PyProof.Rows.callWith_type1 (thn (ha.run pos pins s σ H _ I h) fun us s1 ⟨vs, H1, I1, r1, q1⟩ => ?_) hs rfl))⟩
  obtain ⟨a, xs, rfl, hq, q⟩ := q1
  cases r1 with
  | cons r rr =>
    cases rr
    cases r
    obtain ⟨its, rv, p', hz⟩ := I1.tuple hq
    have hal : a < s1.heap.objs.size := by obtain ⟨o, ho, _⟩ := p'; exact Heap.lt_size ho
    refine G_enumCall (begins_tuple a its.toArray) p' fun h' he hit hk => wpAny_pyIter_enum he ?_
    have I2 : Inv X pins σ H1 { s1 with heap := h' } := I1.kept (t' := s1.toks) hk
    refine ⟨s1.heap.objs.size + 1, [s1.heap.objs.size + 1, s1.heap.objs.size], _, _, H1, rfl, I2, turn_enumT a (s1.heap.objs.size + 1) s1.heap.objs.size,
      ⟨⟨.none, he⟩, ⟨_, hit, rfl, rfl⟩, Nat.succ_ne_self _, Nat.ne_of_lt hal, Nat.ne_of_lt (Nat.lt_succ_of_lt hal)⟩, fun b hb => ?_, q⟩
    have hb' : b = s1.heap.objs.size + 1 ∨ b = s1.heap.objs.size := by simpa using hb
    have hle : s1.heap.objs.size ≤ b := by
      rcases hb' with z | z
      · rw [z]; exact Nat.le_add_right _ _
      · rw [z]; exact Nat.le_refl _
    exact I1.fpOk hle (I1.hok.fresh hle)
theorem walk_enumT {K : PySem.W.Frag} {a : Addr} {xs : List V} : Walk (IteT K a) xs.length (fun H => SqT K H a xs) (YPair (fun i => some (.int (i : Nat))) (fun i => xs[i]?)) := by
  refine ⟨fun i _ hi q => ⟨xs, xs[i], q, by simp [hi]⟩, fun _ q => ⟨xs, q, rfl⟩, fun i H v H' _ q y => ?_⟩
  obtain ⟨T, x, h1, h2, h3, h4⟩ := y
  exact ⟨T, .int (i : Nat), x, h1, h2, h3, rfl, h4 xs q⟩
theorem kPiEnumT {X : Cx} {K : PySem.W.Frag} {e : Expr} {ta : TA} {p pos tpos : Pos} {elts : List Expr} {kk : Nat} (h : X.K = K) (hg : Gl X "enumerate") (hm : X.mg "enumerate" = none) (ha : PA X [e] ta) (hs : starEach [e] X.env = [(false, eval e X.env)] := by rfl) :
    PI X (.Tuple elts kk tpos) (.Call (.Name "enumerate" p) [e] [] pos) (iEnumT K ta) := by subst h; exact pi_enumT hg hm ha hs
end G
/-! t[a::2], t a tuple -/
namespace HT
open PySem PySem.Spec PyProof.Rows L2
section
variable {prog : Program} {w : World} {A : Around} {E : Value → Shared → Prop} {s : Shared}
theorem g_applied {sl : Addr} {vl vu vs : Value} {lo hi : Option Int} {st : Int} {n : Nat} {Q : Int × Int × Nat → Shared → Prop} (hs : s.heap.IsSliceOf sl vl vu vs) (pl : IsPart vl lo) (pu : IsPart vu hi) (ps : IsPart vs (some st)) (h0 : st ≠ 0)
    (h : Q ((Builtin.Slice.sliceAdjust lo hi st (n : Int)).1, st, Builtin.Slice.slicePlaces (Builtin.Slice.sliceAdjust lo hi st (n : Int)).1 (Builtin.Slice.sliceAdjust lo hi st (n : Int)).2 st) s) :
    wpAny (model prog w) A (Builtin.Slice.sliceApplied (.ref sl) (pure (n : Int))) Q E s := by
  obtain ⟨ob, hob, _, hd⟩ := id hs
  unfold Builtin.Slice.sliceApplied Builtin.Slice.sliceFields
  refine wpAny_bind (wpAny_bind (wpAny_field hob hd (x := vl) rfl (wpAny_bind (wpAny_field hob hd (x := vu) rfl (wpAny_bind (wpAny_field hob hd (x := vs) rfl (wpAny_pure ?_)))))))
  refine wpAny_bind (slicePart_ ps ?_)
  show wpAny _ _ (if (st == 0) = true then _ else _) _ _ s
  rw [if_neg (by intro q; exact h0 (eq_of_beq q))]
  exact wpAny_bind (slicePart_ pl (wpAny_bind (slicePart_ pu (wpAny_bind (wpAny_pure (wpAny_pure h))))))
def stepped (xs : List Value) (lo st : Int) (n : Nat) : List Value := (List.range n).filterMap fun (k : Nat) => xs.toArray[(lo + (k : Int) * st).toNat]?
theorem g_getStep {t sl : Addr} {its : List Value} {vl vu vs : Value} {lo hi : Option Int} {st : Int} {Q : Value → Shared → Prop} (ht : IsTup s.heap t its.toArray) (hs : s.heap.IsSliceOf sl vl vu vs) (pl : IsPart vl lo) (pu : IsPart vu hi) (ps : IsPart vs (some st)) (h0 : st ≠ 0) (h1 : st ≠ 1)
    (hz : (stepped its (Builtin.Slice.sliceAdjust lo hi st (its.toArray.size : Int)).1 st (Builtin.Slice.slicePlaces (Builtin.Slice.sliceAdjust lo hi st (its.toArray.size : Int)).1 (Builtin.Slice.sliceAdjust lo hi st (its.toArray.size : Int)).2 st)).length ≤ sizeLine)
    (h : Q (.ref s.heap.objs.size) { s with heap := s.heap.push { cls := .type "tuple", data := .seq (stepped its (Builtin.Slice.sliceAdjust lo hi st (its.toArray.size : Int)).1 st (Builtin.Slice.slicePlaces (Builtin.Slice.sliceAdjust lo hi st (its.toArray.size : Int)).1 (Builtin.Slice.sliceAdjust lo hi st (its.toArray.size : Int)).2 st)).toArray } }) :
    wpAny (model prog w) A (getItem (.ref t) (.ref sl)) Q E s := by
  have ok : sizeOk (.seq (stepped its (Builtin.Slice.sliceAdjust lo hi st (its.toArray.size : Int)).1 st (Builtin.Slice.slicePlaces (Builtin.Slice.sliceAdjust lo hi st (its.toArray.size : Int)).1 (Builtin.Slice.sliceAdjust lo hi st (its.toArray.size : Int)).2 st)).toArray) := by
    show (stepped its _ st _).toArray.size ≤ sizeLine
    rw [List.size_toArray]; exact hz
  obtain ⟨ob, hob, hc, hd⟩ := id hs
  have hTs : s.TypeIs (.ref sl) "slice" := ⟨ob, hob, hc⟩
  unfold getItem
  try with_reducible refine wpAny_holding ?_
  first | refine wpAny_bind (wpAny_pure ?_) | skip
  refine wpAny_bind (wpAny_sequenceKey ht.typeIs (by decide) ?_)
  refine wpAny_bind (wpAny_callSpecial?_slot (name := Str.ofString "__getitem__") ht.typeIs slot_tuple_getitem (wpAny_call_entry slot_tuple_getitem ht.typeIs entry_tuple_getitem ?_ (args_tuple_getitem _ _)))
  show wpAny _ _ (Builtin.Tuple.tupleItemsOf (.ref t) >>= _) _ _ s
  refine wpAny_bind (tupleItemsOf_ ht (wpAny_bind (wpAny_typeOf hTs ?_)))
  rw [if_pos (by decide)]
  refine wpAny_bind (g_applied hs pl pu ps h0 ?_)
  generalize (Builtin.Slice.sliceAdjust lo hi st (its.toArray.size : Int)).1 = l0 at *
  generalize Builtin.Slice.slicePlaces l0 (Builtin.Slice.sliceAdjust lo hi st (its.toArray.size : Int)).2 st = n0 at *
  have hno : ¬ ((l0 == 0 && st == 1 && n0 == its.toArray.size) = true) := by
    intro q
    rw [Bool.and_eq_true, Bool.and_eq_true] at q
    exact h1 (eq_of_beq q.1.2)
  show wpAny _ _ (if (l0 == 0 && st == 1 && n0 == its.toArray.size) = true then _ else _) _ _ s
  rw [if_neg hno]
  first
    | exact wpAny_bind (m := Builtin.Tuple.tupleExact _) (wpAny_newObj_type (wpAny_pure ⟨_, rfl, wpAny_pure h⟩) ok)
    | exact wpAny_bind (m := Builtin.Tuple.tupleExact _) (wpAny_newObj_type (wpAny_bind (wpAny_pure (wpAny_pure ⟨_, rfl, wpAny_pure h⟩))) ok)
    | exact wpAny_bind (wpAny_bind (m := Builtin.Tuple.tupleExact _) (wpAny_newObj_type (wpAny_pure (wpAny_pure ⟨_, rfl, wpAny_pure h⟩)) ok))
    | exact wpAny_bind (wpAny_bind (m := Builtin.Tuple.tupleExact _) (wpAny_newObj_type (wpAny_pure ⟨_, rfl, wpAny_pure h⟩) ok))
end
end HT
namespace G
open PySem PySem.Spec PyProof.Rows L2 Evl
/-- every second item from a on -/
def halfL {α : Type} (a : Nat) (xs : List α) : List α := (List.range ((xs.length - a + 1) / 2)).filterMap fun k => xs[a + 2 * k]?
theorem halfL_len {α : Type} (a : Nat) (xs : List α) : (halfL a xs).length ≤ xs.length + 1 := by
  unfold halfL
  refine Nat.le_trans (List.length_filterMap_le _ _) ?_
  rw [List.length_range]; omega
theorem vals_filterMap {f : Nat → Option V} {g : Nat → Option Value} : ∀ {l : List Nat}, (∀ k, k ∈ l → RelO (f k) (g k)) → Vals (l.filterMap f) (l.filterMap g)
  | [], _ => .nil
  | k :: r, h => by
    have hk := h k (List.mem_cons_self ..)
    have ih := vals_filterMap (l := r) fun j hj => h j (List.mem_cons_of_mem _ hj)
    rw [List.filterMap_cons, List.filterMap_cons]
    cases e : f k with
    | none =>
      cases e2 : g k with
      | none => exact ih
      | some u => rw [e, e2] at hk; exact hk.elim
    | some v =>
      cases e2 : g k with
      | none => rw [e, e2] at hk; exact hk.elim
      | some u => rw [e, e2] at hk; exact .cons hk ih
def tHalf (K : PySem.W.Frag) (a : Nat) (te : TE) : TE := fun σ H Q => te σ H fun x H1 => ∃ t xs, x = .ref t ∧ SqT K H1 t xs ∧ xs.length ≤ 100000 ∧ ∀ p, H1 p = none → Q (.ref p) (upd H1 p (.tup (halfL a xs)))
theorem half_places {a n : Nat} (h : a ≤ 1) : (Builtin.Slice.sliceAdjust (some (a : Int)) none 2 (n : Int)).1 = ((min a n : Nat) : Int) ∧
    Builtin.Slice.slicePlaces (Builtin.Slice.sliceAdjust (some (a : Int)) none 2 (n : Int)).1 (Builtin.Slice.sliceAdjust (some (a : Int)) none 2 (n : Int)).2 2 = (n - a + 1) / 2 := by
  have h2 : ¬ ((2 : Int) < 0) := by omega
  have h3 : (2 : Int) > 0 := by omega
  have ha : ¬ ((a : Int) < 0) := by omega
  have e : Builtin.Slice.sliceAdjust (some (a : Int)) none 2 (n : Int) = (((min a n : Nat) : Int), (n : Int)) := by
    unfold Builtin.Slice.sliceAdjust
    simp only [h2, if_false, ha]
    refine Prod.ext ?_ rfl
    show min (a : Int) (n : Int) = ((min a n : Nat) : Int)
    omega
  rw [e]
  refine ⟨rfl, ?_⟩
  show Builtin.Slice.slicePlaces ((min a n : Nat) : Int) (n : Int) 2 = (n - a + 1) / 2
  unfold Builtin.Slice.slicePlaces
  simp only [h3, if_true]
  split <;> omega
section
variable {X : Cx}
theorem pe_half {e : Expr} {te : TE} {a : Nat} {k1 k2 : Nat} {p1 p2 p3 pos : Pos} (ha : a ≤ 1) (he : PE X e te) : PE X (.Subscript e (.Slice (some (.Constant (.int (a : Int)) k1 p1)) none (some (.Constant (.int 2) k2 p2)) p3) pos) (tHalf X.K a te) := by
  refine ⟨fun pins s σ H Q I h => Subscript_ (thn (he.run pins s σ H _ I h) fun v s1 ⟨x, H1, I1, r1, q1⟩ => ?_)⟩
  obtain ⟨t, xs, rfl, hx, hlen, q⟩ := q1
  cases r1
  have hlo : PO X (some (.Constant (.int (a : Int)) k1 p1)) (tPart (tC (.int (a : Int)))) := po_some pe_int
  have hst : PO X (some (.Constant (.int 2) k2 p2)) (tPart (tC (.int 2))) := po_some pe_int
  refine wpAny_Slice (thn (hlo.run pins s1 σ H1 (fun o H2 => o = some (a : Int) ∧ H2 = H1) I1 ⟨_, rfl, rfl, rfl⟩) fun vl s2 ⟨l, H2, I2, pl, el, e2⟩ => ?_)
  subst el e2
  refine thn (po_none.run pins s2 σ H2 (fun o H3 => o = none ∧ H3 = H2) I2 ⟨rfl, rfl⟩) fun vu s3 ⟨u, H3, I3, pu, eu, e3⟩ => ?_
  subst eu e3
  refine thn (hst.run pins s3 σ H3 (fun o H4 => o = some 2 ∧ H4 = H3) I3 ⟨_, rfl, rfl, rfl⟩) fun vs s4 ⟨o, H4, I4, ps, eo, e4⟩ => ?_
  subst eo e4
  have I5 : Inv X pins σ H4 { s4 with heap := s4.heap.push { cls := .type "slice", data := .fields #[vl, vu, vs] } } := I4.kept (t' := s4.toks) fun b ob q => Heap.get?_push_of_some _ q
  obtain ⟨its, r, ht, hz⟩ := I5.tuple hx
  have hl : its.toArray.size = xs.length := by rw [List.size_toArray]; exact r.length.symm
  obtain ⟨hp1, hp2⟩ := half_places (n := xs.length) ha
  have hrel : Vals (halfL a xs) (HT.stepped its ((min a xs.length : Nat) : Int) 2 ((xs.length - a + 1) / 2)) := by
    unfold halfL HT.stepped
    refine vals_filterMap fun k hk => ?_
    have hk' := List.mem_range.mp hk
    have hi : a + 2 * k < xs.length := by omega
    have en : (((min a xs.length : Nat) : Int) + (k : Int) * 2).toNat = a + 2 * k := by omega
    rw [en, List.getElem?_eq_getElem hi]
    obtain ⟨u, hu, ru⟩ := r.get (List.getElem?_eq_getElem hi)
    rw [List.getElem?_toArray, hu]
    exact ru
  have hsz : (halfL a xs).length ≤ sizeLine := sz_of (by
    unfold halfL
    refine Nat.le_trans (List.length_filterMap_le _ _) ?_
    rw [List.length_range]
    omega)
  show wpAny (model X.prog X.w) X.A (subscriptTail e (.Slice (some (.Constant (.int (a : Int)) k1 p1)) none (some (.Constant (.int 2) k2 p2)) p3) (.ref t) (.ref s4.heap.objs.size)) (EP X pins σ Q) X.xe { s4 with heap := s4.heap.push { cls := .type "slice", data := .fields #[vl, vu, vs] } }
  refine tail_any (ops := [.ref t, .ref s4.heap.objs.size]) ht.typeIs PyProof.Rows.slot_tuple_getitem.lookup ?_ (by with_unfolding_all rfl)
  refine HT.g_getStep ht (Heap.IsSliceOf.new _ vl vu vs) pl pu ps (by decide) (by decide) ?_ ?_
  · rw [hl, hp2, hp1, ← hrel.length]; exact hsz
  · rw [hl, hp2, hp1]
    refine ⟨.ref _, _, I5.laid (t' := s4.toks) (o := .tup (halfL a xs)) (fun b ob q => Heap.get?_push_of_some _ q) (Nat.le_refl _) ?_, rfl, q _ (I5.hok.fresh (Nat.le_refl _))⟩
    exact ⟨hsz, _, hrel, ⟨_, Heap.get?_push_size _ rfl, rfl, _, rfl⟩⟩
end
end G
namespace G
open PySem PySem.Spec PyProof.Rows L2
/-! ## a def with one default, a whole number -/
theorem dfl_mk {K : PySem.W.Frag} {x qual : Str} {st : Stmt} {f T : Addr} {v : Int} {tk : Tok} {tn : Nat} {tc oc kV doc pm cdv ct : Value} {td od an : Option Addr} {osl tsl : Array (Option Value)}
    (lk : K.lookup f = some ⟨oc, od, .func (PySem.W.fnOf x qual (defArgs st) (defBody st) (defScope st) (.ref T) kV doc pm an cdv ct), osl⟩) (hcd : PySem.W.codeIn K cdv qual = true) (kp : PySem.W.keepIn K (.ref f) = true)
    (lT : K.lookup T = some ⟨tc, td, .seq #[.int v tk] tn, tsl⟩) : FunD K x qual (defArgs st) (defBody st) (defScope st) [.int v] [] f (PySem.W.fnOf x qual (defArgs st) (defBody st) (defScope st) (.ref T) kV doc pm an cdv ct) :=
  ⟨⟨oc, od, .ref T, kV, doc, pm, an, cdv, ct, osl, rfl, lk, hcd, .inr ⟨(by intro z; cases z), T, _, [.int v tk], tn, rfl, lT, rfl, .cons ⟨_, rfl⟩ .nil⟩, .inl rfl⟩, kp⟩
theorem vals_nil {ds : List Value} (h : Vals [] ds) : ds = [] := by cases h; rfl
theorem binds_full {K : PySem.W.Frag} {fd : FuncData} {ps : List Str} (h : ∃ ds, Vals [] ds ∧ Binds K fd ps ds) : Binds K fd ps [] := by
  obtain ⟨ds, h1, h2⟩ := h
  rw [vals_nil h1] at h2
  exact h2
end G
namespace G
open PySem PySem.Spec PyProof.Rows L2
section
variable {X : Cx}
/-- a short text, so many times -/
theorem op_mulS : OpR X (binaryOp .Mult) (fun x y H Q => ∃ (a : Str) (n : Nat), x = .str a ∧ y = .int n ∧ a.length ≤ 16 ∧ n ≤ 1000000 ∧ Q (.str (Txt.mul a n)) H) := by
  intro pins s σ H x y v u Q I rx ry h
  obtain ⟨a, n, rfl, rfl, h1, h2, q⟩ := h
  obtain ⟨t, rfl⟩ := rx
  obtain ⟨t', rfl⟩ := ry
  exact SB.mul (mulOk_of 16 1048576 (by omega) (by omega) (by omega) (by decide) (by decide)) fun t' k => ⟨.str (Txt.mul a n), H, I.tok _, ⟨_, rfl⟩, q⟩
end
end G
namespace SUP
open PySem PySem.Spec PyProof.Rows L2 PySem.W
/-! ## an own error whose `__init__` begins with super().__init__(e, ..), over own classes over ValueError -/
/-- what the written part says of the class at C and of its `__init__` -/
structure SupT (K : PySem.W.Frag) (mg : Str → Option Value) (C f : Addr) (fd : FuncData) (qual : Str) (params : Arguments) (body : List Stmt) (scope : Scope) (file : Str) : Prop where
  oex : OexC K C
  ini : PySem.W.findIn K (.ref C) "__init__" = some (some (.ref f))
  tI : PySem.W.typeIn K (.ref f) = some (.type "function")
  msup : mg "super" = none
  any : PySem.W.nsIn K cStatics "thirdparty.any" = some none
  vE : PySem.W.subIn K (.ref C) (.type "ValueError") = some true
  sub : PySem.W.mroIn K C (.ref C) = some true
  sup : PySem.W.ks_superIn K C C "__init__" = some (some (.builtin "ValueError.__init__"))
  ex : ∃ (oc : Value) (od : Option Addr) (dV kV doc pm : Value) (an : Option Addr) (cda cc : Addr) (ct : Value) (osl : Array (Option Value)),
    fd = PySem.W.fnX "__init__" qual params body scope [("__class__", cc)] dV kV doc pm an (.ref cda) ct ∧ K.lookup f = some ⟨oc, od, .func fd, osl⟩ ∧ PySem.W.codeIn K (.ref cda) qual = true ∧
    (∃ (oc2 : Value) (od2 : Option Addr) (vs : Array Value) (sl2 : Array (Option Value)) (tf : Tok), K.lookup cda = some ⟨oc2, od2, .fields vs, sl2⟩ ∧ vs[2]? = some (.str file tf)) ∧
    ∃ (oc3 : Value) (od3 : Option Addr) (sl3 : Array (Option Value)), K.lookup cc = some ⟨oc3, od3, .cell (some (.ref C)), sl3⟩

section
variable {X : Cx} {pins : List (Addr × Obj)} {σ : L2.St} {H : Hp} {a C : Addr}
theorem inst_of {s : Shared} (I : Inv X pins σ H s) (ea : H a = some (exo a C none)) : ∃ t1 : Addr, PySem.W.InstAt s.heap a { cls := .ref C, dict := none, data := .fields #[.ref t1, .none, .none, .none, .bool false, .none] } C none := by
  obtain ⟨t1, ho⟩ := exo_at I.hok ea
  exact ⟨t1, ho, rfl, rfl, trivial⟩
/-- the bound `__init__` of ValueError, called -/
theorem call_mw {u : Addr} {A : Around} {E : Value → Shared → Prop} {us : List Value} {Q : Value → Shared → Prop} {s : Shared} (T : OexC X.K C) (I : Inv X pins σ H s) (hu : s.heap.get? u = some (PySem.W.kxs_mw "ValueError.__init__" a)) (ea : H a = some (exo a C none))
    (hl : us.length ≤ sizeLine) (h : ∀ s', Inv X pins σ H s' → Q .none s') : wpAny (model X.prog X.w) A (call (.ref u) us) Q E s := by
  obtain ⟨nm, q, N, bs, bm, sn, sub, ab, col, dd, k0, k1, k2, k3, k5, hC, hbm⟩ := T.cls
  obtain ⟨t1, ho⟩ := exo_at I.hok ea
  obtain ⟨hp, g, d, t, os⟩ := s
  refine wpAny_call (codeAny_of_tree ?_)
  show wpAny _ A.in1 (callAny (.ref u) ⟨us, []⟩) _ _ _
  simp only [callAny]
  refine wpAny_bind (wpAny_load hu ?_)
  simp only [PySem.W.kxs_mw, show (Value.type "method-wrapper" == Value.type "method" || Value.type "method-wrapper" == Value.type "builtin_function_or_method" || Value.type "method-wrapper" == Value.type "method-wrapper") = true by decide, if_true]
  refine PySem.W.KFB.if_so (by decide) ?_
  refine wpAny_bind (PySem.W.check_bound_init F.excBase_ValueError.toExcCallFacts (I.kIn _ _ hC) ho rfl ?_)
  refine wpAny_bind (wpAny_pure (wpAny_pure ?_))
  refine ⟨plainId_quiet F.excBase_ValueError.init.plain _, codeAny_builtin F.excBase_ValueError.initEntry ?_⟩
  refine PySem.W.exc_init_tree (cls := .ref C) (t0 := t1) (dv := none) (c2 := .none) (c3 := .none) (b4 := .bool false) ho hl fun h' k hx _ => ?_
  have J := I.write (t' := t) (x := a) (e := a) (o := exo a C none) (by rw [ea]; exact True.intro) (.inl rfl) k ⟨_, hx⟩ (exo_ok hx)
  have eu : upd H a (exo a C none) = H := by
    funext b
    by_cases hb : b = a
    · rw [hb, upd_same, ea]
    · rw [upd_ne hb]
  rw [eu] at J
  exact h _ J
end

section
variable {CX : CXT} {P : Program} {w : World} {K : PySem.W.Frag} {mg : Str → Option Value} {base : Heap} {N ps : List Str} {k : Nat} {C f : Addr} {fd : FuncData} {qual : Str} {params : Arguments} {body rest : List Stmt} {scope : Scope} {file : Str} {e : Expr} {es : List Expr} {p0 p1 p2 p3 p4 : Pos} {ar : Arg} {sp : Sp}
/-- the nested form of it -/
abbrev nf (qual : Str) (params : Arguments) (body : List Stmt) (scope : Scope) (cc cda : Addr) : NdefX.NF := ⟨"__init__", qual, params, body, scope, [("__class__", cc)], cda⟩
/-- THE RULE: such an `__init__` by what follows -/
theorem fn_sup (T : SupT K mg C f fd qual params body scope file) (hfile : ((P.main.file : Str) == file) = true) (htop : (P.main.scope.names.lookup ("super" : Str)).isSome = false)
    (hb : body = .Expr (.Call (.Attribute (.Call (.Name "super" p0) [] [] p1) "__init__" p2) (e :: es) [] p3) p4 :: rest)
    (S : NdefX.NScope N ps ["__class__"] scope) (hp : (params.posonlyargs ++ params.args).head? = some ar) (h0 : N[0]? = some ar.arg) (hks : scope.names.lookup ("super" : Str) = some .globalImplicit) (hka : scope.names.lookup ar.arg = some .local)
    (len : ∀ vs H Q E, sp vs H Q E → vs.length = ps.length)
    (hbody : ∀ (cda cc : Addr) (A : Around) (outer : List Env) (s : Shared) (H : Hp) (vs : List V) (Q : VK) (E : XK), Room k (A.deeper (NdefX.envF (nf qual params body scope cc cda) f s.heap.objs.size)) → sp vs H Q E →
      ∃ ta t, PA (NdefX.ncx CX P w K mg base N (nf qual params body scope cc cda) f A outer s H E) (e :: es) ta ∧ PSs (NdefX.ncx CX P w K mg base N (nf qual params body scope cc cda) f A outer s H E) rest t ∧
        ∃ a, vs[0]? = some (.ref a) ∧ H a = some (exo a C none) ∧ ta (NdefX.startF N vs [none]) H fun ws H1 => ws.length ≤ 1000 ∧ H1 a = some (exo a C none) ∧ t { nx := fun _ H' => Q .non H', rt := Q } (NdefX.startF N vs [none]) H1)
    (pl : Env → Sem Bool) (hev : ∀ env, eval (.Call (.Attribute (.Call (.Name "super" p0) [] [] p1) "__init__" p2) (e :: es) [] p3) env = (do
        let ov ← attributeBase (.Call (.Name "super" p0) [] [] p1) "__init__" env (eval (.Call (.Name "super" p0) [] [] p1) env)
        standAt p2.atName
        let (f, first) ← holding [ov] (getMethod ov "__init__" (pl env))
        callWith p3 f first (backTo p3 (starEach (e :: es) env)) []) := by intro _; rfl)
    (hst : ∀ env, starEach (e :: es) env = (false, eval e env) :: starEach es env := by intro _; rfl) (hpl : ∀ env, (backTo p3 (starEach es env)).any (·.1) = false := by intro _; rfl)
    (hsw : ∀ env, swapsWith (.Call (.Attribute (.Call (.Name "super" p0) [] [] p1) "__init__" p2) (e :: es) [] p3) none p4.line env = pure false := by intro _; rfl)
    (hps : ps.length ≥ 1) : FnOk P w K mg base CX (k + 1) f fd ps sp := by
  refine ⟨len, fun A outer s H args us vs Q E hr e0 hbi r hsp => ?_⟩
  obtain ⟨oc, od, dV, kV, doc, pm, an, cda, cc, ct, osl, hfd, lk, hcd, ⟨oc2, od2, fvs, sl2, tf, lk2, hvs⟩, oc3, od3, sl3, lk3⟩ := T.ex
  have hl := len _ _ _ _ hsp
  have hul : us.length = ps.length := by rw [← r.length, hl]
  have KX : K.In s.heap := e0.mod.kin.keeps fun b o e => (e0.bs b o e).1
  have lim : s.heap.NoLimit := e0.mod.nolimit.keeps fun b o e => (e0.bs b o e).1
  obtain ⟨ta, t, hpa, hpss, a, hva, haH, hq⟩ := hbody cda cc A outer s H vs Q E (hr.deeper _) hsp
  subst hfd
  have hloc : ∀ y ∈ ps.zip us, scope.names.lookup y.1 = some .local := fun ⟨n, v⟩ hy => S.par n (List.of_mem_zip hy).1
  refine ks_codeAny_call_defAt (fd := PySem.W.fnX "__init__" qual params body scope [("__class__", cc)] dV kV doc pm an (.ref cda) ct) hr.depth (KX _ _ lk) rfl lim (PySem.W.codeRec_of KX hcd) rfl hbi S.nocell hloc (fun h1 hns hk => ?_) S.co S.gen S.kind
  have kb : ∀ b o, base.get? b = some o → s.heap.get? b = some o ∧ H b = none := e0.bs
  have cat : NdefX.CellsAt [("__class__", cc)] ["__class__"] [none] s.heap H := {
    len := rfl
    all := fun y c hy => by
      have := PySem.mem_of_lookup hy
      simp only [List.mem_singleton, Prod.mk.injEq] at this
      obtain ⟨rfl, rfl⟩ := this
      exact ⟨(kb _ _ (e0.mod.kin _ _ lk3)).2, some (.ref C), _, KX _ _ lk3, rfl⟩
    inj := fun x y c h1 h2 => by
      have := PySem.mem_of_lookup h1
      have t2 := PySem.mem_of_lookup h2
      simp only [List.mem_singleton, Prod.mk.injEq] at this t2
      exact this.1.trans t2.1.symm
    has := fun i y hy => by
      cases i with
      | zero =>
        have : "__class__" = y := Option.some.inj hy
        subst this
        exact ⟨cc, by simp [List.lookup], fun v hv => by cases hv⟩
      | succ i => simp at hy }
  have I : Inv (NdefX.ncx CX P w K mg base N (nf qual params body scope cc cda) f A outer s H E) [] (NdefX.startF N vs [none]) H { s with heap := h1, toks := s.toks + (ps.zip us).length } :=
    NdefX.inv_startN S hr.hd e0 hl r cat hns hk
  show _root_.PySem.wpAt (model P w) _ (.func body (NdefX.envF (nf qual params body scope cc cda) f s.heap.objs.size)) (execs body (NdefX.envF (nf qual params body scope cc cda) f s.heap.objs.size)) _ _ _
  have hz : interactive (NdefX.envF (nf qual params body scope cc cda) f s.heap.objs.size) = false := by
    simp [interactive, S.kind]
  rw [show execs body (NdefX.envF (nf qual params body scope cc cda) f s.heap.objs.size) = execs (.Expr (.Call (.Attribute (.Call (.Name "super" p0) [] [] p1) "__init__" p2) (e :: es) [] p3) p4 :: rest) (NdefX.envF (nf qual params body scope cc cda) f s.heap.objs.size) from by rw [← hb]]
  refine ks_wpAt_execs_cons (ks_wpAt_Expr_any (ks_wpAt_MethodCall (pl := pl _) ?_ (hev _)) hz (hsw _))
  -- super()
  have KI : K.In ({ s with heap := h1, toks := s.toks + (ps.zip us).length } : Shared).heap := I.kIn
  obtain ⟨nm, q, Nn, bs, bm, sn, sub, ab, col, dd, k0, k1, k2, k3, k5, hC, hbm⟩ := T.oex.cls
  obtain ⟨t1, In⟩ := inst_of I haH
  obtain ⟨mb, bl1, bl2⟩ := e0.mod.blt
  refine ks_wpAt_super_base hks (S.frk _ List.mem_cons_self) (by decide) rfl (KI _ _ lk) rfl hp rfl (KI _ _ lk2) rfl hvs hfile htop ?_
  refine ks_loadName_global S.kind hks (Calls.loadGlobal_builtin (e0.mod.glob.keeps I.bk) T.msup (bl1.keeps I.bk) ((bl2 _ (by decide)).trans PyProof.Rows.Boot.«super») ⟨rfl, ?_⟩)
  refine wpAny_loadName_free S.kind (S.frk _ List.mem_cons_self) (by simp [List.lookup]) ⟨_, KI _ _ lk3, rfl⟩ ?_
  obtain ⟨m, hm, hmv⟩ := I.loc
  have hs0 : (NdefX.startF N vs [none])[0]? = some (some (.ref a)) := by
    unfold NdefX.startF
    rw [List.getElem?_append_left (by rw [List.length_map]; omega), List.getElem?_map, hva]; rfl
  obtain ⟨u, ru, lu⟩ := hmv 0 ar.arg (.ref a) h0 hs0 (.inl hka)
  obtain rfl : u = Value.ref a := ru
  have hma : m ar.arg = some (.ref a) := by
    rcases lu with ⟨_, h⟩ | ⟨h, _⟩
    · exact h
    · rcases h with h | h
      · have h' : scope.names.lookup ar.arg = some .cell := h
        rw [hka] at h'; cases h'
      · have h' : scope.names.lookup ar.arg = some .free := h
        rw [hka] at h'; cases h'
  refine wpAny_loadName_local S.kind hka hm hma ?_
  refine ks_wpAny_isType_cls (KI _ _ hC) rfl ⟨rfl, ?_⟩
  refine ks_wpAny_call_super (KI _ _ hC) rfl In.at_ rfl (fun c z => by cases z) (PySem.W.looks_mroIn KI T.sub) (fun h2 e2 kk2 => ?_)
  have I2 := I.kept (t' := s.toks + (ps.zip us).length) kk2
  -- the bound __init__
  have hcl : PySem.W.clsIn K C = some { name := nm, bases := bs, mro := .ref C :: bm, ns := Nn, qualname := q, hasDict := true, slotNames := sn, subclasses := sub, abstract := ab, collection := col, hasDel := false } := by unfold PySem.W.clsIn; rw [hC] <;> rfl
  have hal : PySem.W.alongIn K "__init__" (((Value.ref C :: bm).dropWhile (· != .ref C)).drop 1) = some (some (.builtin "ValueError.__init__")) := by
    have := T.sup
    unfold PySem.W.ks_superIn at this
    rw [hcl] at this
    exact this
  obtain ⟨t2, In2⟩ := inst_of I2 haH
  refine PySem.W.kxs_getMethod PySem.W.kxs_ValueError e2 (PySem.W.looks_opaque I2.kIn T.any) (l₀ := .ref C :: bm) (fun A Q E s k q => wpAny_bind ((PySem.W.looks_clsIn I2.kIn hcl) A _ E s k (wpAny_pure q))) rfl I2.kIn hal (In2.type.andThen (PySem.W.looks_subIn I2.kIn T.vE)) (PySem.W.ks_ne I2.kIn In2 hcl) (by decide) ?_
  show wpAny _ _ (callWith p3 (.ref h2.objs.size) [] (backTo p3 (starEach (e :: es) (NdefX.envF (nf qual params body scope cc cda) f s.heap.objs.size))) []) _ _ _
  rw [hst]
  refine PySem.W.kxs_callWith (i := "ValueError.__init__") (x := a) (by show (false || (backTo p3 (starEach es _)).any (·.1)) = false; rw [hpl]; rfl) ?_
  refine Calls.evalArgs_plain ?_
  have I4 := ClX.pin_new (a := h2.objs.size) (o := PySem.W.kxs_mw "ValueError.__init__" a) (t' := s.toks + (ps.zip us).length + 1) (h' := h2.push (PySem.W.kxs_mw "ValueError.__init__" a)) I2 (fun b o z => Heap.get?_push_of_some _ z) (Nat.le_refl _) (Heap.get?_push_size _ rfl) (fun v z => by cases z)
  have hst' := hst (NdefX.envF (nf qual params body scope cc cda) f s.heap.objs.size)
  have hrun := hpa.run p3 _ _ _ _ _ I4 hq
  refine wpAny_mono (hst' ▸ hrun) (fun xs s5 hh => ?_) (fun _ _ x => x)
  obtain ⟨ws, H5, I5, r5, hwl, ea5, qt⟩ := hh
  have hu5 := ClX.pin_at I5
  refine ⟨hu5, ?_⟩
  refine call_mw (X := NdefX.ncx CX P w K mg base N (nf qual params body scope cc cda) f A outer s H E) T.oex I5 hu5 ea5 (by show xs.length ≤ _; rw [← Paired.length r5, sizeLine_eq]; omega) fun s6 J => ?_
  refine wpAt_of_wpAny ?_
  refine wpAny_mono (hpss.run _ s6 _ _ _ J qt) (fun fl s' hs => ?_) fun e s' hs => hs
  have fin : ∀ {σ' : L2.St} {H' : Hp} {v : V} {u : Value} {pins}, Inv (NdefX.ncx CX P w K mg base N (nf qual params body scope cc cda) f A outer s H E) pins σ' H' s' → L2.RelV v u → Q v H' → CE outer P w H s Q u s' :=
    fun {σ' H' v u pins} J rv q => ⟨v, H', J.os, J.bare, J.base, J.hok, rv, q⟩
  cases fl with
  | ret u =>
    obtain ⟨v, σ', H', J, rv, q⟩ := hs
    exact fin J rv q
  | next =>
    obtain ⟨σ', H', J, q⟩ := hs
    exact fin (v := V.non) (u := Value.none) J rfl q
  | brk =>
    obtain ⟨_, _, _, q⟩ := hs
    exact False.elim q
  | cont =>
    obtain ⟨_, _, _, q⟩ := hs
    exact False.elim q
end
end SUP
namespace G
open PySem PySem.Spec PyProof.Rows L2 PySem.P
/-! ## del xs[a:] of a list -/
theorem zip_take {α : Type} (p : Nat → Bool) (a : Nat) : ∀ (l : List α) (i : Nat), (∀ k, i ≤ k → k < i + l.length → p k = decide (a ≤ k)) → (l.zipIdx i).filterMap (fun q => if p q.2 = true then none else some q.1) = l.take (a - i)
  | [], i, _ => by simp
  | x :: r, i, h => by
    have hi := h i (Nat.le_refl _) (by rw [List.length_cons]; omega)
    have ih := zip_take p a r (i + 1) fun k k1 k2 => h k (by omega) (by rw [List.length_cons]; omega)
    rw [List.zipIdx_cons, List.filterMap_cons]
    dsimp only
    rw [hi]
    by_cases c : a ≤ i
    · rw [decide_eq_true c, if_pos rfl, ih, show a - i = 0 by omega, show a - (i + 1) = 0 by omega]; rfl
    · rw [decide_eq_false c, if_neg (by decide)]
      dsimp only
      rw [ih, show a - i = (a - (i + 1)) + 1 by omega]; rfl
section
variable {prog : Program} {w : World} {A : Around} {E : Value → Shared → Prop} {s : Shared}
set_option maxRecDepth 100000 in
theorem delItem_slice {l sl : Addr} {items : Array Value} {n : Nat} {vl vu : Value} {a : Nat} {Q : Unit → Shared → Prop} (e : s.heap.get? l = some { cls := .type "list", data := .seq items n })
    (hs : s.heap.IsSliceOf sl vl vu .none) (pl : IsPart vl (some (a : Int))) (pu : IsPart vu none) (ha : a ≤ items.size) (hsz : items.size ≤ sizeLine)
    (h : ∀ f : Array Value → Array Value, f items = (items.toList.take a).toArray → Q () { s with heap := s.heap.update l (Obj.mapSeq f) }) :
    wpAny (model prog w) A (delItem (.ref l) (.ref sl)) Q E s := by
  have hl : s.heap.IsList l items := PySem.IsL.isList e
  obtain ⟨os, hos, hcs, hds⟩ := id hs
  have hTs : s.TypeIs (.ref sl) "slice" := ⟨os, hos, hcs⟩
  have hstep : ¬ ((rawPart none == rawInt 0) = true) := Bool.false_ne_true
  have hbd : sliceBounds (some (a : Int)) none none items.size = ((a : Int), (items.size : Int), 1) := by
    simp only [sliceBounds, Option.getD_none]
    have h1 : ¬ ((a : Int) < 0) := by omega
    simp only [h1, if_false, show (1 : Int) > 0 by decide, if_true]
    congr 1
    omega
  refine wpAny_delItem_slot hl.typeIs (by decide) PySem.F.slot_list_delitem (wpAny_call_entry PySem.F.slot_list_delitem hl.typeIs PySem.F.entry_list_delitem ?_ (PySem.F.args_list_delitem_2 _ _))
  show wpAny _ _ (Builtin.List.listSubscript? (.ref sl) >>= _) _ _ s
  refine wpAny_bind ?_
  unfold Builtin.List.listSubscript?
  refine wpAny_bind (wpAny_specialOf hTs slice_no_index ?_)
  simp only [Option.isNone_none, if_true]
  refine wpAny_pure ?_
  show wpAny _ _ (typeOf (.ref sl) >>= _) _ _ s
  refine wpAny_bind (wpAny_typeOf hTs ?_)
  first
    | rw [if_neg (by decide)]
    | refine PySem.W.KFB.if_not (by decide) ?_
  rw [listSliceParts_eq]
  refine wpAny_bind (wpAny_bind (wpAny_field hos hds (x := .none) rfl (wpAny_bind (wpAny_listPart .none ?_))))
  rw [if_neg hstep]
  refine wpAny_bind (wpAny_field hos hds (x := vl) rfl (wpAny_bind (wpAny_listPart pl ?_)))
  refine wpAny_bind (wpAny_field hos hds (x := vu) rfl (wpAny_bind (wpAny_listPart pu (wpAny_pure ?_))))
  unfold Builtin.List.listItems
  refine wpAny_bind (wpAny_bind (wpAny_seqItems e rfl (wpAny_pure ?_)))
  refine wpAny_bind (wpAny_of_eq ((sliceIndices_raw (some (a : Int)) none none items.size (by simp)).trans (congrArg (pure : Int × Int × Int → Sem (Int × Int × Int)) hbd)) ?_)
  refine wpAny_bind (wpAny_rule ?_)
  have hp : ∀ k : Nat, k < items.size → (if (1 : Int) > 0 then decide ((a : Int) ≤ (k : Int)) && decide ((k : Int) < (items.size : Int)) && (((k : Int) - (a : Int)) % 1 == 0) else decide ((items.size : Int) < (k : Int)) && decide ((k : Int) ≤ (a : Int)) && (((a : Int) - (k : Int)) % (-1) == 0)) = decide (a ≤ k) := fun k hk => by
    rw [if_pos (by decide)]
    have e1 : decide ((k : Int) < (items.size : Int)) = true := decide_eq_true (by omega)
    have e2 : (((k : Int) - (a : Int)) % 1 == 0) = true := by rw [Int.emod_one]; rfl
    rw [e1, e2, Bool.and_true, Bool.and_true]
    by_cases c : a ≤ k
    · rw [decide_eq_true c, decide_eq_true (by omega)]
    · rw [decide_eq_false c, decide_eq_false (by omega)]
  have hF : (items.toList.zipIdx.filterMap fun q : Value × Nat => if (if (1 : Int) > 0 then decide ((a : Int) ≤ (q.2 : Int)) && decide ((q.2 : Int) < (items.size : Int)) && (((q.2 : Int) - (a : Int)) % 1 == 0) else decide ((items.size : Int) < (q.2 : Int)) && decide ((q.2 : Int) ≤ (a : Int)) && (((a : Int) - (q.2 : Int)) % (-1) == 0)) = true then none else some q.1).toArray = (items.toList.take a).toArray := by
    have := zip_take (fun k : Nat => if (1 : Int) > 0 then decide ((a : Int) ≤ (k : Int)) && decide ((k : Int) < (items.size : Int)) && (((k : Int) - (a : Int)) % 1 == 0) else decide ((items.size : Int) < (k : Int)) && decide ((k : Int) ≤ (a : Int)) && (((a : Int) - (k : Int)) % (-1) == 0)) a items.toList 0 (fun k _ hk => hp k (by rw [Array.length_toList] at hk; omega))
    rw [Nat.sub_zero] at this
    rw [this]
  have hz : (items.toList.take a).toArray.size ≤ sizeLine + 1 := by
    rw [List.size_toArray, List.length_take, Array.length_toList]
    omega
  refine wpAny_bind (wpAny_updateSeq (hz := hsz) (_hz' := Nat.le_trans (Nat.le_of_eq (congrArg Array.size hF)) hz) e rfl ?_)
  refine wpAny_bind (wpAny_letGo ?_)
  first
    | exact wpAny_bind (wpAny_pure (wpAny_pure ⟨.none, rfl, h _ hF⟩))
    | exact wpAny_pure ⟨.none, rfl, h _ hF⟩
end
/-- del o[lo:] of a list -/
def tDelSl (to : TE) (tl : TO) : TS := fun D σ H => to σ H fun x H1 => tl σ H1 fun lo H2 => ∃ (a : Addr) (xs : List V) (k : Nat), x = .ref a ∧ lo = some (k : Int) ∧ H2 a = some (.lst xs) ∧ k ≤ xs.length ∧ D.nx σ (upd H2 a (.lst (xs.take k)))
theorem ps_delSl {X : Cx} {o : Expr} {lo : Option Expr} {to : TE} {tl : TO} {p2 tpos pos : Pos} (ho : PE X o to) (hl : PO X lo tl) : PS X (.Delete [.Subscript o (.Slice lo none none p2) tpos] pos) (tDelSl to tl) := by
  refine ⟨fun pins s σ H D I h => ?_⟩
  refine wpAny_Delete (wpAny_deleteEach_cons (wpAny_delete_Subscript (thn (ho.run pins s σ H _ I h) fun u s1 ⟨x, H1, I1, rx, q1⟩ => ?_)))
  refine wpAny_Slice (thn (hl.run pins s1 σ H1 _ I1 q1) fun vl s2 ⟨l, H2, I2, pl, q2⟩ => ?_)
  rw [evalPart_none]
  refine wpAny_pure ?_
  refine wpAny_pure ?_
  obtain ⟨a, xs, k, rfl, rfl, hH, hk, q⟩ := q2
  cases (show u = Value.ref a from rx)
  have I4 : Inv X pins σ H2 { s2 with heap := s2.heap.push { cls := .type "slice", data := .fields #[vl, .none, .none] } } := I2.kept (t' := s2.toks) fun b ob q => Heap.get?_push_of_some _ q
  obtain ⟨z, its, n, r, hle, e⟩ := I4.lstM hH
  refine delItem_slice (a := k) e (Heap.IsSliceOf.new ..) pl .none (by rw [List.size_toArray]; omega) (by rw [List.size_toArray]; omega) fun f hf => ?_
  have J := I4.lset (its' := its.take k) (t' := s2.toks) hH e hf (r.take k) (by rw [List.length_take]; omega)
  exact wpAny_deleteEach_nil ⟨σ, _, J, q⟩
end G
namespace G
open PySem PySem.Spec PyProof.Rows L2
/-! ## max(xs, default=d) of whole numbers -/
theorem reads_ints {h : Heap} : ∀ {its : List Value} {ns : List Int}, IntsAre its ns → ReadsAll h its (ns.map PyData.int) []
  | _, _, .nil => .nil
  | _, _, .cons n t r => ReadsAll.cons (as := []) (bs := []) (.int n t) (reads_ints r)
theorem depth_ints : ∀ ns : List Int, PyData.depthAll (ns.map PyData.int) ≤ 5
  | [] => by simp [PyData.depthAll]
  | n :: r => by
    have := depth_ints r
    simp only [List.map_cons, PyData.depthAll, PyData.depth]
    omega
def rMaxDf (K : PySem.W.Frag) : List V → List V → Hp → VK → Prop := fun xs zs H Q => ∃ (a : Addr) (ns : List Int) (d : Int), xs = [.ref a] ∧ zs = [.int d] ∧ SqL K H a (ns.map V.int) ∧ (ns = [] → Q (.int d) H) ∧ (∀ n r, ns = n :: r → Q (.int (r.foldl max n)) H)
theorem cr_maxDf {X : Cx} (hc : X.calm = true) (hr : X.A.units + 200 < cLine) : CallRK X (.builtin "max") ["default"] (rMaxDf X.K) := by
  intro pins s σ H xs zs us ws Q I r rz h
  obtain ⟨a, ns, d, rfl, rfl, hs, q0, q1⟩ := h
  obtain ⟨its, rv, hl, _⟩ := I.list hs
  rw [Vals.ref1 r]
  obtain ⟨u, rfl, t, rfl⟩ := vals1 rz
  refine PySem.W.max_list_default (xs := ns.map PyData.int) (as := []) (I.ok.hd hc) hl.isList (reads_ints rv.ints) ?_ ?_ (fun h0 h' tk k => ?_) (fun y ys i v h' tk bs hxs hv hrd k => ?_)
  · refine ⟨fun x hx y hy => ?_, fun x hx => ?_⟩
    · obtain ⟨i, _, rfl⟩ := List.mem_map.mp hx
      obtain ⟨j, _, rfl⟩ := List.mem_map.mp hy
      rfl
    · obtain ⟨i, _, rfl⟩ := List.mem_map.mp hx
      exact fun z => by cases z
  · have := depth_ints ns
    omega
  · exact ⟨.int d, H, I.kept (t' := tk) k, ⟨_, rfl⟩, q0 (List.map_eq_nil_iff.mp h0)⟩
  · cases ns with
    | nil => cases hxs
    | cons n r =>
      rw [List.map_cons] at hxs
      injection hxs with e1 e2
      subst e1 e2
      rw [PySem.W.maxD_ints] at hrd
      cases hrd with
      | int i t => exact ⟨.int _, H, I.kept (t' := tk) k, ⟨_, rfl⟩, q1 n r rfl⟩
end G
namespace G
open PySem PySem.Spec PyProof.Rows L2 Evl
theorem tYes_in {σ : L2.St} {H : Hp} {A B : Hp → Prop} (h : A H) : tYes σ H (fun b H3 => if b = true then A H3 else B H3) := by
  show if true = true then A H else B H
  exact iteT h
def tabV (bs : List Bool) : HO := .tup (bs.map V.bl)
theorem inV_ints {k : Int} {l : List Int} : inV (.int k) (l.map V.int) = l.contains k := by
  unfold inV
  rw [List.any_map, List.contains_eq_any_beq]
  congr 1
  funext y
  show (y == k) = (k == y)
  rw [Bool.eq_iff_iff]; simp; exact eq_comm
theorem inV_bls {k : Bool} {l : List Bool} : inV (.bl k) (l.map V.bl) = l.contains k := by
  unfold inV
  rw [List.any_map, List.contains_eq_any_beq]
  congr 1
  funext y
  show (y == k) = (k == y)
  cases y <;> cases k <;> rfl
theorem flat_map {α : Type} {f : α → V} (h : ∀ x, flatV (f x) = true) (l : List α) : (l.map f).all flatV = true := by
  rw [List.all_map]
  exact List.all_eq_true.mpr fun x _ => h x
theorem tif_by {tt : TE} {σ : L2.St} {H : Hp} {Q : VK} (R : V → Hp → Prop) (h : ∀ Q' : VK, (∀ v H', R v H' → Q' v H') → tt σ H Q') (rest : ∀ v H', R v H' → Q v H') : tt σ H Q := h Q rest
theorem bl_eq (a b : Bool) : decide (V.bl a = V.bl b) = decide (a = b) := by cases a <;> cases b <;> rfl
end G
namespace G
open PySem PySem.Spec PyProof.Rows L2 Evl
/-! ## two lists side by side -/
def All2 {α β : Type} (R : α → β → Prop) (as : List α) (bs : List β) : Prop := as.length = bs.length ∧ ∀ (i : Nat) (a : α) (b : β), as[i]? = some a → bs[i]? = some b → R a b
theorem All2.nil {α β : Type} {R : α → β → Prop} : All2 R [] [] := ⟨rfl, fun _ _ _ h => nomatch h⟩
theorem All2.imp {α β : Type} {R S : α → β → Prop} {as : List α} {bs : List β} (h : All2 R as bs) (f : ∀ a b, R a b → S a b) : All2 S as bs := ⟨h.1, fun i a b h1 h2 => f _ _ (h.2 i a b h1 h2)⟩
theorem All2.snoc {α β : Type} {R : α → β → Prop} {as : List α} {bs : List β} {a : α} {b : β} (h : All2 R as bs) (r : R a b) : All2 R (as ++ [a]) (bs ++ [b]) := by
  refine ⟨by rw [List.length_append, List.length_append, h.1]; rfl, fun i x y h1 h2 => ?_⟩
  by_cases hi : i < as.length
  · rw [List.getElem?_append_left hi] at h1
    rw [List.getElem?_append_left (h.1 ▸ hi)] at h2
    exact h.2 i x y h1 h2
  · rw [List.getElem?_append_right (by omega)] at h1
    rw [List.getElem?_append_right (by rw [← h.1]; omega), ← h.1] at h2
    cases e : i - as.length with
    | zero =>
      rw [e] at h1 h2
      cases h1; cases h2; exact r
    | succ n => rw [e] at h1; exact nomatch h1
theorem All2.at_ {α β : Type} {R : α → β → Prop} {as : List α} {bs : List β} (h : All2 R as bs) {i : Nat} {a : α} (e : as[i]? = some a) : ∃ b, bs[i]? = some b ∧ R a b := by
  have hi : i < bs.length := by rw [← h.1]; exact (List.getElem?_eq_some_iff.mp e).1
  exact ⟨bs[i], List.getElem?_eq_getElem hi, h.2 i a _ e (List.getElem?_eq_getElem hi)⟩
theorem All2.of {α β : Type} {R : α → β → Prop} {as : List α} {bs : List β} (h : All2 R as bs) {i : Nat} {b : β} (e : bs[i]? = some b) : ∃ a, as[i]? = some a ∧ R a b := by
  have hi : i < as.length := by rw [h.1]; exact (List.getElem?_eq_some_iff.mp e).1
  exact ⟨as[i], List.getElem?_eq_getElem hi, h.2 i _ b (List.getElem?_eq_getElem hi) e⟩
theorem All2.cons {α β : Type} {R : α → β → Prop} {as : List α} {bs : List β} {a : α} {b : β} (r : R a b) (h : All2 R as bs) : All2 R (a :: as) (b :: bs) := by
  refine ⟨by rw [List.length_cons, List.length_cons, h.1], fun i x y h1 h2 => ?_⟩
  cases i with
  | zero => cases h1; cases h2; exact r
  | succ i => exact h.2 i x y h1 h2
theorem take_snoc1 {α : Type} {l : List α} {j : Nat} {x : α} (h : l[j]? = some x) : l.take (j + 1) = l.take j ++ [x] := by rw [List.take_add_one, h]; rfl
theorem refs_get {as : List Addr} {k : Nat} {x : V} (hx : (as.map V.ref)[k]? = some x) : ∃ a, as[k]? = some a ∧ x = .ref a := by
  rw [List.getElem?_map] at hx
  cases e : as[k]? with
  | none => rw [e] at hx; cases hx
  | some a => rw [e] at hx; cases hx; exact ⟨a, rfl, rfl⟩
/-! ## walks: any body -/
theorem wk_list {K : PySem.W.Frag} {a : Addr} {xs : List V} {body : (Hp → Prop) → V → Hp → Prop} {H0 : Hp} {Qd : Hp → Prop} (Pv : Nat → Hp → Prop) (h0 : Pv 0 H0) (hl : ∀ i H, i ≤ xs.length → Pv i H → SqL K H a xs)
    (hs : ∀ i x H, xs[i]? = some x → Pv i H → body (Pv (i + 1)) x H) (hd : ∀ H, Pv xs.length H → Qd H) :
    ∃ W : Nat → Nat → Hp → Prop, (∃ m, W 0 m H0) ∧ ∀ i m H, W i m H → ((Itl K a).stop i H ∧ Qd H) ∨ ((Itl K a).go i H ∧ ∃ Nx : Hp → Prop, (∀ H', Nx H' → ∃ m', m' < m ∧ W (i + 1) m' H') ∧ ∀ x H', (Itl K a).yld i H x H' → body Nx x H') := by
  refine ⟨fun i m H => m = xs.length - i ∧ i ≤ xs.length ∧ Pv i H, ⟨xs.length, by simp, Nat.zero_le _, h0⟩, ?_⟩
  rintro i m H ⟨rfl, hi, p⟩
  have q := hl i H hi p
  rcases Nat.lt_or_ge i xs.length with lt | ge
  · have e : xs[i]? = some xs[i] := List.getElem?_eq_getElem lt
    refine .inr ⟨⟨xs, xs[i], q, e⟩, Pv (i + 1), fun H' p' => ⟨xs.length - (i + 1), by omega, rfl, lt, p'⟩, fun x H' y => ?_⟩
    obtain ⟨rfl, y⟩ := y
    exact hs i x _ (y xs q) p
  · have e : i = xs.length := by omega
    subst e
    exact .inl ⟨⟨xs, q, Nat.le_refl _⟩, hd H p⟩
theorem wk_tup {K : PySem.W.Frag} {a : Addr} {xs : List V} {body : (Hp → Prop) → V → Hp → Prop} {H0 : Hp} {Qd : Hp → Prop} (Pv : Nat → Hp → Prop) (h0 : Pv 0 H0) (hl : ∀ i H, i ≤ xs.length → Pv i H → SqT K H a xs)
    (hs : ∀ i x H, xs[i]? = some x → Pv i H → body (Pv (i + 1)) x H) (hd : ∀ H, Pv xs.length H → Qd H) :
    ∃ W : Nat → Nat → Hp → Prop, (∃ m, W 0 m H0) ∧ ∀ i m H, W i m H → ((Itt K a).stop i H ∧ Qd H) ∨ ((Itt K a).go i H ∧ ∃ Nx : Hp → Prop, (∀ H', Nx H' → ∃ m', m' < m ∧ W (i + 1) m' H') ∧ ∀ x H', (Itt K a).yld i H x H' → body Nx x H') := by
  refine ⟨fun i m H => m = xs.length - i ∧ i ≤ xs.length ∧ Pv i H, ⟨xs.length, by simp, Nat.zero_le _, h0⟩, ?_⟩
  rintro i m H ⟨rfl, hi, p⟩
  have q := hl i H hi p
  rcases Nat.lt_or_ge i xs.length with lt | ge
  · have e : xs[i]? = some xs[i] := List.getElem?_eq_getElem lt
    refine .inr ⟨⟨xs, xs[i], q, e⟩, Pv (i + 1), fun H' p' => ⟨xs.length - (i + 1), by omega, rfl, lt, p'⟩, fun x H' y => ?_⟩
    obtain ⟨rfl, y⟩ := y
    exact hs i x _ (y xs q) p
  · have e : i = xs.length := by omega
    subst e
    exact .inl ⟨⟨xs, q, Nat.le_refl _⟩, hd H p⟩
theorem wk_it {J : It} {n : Nat} {Gd : Hp → Prop} {Y : Nat → Hp → V → Hp → Prop} (w : Walk J n Gd Y) {body : (Hp → Prop) → V → Hp → Prop} {H0 : Hp} {Qd : Hp → Prop} (Pv : Nat → Hp → Prop) (h0 : Pv 0 H0) (hG : ∀ i H, i ≤ n → Pv i H → Gd H)
    (hs : ∀ i x H H', i < n → Pv i H → Y i H x H' → body (Pv (i + 1)) x H') (hd : ∀ H, Pv n H → Qd H) :
    ∃ W : Nat → Nat → Hp → Prop, (∃ m, W 0 m H0) ∧ ∀ i m H, W i m H → (J.stop i H ∧ Qd H) ∨ (J.go i H ∧ ∃ Nx : Hp → Prop, (∀ H', Nx H' → ∃ m', m' < m ∧ W (i + 1) m' H') ∧ ∀ x H', J.yld i H x H' → body Nx x H') := by
  refine ⟨fun i m H => m = n - i ∧ i ≤ n ∧ Pv i H, ⟨n, by simp, Nat.zero_le _, h0⟩, ?_⟩
  rintro i m H ⟨rfl, hi, p⟩
  rcases Nat.lt_or_ge i n with lt | ge
  · exact .inr ⟨w.goes i H lt (hG i H hi p), Pv (i + 1), fun H' p' => ⟨n - (i + 1), by omega, rfl, lt, p'⟩, fun x H' y => hs i x H H' lt p (w.yields i H x H' lt (hG i H hi p) y)⟩
  · have e : i = n := by omega
    subst e
    exact .inl ⟨w.stops H (hG i H hi p), hd H p⟩
/-! ## tuples joined and cut, whatever object that is -/
theorem cat_tup {K : PySem.W.Frag} {H : Hp} {a b : Addr} {xs ys : List V} {Q : VK} (ha : H a = some (.tup xs)) (hb : H b = some (.tup ys)) (hl : xs.length + ys.length ≤ sizeLine) (q : ∀ c H', Ex H H' → H' c = some (.tup (xs ++ ys)) → Q (.ref c) H') : rCatA K (.ref a) (.ref b) H Q := by
  refine ⟨a, b, xs, ys, rfl, rfl, SqT.of ha, SqT.of hb, hl, fun e => ?_, fun _ e => ?_, fun _ _ p np => ?_⟩
  · subst e; exact q b H (Ex.refl _) hb
  · subst e; exact q a H (Ex.refl _) (by rw [List.append_nil]; exact ha)
  · exact q p _ (Ex.new np) upd_same
theorem cut_tup {K : PySem.W.Frag} {H : Hp} {a : Addr} {xs : List V} {lo hi : Option Int} {Q : VK} (ha : H a = some (.tup xs)) (q : ∀ c H', Ex H H' → H' c = some (.tup (cutV xs lo hi)) → Q (.ref c) H') : rSlA K (.ref a) lo hi H Q := by
  refine ⟨a, xs, rfl, SqT.of ha, fun e => ?_, fun _ p np => q p _ (Ex.new np) upd_same⟩
  refine q a H (Ex.refl _) ?_
  rw [ha]
  unfold cutV
  rw [e.1, e.2, List.drop_zero, Nat.sub_zero, List.take_length]
theorem cutV_head {xs : List V} {k : Nat} (h : k ≤ xs.length) : cutV xs none (some (k : Int)) = xs.take k := by
  unfold cutV
  rw [HT.sIx_none, HT.sIx_nat, List.drop_zero, Nat.sub_zero, Nat.min_eq_left h]
theorem cutV_tail {xs : List V} {k : Nat} (h : k ≤ xs.length) : cutV xs (some (k : Int)) none = xs.drop k := by
  unfold cutV
  rw [HT.sIx_none, HT.sIx_nat, Nat.min_eq_left h, List.take_of_length_le]
  rw [List.length_drop]; exact Nat.le_refl _
end G
/-! a dict comprehension whose keys are tuples of ints and texts -/
namespace L2
open PySem PySem.Spec PyProof.Rows
theorem put_tup {X : Cx} {ps : List (Addr × Obj)} {σ : St} {H : Hp} {s : Shared} {E : Value → Shared → Prop} {b D : Addr} {es : List (List Key × V)} {k : List Key} {v : V} {r : Value} {Q : Unit → Shared → Prop}
    (hu : X.A.units < cLine) (J : Inv X ps σ H s) (hb : H b = some (.tup (k.map kV))) (hD : H D = some (.dT es)) (hn : es.length < sizeLine) (hv : RelV v r)
    (go : ∀ s2, Inv X ps σ (upd H D (.dT (putK es k v))) s2 → Q () s2) : wpAny (model X.prog X.w) X.A (dictSet D (.ref b) r) Q E s := by
  obtain ⟨le, low, xs, rel, at_⟩ := dt_of J.hok hD
  have l1 : xs.length ≤ sizeLine := Paired.length rel ▸ le
  have l2 : (putK es k v).length ≤ sizeLine := Nat.le_trans (length_putK es k v) hn
  refine wpAny_dictSet_heap (hsz := l1) hu (key_of J.hok hb) at_ fun h2 d2 sb => go _ ?_
  obtain ⟨o2, e2, ep2, c1, c2, c3, c4, _, c6⟩ := d2
  refine d_write J (by rw [hD]; exact True.intro) sb ⟨o2, c1⟩ ⟨l2, low, _, (rel.put k hb hv).keeps fun c ys hc => ?_, o2, e2, ep2, c1, c2, c3, c4, c6⟩
  exact (upd_ne (ne_of hc hD (fun z => nomatch z))).trans hc
section
variable {X : Cx}
/-- one turn: the target, the test, the key, the value, the store -/
def dctTurn (D : Addr) (g : TG) (tt : TT) (tk tv : TE) (vs : List Nat) (σ : St) (Nx : Hp → Prop) (x : V) (H : Hp) : Prop :=
  g x (wipe σ vs) H fun τ G1 => wipe τ vs = wipe σ vs ∧ tt τ G1 fun b G2 => if b = true then tk τ G2 fun y G3 => tv τ G3 fun z G4 =>
    ∃ (es : List (List Key × V)) (k : List Key) (c : Addr), y = .ref c ∧ G4 c = some (.tup (k.map kV)) ∧ G4 D = some (.dT es) ∧ es.length < sizeLine ∧ Nx (upd G4 D (.dT (putK es k z))) else Nx G2
def tDct (wi : TI) (g : TG) (tt : TT) (tk tv : TE) (vs : List Nat) : TE := fun σ H Q => wi σ H fun J H1 => ∀ D, H1 D = none → ∃ W : Nat → Nat → Hp → Prop, (∃ m, W 0 m (upd H1 D (.dT []))) ∧
  ∀ i m G, W i m G → (J.stop i G ∧ Q (.ref D) G) ∨ (J.go i G ∧ ∃ Nx : Hp → Prop, (∀ G2, Nx G2 → ∃ m2, m2 < m ∧ W (i + 1) m2 G2) ∧ ∀ x G2, J.yld i G x G2 → dctTurn D g tt tk tv vs σ Nx x G2)
abbrev InBlk (X : Cx) (scope : Scope) (F : Cx → Prop) : Prop := ∀ (s : Shared) (H : Hp) (C : Addr) (cl : List (Str × Addr)) (fp : List Addr), F (X.blk s H scope (compEnvC scope cl C X.env) fp)
theorem pe_dct {kx vx tg iter : Expr} {ifs : List Expr} {scope : Scope} {own : List (Str × Nat)} {pos : Pos} {wi : TI} {g : TG} {tt : TT} {tk tv : TE} (calm : X.calm = true) (nd : X.N.Nodup) (hu : X.A.units < cLine)
    (walk : PI X tg iter wi) (ok : BlkOk X.N X.env.scope scope own) (bg : InBlk X scope fun Y => PG Y tg g) (bt : InBlk X scope fun Y => PTs Y ifs tt) (bk : InBlk X scope fun Y => PE Y kx tk) (bv : InBlk X scope fun Y => PE Y vx tv)
    (plain : ∀ x, foldedSetIterable iter X.env x = pure x := by intro _; rfl) : PE X (.DictComp kx vx [⟨tg, iter, ifs, 0⟩] scope pos) (tDct wi g tt tk tv (own.map (·.2))) := by
  refine ⟨fun ps s σ H Q I hyp => ?_⟩
  rw [arm_eval_DictComp]
  have clo := closure_ok (env := X.env) (scope := scope) fun y hy e => (ok.free y hy e).elim (fun k => I.ok.has _ (.inl k)) (fun k => I.ok.has _ (.inr k))
  refine wpAny_comprehension_free (use := none) rfl plain clo ok.kind (fun y hy e => (ok.uniq y hy).trans (congrArg some e)) (thn (walk.run ps s σ H _ I hyp) fun _ s1 got => thn got fun _ s2 more => ?_)
  obtain ⟨it, fp, tn, J, H2, rfl, I2, T, here, fpok, rest⟩ := more
  refine wpAny_newObj_type (newEnv_comp ?_)
  let D : Addr := s2.heap.objs.size
  have free : H2 D = none := I2.hok.fresh (Nat.le_refl _)
  obtain ⟨W, ⟨m0, start⟩, turn⟩ := rest D free
  let s3 : Shared := { s2 with heap := s2.heap.push { cls := .type "dict", data := .dict #[] } }
  have old : ∀ b o, s2.heap.get? b = some o → s3.heap.get? b = some o := fun b o e => Heap.get?_push_of_some _ e
  have I3 : Inv X ps σ (upd H2 D (.dT [])) s3 := I2.laid (t' := s2.toks) old (Nat.le_refl _) (dt_empty s2.heap I2.big)
  have small : ∀ b ∈ fp, b < s2.heap.objs.size := fun b hb => (T.obj _ _ here b hb).elim fun _ e => Heap.lt_size e.1
  have fp3 : ∀ b ∈ fp, FpOk X ps (upd H2 D (.dT [])) b ∧ b < s3.heap.objs.size := fun b hb =>
    ⟨⟨(upd_ne (Nat.ne_of_lt (small b hb))).trans (fpok b hb).1, (fpok b hb).2⟩, Nat.lt_of_lt_of_eq (Nat.lt_succ_of_lt (small b hb)) (Heap.size_push ..).symm⟩
  have here3 : tn 0 s3.heap := T.keep _ _ _ here fun b _ o e => old b o e
  have I4 := block_start I3 ok nd fp3
  generalize hH3 : upd H2 D (.dT []) = H3 at I3 I4 fp3 start
  generalize hC : s3.heap.objs.size = C at I4 ⊢
  generalize hce : compEnvC scope (cellsFrom (C + 1) scope.names (cloFrom X.env.cells scope.names [])) C X.env = ce at I4
  have locC : ce.locals = C := by rw [← hce]; rfl
  have at_ : ∀ F : Cx → Prop, InBlk X scope F → F (X.blk s3 H3 scope ce fp) := fun F hF => by rw [← hce]; exact hF ..
  have pg := at_ _ bg
  have pt := at_ _ bt
  have pk := at_ _ bk
  have pv := at_ _ bv
  let B : Cx := X.blk s3 H3 scope ce fp
  let s4 : Shared := { s3 with heap := pushCells (s3.heap.push { cls := .type "dict", data := .dict #[] }) scope.names }
  show codeAny _ _ (.compStart (.DictComp kx vx [⟨tg, iter, ifs, 0⟩] scope pos) 0 (.ref it) (.ref D) (compEnvC scope (cellsFrom (C + 1) scope.names (cloFrom X.env.cells scope.names [])) C X.env)) _ s4
  rw [hce]
  have here4 : tn 0 s4.heap := T.keep _ _ _ here3 fun b _ o e => pushCells_keeps _ _ _ _ (Heap.get?_push_of_some _ e)
  have away : ∀ {τ : St} {G : Hp} {t : Shared}, Inv B [] τ G t → (∀ b ∈ fp, G b = none) → ∀ b ∈ fp, FpOk B [] G b := fun {τ G t} J hn b hb =>
    ⟨hn b hb, (J.ok.exf b hb).1, J.ok.exfs b hb, .inl hb, fun x c e => (J.ok.exf b hb).2 x c e, fun p hp => nomatch (show p ∈ ([] : List (Addr × Obj)) ++ [] from hp)⟩
  let Iv : Nat → Shared → Prop := fun n t => ∃ i G, Inv B [] (wipe σ (own.map (·.2))) G t ∧ tn i t.heap ∧ (∀ b ∈ fp, G b = none) ∧ W i n G
  refine codeAny_compStart_dict ?loop (T.self X.A 0 _ _ _ here4 ?loop)
  refine compLoop_anyD Iv ?_ m0 ⟨0, H3, I4, here4, fun b hb => (fp3 b hb).1.1, start⟩
  rintro n t ⟨i, G, J, st, no, w⟩
  rcases turn i n G w with ⟨stop, fin⟩ | ⟨go, Nx, hNx, step⟩
  · -- the walk is over
    refine thnF (T.done B rfl rfl rfl calm i [] t _ G (fun _ _ => False) J (away J no) st stop) fun r t2 ⟨er, J2⟩ => ?_
    subst er
    have back : Inv X ps σ G t2 := I3.call' (ch := fp) J2.os J2.base J2.hok J2.bare fun b hb => ⟨(fp3 b hb).1.2.2.2.1, (fp3 b hb).1.2.1, (fp3 b hb).1.2.2.2.2.1, (fp3 b hb).1.2.2.2.2.2⟩
    have noC : G C = none := locC ▸ (show G ce.locals = none from J2.free)
    obtain ⟨m, hm, _⟩ := J2.loc
    have fo := I3.fpOk (Nat.le_of_eq hC) noC
    refine ⟨m, locC ▸ (show t2.heap.Ns ce.locals m from hm), fun h3 sb => ?_⟩
    obtain ⟨f0, f1, f2, f3, f4, f5⟩ := fo
    exact ⟨.ref D, G, back.turned (t' := t2.toks) (fun b o hb e => (sb.2 b hb).trans e) f0 f1 f3 f4 f5, rfl, fin⟩
  · refine thnF (T.item B rfl rfl rfl calm i [] t _ G (fun _ _ => False) J (away J no) st go) fun r t2 ⟨u, er, more⟩ => ?_
    subst er
    refine thnF more fun _ t3 ⟨x, G3, J3, rx, hy, st3, no3⟩ => ?_
    have J3p := J3.pinned (away J3 no3) (T.obj _ _ st3)
    refine thnF (pg.run _ t3 _ G3 x u _ J3p rx (step x G3 hy)) fun _ t4 ⟨τ, G4, J4, hw, q4⟩ => ?_
    refine thnF (pt.run _ t4 τ G4 _ J4 q4) fun b t5 ⟨G5, J5, q5⟩ => ?_
    have again : ∀ {t' : Shared} {G' : Hp}, Inv B ([] ++ pinsAt fp t3.heap) τ G' t' → Nx G' → ∃ m, m < n ∧ Iv m t' := fun {t' G'} J' nx => by
      obtain ⟨m2, lt, w2⟩ := hNx G' nx
      have kept : ∀ c ∈ fp, ∀ o, t3.heap.get? c = some o → t'.heap.get? c = some o ∧ G' c = none := fun c hc o e =>
        let z := J'.pin (c, o) (List.mem_append_right _ (List.mem_append_right _ (mem_pinsAt hc e)))
        ⟨z.1, z.2.1⟩
      have len : (wipe σ (own.map (·.2))).length = τ.length := by rw [← hw, wipe_length]
      exact ⟨m2, lt, i + 1, G', (J'.unpinned (pins := [])).weak len (fun j v e => (wipe_some (hw ▸ e)).1), T.keep _ _ _ st3 fun c hc o e => (kept c hc o e).1,
        fun c hc => (T.obj _ _ st3 c hc).elim fun o e => (kept c hc o e.1).2, w2⟩
    cases b with
    | false =>
      simp only [Bool.false_eq_true, if_false] at q5 ⊢
      exact again J5 q5
    | true =>
      simp only [if_true] at q5 ⊢
      refine thnF (pk.run _ t5 τ G5 _ J5 q5) fun kv t6 ⟨y, G6, J6, ry, q6⟩ => ?_
      refine thnF (pv.run _ t6 τ G6 _ J6 q6) fun vv t7 ⟨z, G7, J7, rz, es, k, c, ey, hc, hD, hl, nx⟩ => ?_
      subst ey
      obtain rfl : kv = Value.ref c := ry
      exact put_tup (X := B) hu J7 hc hD hl rz fun t8 J8 => again J8 nx
end
end L2
/-! y = {k: v for ..}, y a plain local: the value goes straight to its name -/
namespace L2
open PySem PySem.Spec PyProof.Rows
section
variable {X : Cx}
theorem sw_trueD {kx vx : Expr} {gs : List Comprehension} {scope : Scope} {pos py : Pos} {y : Str} {l : Nat} {env : Env} (hk : env.scope.kind = .function) (hy : env.scope.names.lookup y = some .local) (hl : (py.line == pos.line) = true)
    (ha : (scope.names.any fun (n, k) => n == y && (k == .local || k == .cell)) = false) : swapsWith (.DictComp kx vx gs scope pos) (some (.Name y py)) l env = pure true := by
  have e1 : env.kindOf y = some .local := hy
  have e2 : env.blockKind = .function := by unfold Env.blockKind; rw [hk]; rfl
  unfold swapsWith
  simp only [e1, e2, ha, hl, Expr.pos]
  rfl
theorem ps_setDc {i : Nat} {y : Str} {py : Pos} {kx vx tg iter : Expr} {ifs : List Expr} {scope : Scope} {own : List (Str × Nat)} {pos spos : Pos} {wi : TI} {g : TG} {tt : TT} {tk tv : TE} (calm : X.calm = true) (nd : X.N.Nodup) (at_ : X.N[i]? = some y) (loc : X.env.scope.names.lookup y = some .local)
    (sw : swapsWith (.DictComp kx vx [⟨tg, iter, ifs, 0⟩] scope pos) (some (.Name y py)) spos.line X.env = pure true) (walk : PI X tg iter wi) (ok : BlkOk X.N X.env.scope scope own)
    (bg : InBlk X scope fun Y => PG Y tg g) (bt : InBlk X scope fun Y => PTs Y ifs tt) (bk : InBlk X scope fun Y => PE Y kx tk) (bv : InBlk X scope fun Y => PE Y vx tv) (plain : ∀ x, foldedSetIterable iter X.env x = pure x := by intro _; rfl) :
    PS X (.Assign [.Name y py] (.DictComp kx vx [⟨tg, iter, ifs, 0⟩] scope pos) spos) (tAsg (tDc wi g tt tk tv (own.map (·.2))) (gName i)) := by
  refine ⟨fun ps s σ H D I hyp => ?_⟩
  rw [exec_Assign_Name_used _ _ _ _ sw]
  refine wpAny_bind (wpAny_standAt (wpAny_bind ?_))
  show wpAny _ X.A (do let _ ← comprehension (.DictComp kx vx [⟨tg, iter, ifs, 0⟩] scope pos) scope X.env (firstIterPos [⟨tg, iter, ifs, 0⟩] pos) newDict false (eval iter X.env) (some (assign (.Name y py) X.env))) _ _ s
  have hyp2 : tDc wi g tt tk tv (own.map (·.2)) σ H (fun x G => gName i x σ G D.nx) := hyp
  refine wpAny_bind (thn (dc_core (Qf := fun _ t => SP X ps D .next t) calm nd I walk ok bg bt bk bv plain hyp2 fun L C t m G J fin hn fo => ?_) fun _ t ht => wpAny_pure (wpAny_pure ht))
  show wpAny _ _ (assign (.Name y py) X.env (.ref L)) _ _ _
  refine wpAny_assign_Name (store_ok2 (v := V.ref L) J nd at_ (.inl loc) rfl (fun t2 J2 ⟨b, sb, hb⟩ => ?_) (.inr loc))
  obtain ⟨f0, f1, f2, f3, f4, f5⟩ := fo
  have away : C ≠ b := by
    rcases hb with z | z
    · exact z ▸ f1
    · exact fun e => f4 y b z e.symm
  exact ⟨m, hn.sameBut sb away, fun h3 sb3 => ⟨_, G, J2.turned (t' := t2.toks) (fun c o hc e => (sb3.2 c hc).trans e) f0 f1 f3 f4 f5, fin⟩⟩
end
end L2
/-! ## texts -/
namespace G
open PySem PySem.Spec PyProof.Rows L2 Evl TL
open PySem.StrLaws (At occBody occ_eq occ_first)
open PySem.Builtin.Str (occurrences)
/-- the text of these signs -/
def mk (l : List Nat) : Str := ⟨l.toArray⟩
theorem tl_mkS (l : List Nat) : tl (mk l) = l := rfl
theorem mk_tlS (x : Str) : mk (tl x) = x := mk_tl x
theorem mk_inj {a b : List Nat} : mk a = mk b ↔ a = b := ⟨fun h => by have := congrArg tl h; exact this, fun h => by rw [h]⟩
theorem mk_app (a b : List Nat) : mk a ++ mk b = mk (a ++ b) := ext_tl (by rw [tl_append, tl_mkS, tl_mkS, tl_mkS])
theorem mk_len (a : List Nat) : (mk a).length = a.length := by rw [len_tl, tl_mkS]
theorem mk_one (c : Nat) : (⟨#[c]⟩ : Str) = mk [c] := rfl
theorem decV_str (a b : Str) : decide (V.str a = V.str b) = decide (a = b) := by
  by_cases h : a = b
  · rw [h, decide_eq_true rfl, decide_eq_true rfl]
  · rw [decide_eq_false h, decide_eq_false fun q => h (V.str.inj q)]
theorem decV_mk (a b : List Nat) : decide (V.str (mk a) = V.str (mk b)) = decide (a = b) := by
  rw [decV_str]
  by_cases h : a = b
  · rw [h, decide_eq_true rfl, decide_eq_true rfl]
  · rw [decide_eq_false h, decide_eq_false fun q => h (mk_inj.mp q)]
theorem occ_from (x y : Str) (lo : Nat) : (occurrences x y lo x.length 1 = [] ∧ ∀ k, lo ≤ k → ¬ At x y x.length k) ∨ ∃ k r, occurrences x y lo x.length 1 = k :: r ∧ lo ≤ k ∧ At x y x.length k ∧ ∀ j, lo ≤ j → j < k → ¬ At x y x.length j := by
  rw [occ_eq]
  have hmem : ∀ k, At x y x.length k → lo ≤ k → k ∈ List.range' lo (x.length + 1 - lo) := fun k hk hl => by
    have := hk.1
    simp [List.mem_range'_1]; omega
  rcases occ_first x y x.length 1 (by decide) (List.range' lo (x.length + 1 - lo)) lo (fun i hi => by simp [List.mem_range'_1] at hi; omega) with ⟨h0, hn⟩ | ⟨pr, a, post, e, h0, ha, hn⟩
  · exact .inl ⟨by rw [h0], fun k hl hk => hn k (hmem k hk hl) hk⟩
  · have hal : lo ≤ a := by
      have : a ∈ List.range' lo (x.length + 1 - lo) := by rw [e]; simp
      simp [List.mem_range'_1] at this; omega
    refine .inr ⟨a, ((forIn (List.range' lo (x.length + 1 - lo)) ((#[] : Array Nat), lo) (occBody x y x.length 1)).run.fst.toList).tail, ?_, hal, ha, fun j hl hj hA => ?_⟩
    · generalize (forIn (List.range' lo (x.length + 1 - lo)) ((#[] : Array Nat), lo) (occBody x y x.length 1)).run.fst = arr at h0
      have h1 : arr.toList[0]? = some a := by simpa using h0
      cases hL : arr.toList with
      | nil => rw [hL] at h1; cases h1
      | cons b t => rw [hL] at h1; simp at h1; rw [h1]; rfl
    · have hm := hmem j hA hl
      rw [e] at hm
      have hs : (pr ++ a :: post).Pairwise (· < ·) := by rw [← e]; exact List.pairwise_lt_range'
      rcases List.mem_append.mp hm with z | z
      · exact hn j z hA
      · rcases List.mem_cons.mp z with z | z
        · omega
        · have := (List.pairwise_cons.mp (List.pairwise_append.mp hs).2.1).1 j z
          omega
theorem at_one {x : Str} {c k : Nat} : At x (mk [c]) x.length k ↔ (tl x)[k]? = some c := by
  rw [at_iff (by rw [tl_mkS]; simp), tl_mkS]
  unfold pre
  show (((tl x).drop k).take 1 == [c]) = true ↔ _
  rw [beq_iff_eq]
  have h0 : (tl x)[k]? = ((tl x).drop k)[0]? := by rw [List.getElem?_drop, Nat.add_zero]
  rw [h0]
  cases (tl x).drop k with
  | nil => simp
  | cons d r => simp
theorem find_hit {x : Str} {c i : Nat} {body rest : List Nat} (h : (tl x).drop i = body ++ c :: rest) (hb : c ∉ body) : Txt.find3 x (mk [c]) (i : Int) = ((i + body.length : Nat) : Int) := by
  unfold Txt.find3
  rw [show PySem.fromIndex x.length (i : Int) = i by unfold PySem.fromIndex; rw [if_neg (by omega)]; omega]
  have hat : ∀ j, (tl x)[i + j]? = (body ++ c :: rest)[j]? := fun j => by rw [← h, List.getElem?_drop]
  have hhit : At x (mk [c]) x.length (i + body.length) := at_one.mpr (by rw [hat, List.getElem?_append_right (Nat.le_refl _), Nat.sub_self]; rfl)
  rcases occ_from x (mk [c]) i with ⟨_, hn⟩ | ⟨k, r, e, hl, hA, hn⟩
  · exact absurd hhit (hn _ (by omega))
  · rw [e]
    show ((k : Nat) : Int) = _
    have h1 : ¬ i + body.length < k := fun q => hn _ (by omega) q hhit
    have h2 : ¬ k < i + body.length := fun q => by
      have := at_one.mp hA
      obtain ⟨j, rfl⟩ : ∃ j, k = i + j := ⟨k - i, by omega⟩
      rw [hat, List.getElem?_append_left (by omega)] at this
      exact hb (List.mem_of_getElem? this)
    omega
theorem find_miss {x : Str} {c i : Nat} (h : c ∉ (tl x).drop i) : Txt.find3 x (mk [c]) (i : Int) = -1 := by
  unfold Txt.find3
  rw [show PySem.fromIndex x.length (i : Int) = i by unfold PySem.fromIndex; rw [if_neg (by omega)]; omega]
  rcases occ_from x (mk [c]) i with ⟨e, _⟩ | ⟨k, r, e, hl, hA, hn⟩
  · rw [e]
  · have := at_one.mp hA
    obtain ⟨j, rfl⟩ : ∃ j, k = i + j := ⟨k - i, by omega⟩
    rw [← List.getElem?_drop] at this
    exact absurd (List.mem_of_getElem? this) h
theorem starts_at {x y : Str} {i : Nat} (hy : tl y ≠ []) : Txt.startswith3 x y (i : Int) = pre (tl y) ((tl x).drop i) := by
  unfold Txt.startswith3
  rw [show PySem.fromIndex x.length (i : Int) = i by unfold PySem.fromIndex; rw [if_neg (by omega)]; omega]
  have h := at_iff (x := x) hy i
  unfold At at h
  rw [Bool.eq_iff_iff, Bool.and_eq_true, decide_eq_true_iff]
  exact h
theorem pre_iff {S L : List Nat} : pre S L = true ↔ ∃ r, L = S ++ r := by
  unfold pre
  rw [beq_iff_eq]
  constructor
  · intro h; exact ⟨L.drop S.length, by conv => lhs; rw [← List.take_append_drop S.length L, h]⟩
  · rintro ⟨r, rfl⟩; exact List.take_left' rfl
/-- the signs of x from i to j -/
theorem cut_nat {x : Str} {i j : Nat} (hi : i ≤ j) (hj : j ≤ x.length) : cutS x (some (i : Int)) (some (j : Int)) = mk (((tl x).drop i).take (j - i)) := by
  unfold cutS
  have e1 : HT.sIx x.length 0 (some (i : Int)) = i := by rw [HT.sIx_nat]; omega
  have e2 : HT.sIx x.length x.length (some (j : Int)) = j := by rw [HT.sIx_nat]; omega
  rw [e1, e2]; rfl
section
variable {tt : TT} {te : TE} {vs : List Nat} {σ : L2.St} {H1 : Hp} {D : Addr} {Qd : Hp → Prop} {j : Nat}
theorem lcSm {z : Str} (g : Nat → V) (hn : z.length ≤ 100000) (hw : ∀ x, wipe ((wipe σ vs).set j (some x)) vs = wipe σ vs)
    (he : ∀ (i c : Nat) (H : Hp), (tl z)[i]? = some c → H = upd H1 D (.lst (((tl z).take i).map g)) → Val te ((wipe σ vs).set j (some (.str (mk [c])))) H (g c)) (q : Qd (upd H1 D (.lst ((tl z).map g)))) :
    ∃ W : Nat → Nat → Hp → Prop, (∃ m, W 0 m (upd H1 D (.lst []))) ∧ ∀ i m H, W i m H →
      ((Its z).stop i H ∧ Qd H) ∨ ((Its z).go i H ∧ ∃ Nx : Hp → Prop, (∀ H', Nx H' → ∃ m', m' < m ∧ W (i + 1) m' H') ∧ ∀ x H', (Its z).yld i H x H' → gName j x (wipe σ vs) H' fun σ2 H2 => wipe σ2 vs = wipe σ vs ∧ tYes σ2 H2 fun b H3 =>
        if b = true then te σ2 H3 fun y H4 => ∃ acc, H4 D = some (.lst acc) ∧ acc.length < sizeLine ∧ Nx (upd H4 D (.lst (acc ++ [y]))) else Nx H3) :=
  lc_it walk_str (fun i H => H = upd H1 D (.lst (((tl z).take i).map g))) (by rw [List.take_zero]; rfl) (fun _ _ _ _ => trivial)
    (fun i x H H' hi e y => by
      obtain ⟨rfl, c, hc, rfl⟩ := y
      have hc' : (tl z)[i]? = some c := by rw [← hc]; simp [tl]
      refine ⟨hw _, ?_⟩
      refine iteT (B := H' = upd H1 D (.lst (((tl z).take (i + 1)).map g))) ?_
      refine he i c H' hc' e _ ?_
      subst e
      refine ⟨_, upd_same, sz_lt ?_, ?_⟩
      · rw [List.length_map, List.length_take]; have := (List.getElem?_eq_some_iff.mp hc').1; rw [len_tl] at hn; omega
      · rw [upd_upd, List.take_add_one, hc', List.map_append]; rfl)
    (fun H e => by
      have en : z.cps.size = (tl z).length := by simp [tl]
      rw [e, en, List.take_length]; exact q)
end
end G
namespace G
open PySem PySem.Spec PyProof.Rows L2
def topS (i : Nat) : Stmt := PySem.Challenge.pw_signoff_k08_depth_and_order_of_errors.main.body.getD i (.Pass ⟨0, 0, 0, 0⟩)
abbrev s_wall : Stmt := topS 0
abbrev s_BadToken_init : Stmt := inClass (topS 3) 0
abbrev s_BadSyntax_init : Stmt := inClass (topS 4) 0
abbrev s_tokenize : Stmt := topS 13
abbrev s_is_name : Stmt := topS 14
abbrev s_is_numeral : Stmt := topS 15
abbrev s_is_word : Stmt := topS 16
abbrev s_token_at : Stmt := topS 17
abbrev s_run_end : Stmt := topS 18
abbrev s_line_end : Stmt := topS 19
abbrev s_height : Stmt := topS 21
abbrev s_operands : Stmt := topS 22
abbrev s_postorder : Stmt := topS 23
abbrev s_TokenReader_init : Stmt := inClass (topS 29) 0
abbrev s_TokenReader_ahead : Stmt := inClass (topS 29) 1
abbrev s_TokenReader_take : Stmt := inClass (topS 29) 2
abbrev s_TokenReader_take_if : Stmt := inClass (topS 29) 3
abbrev s_TokenReader_take_name : Stmt := inClass (topS 29) 4
abbrev s_TokenReader_take_numeral : Stmt := inClass (topS 29) 5
abbrev s_TokenReader_take_bit : Stmt := inClass (topS 29) 6
abbrev s_TokenReader_take_end : Stmt := inClass (topS 29) 7
abbrev s_parse_expression : Stmt := topS 30
abbrev s_reader : Stmt := topS 31
abbrev s_check_brackets : Stmt := topS 32
abbrev s_check_height : Stmt := topS 33
abbrev s_expression : Stmt := topS 34
abbrev s_factor : Stmt := topS 35
abbrev s_atom : Stmt := topS 36
abbrev s_law_pool : Stmt := topS 38
abbrev s_law_spread : Stmt := topS 39
abbrev s_law_draw : Stmt := topS 40
abbrev s_law_same : Stmt := topS 41
abbrev s_law_word : Stmt := topS 42
abbrev s_law_told : Stmt := topS 43
abbrev s_law_boxes : Stmt := topS 44
abbrev s_law_nots : Stmt := topS 45
abbrev s_law_chain : Stmt := topS 46
abbrev s_law : Stmt := topS 47
end G
namespace G
open PySem PySem.Spec PyProof.Rows L2 Evl
structure TxtL (mg : Str → Option Value) : Prop where
  int : mg "int" = none
  len : mg "len" = none
  list : mg "list" = none
  range : mg "range" = none
section
variable {P : Program} {w : World} {K : PySem.W.Frag} {mg : Str → Option Value} {base : Heap}
def spSpread : Sp := fun vs H Q _ => ∃ (c : Int), vs = [.int c] ∧ ∀ v : Int, Q (.int v) H
theorem sc_law_spread : FnScope ["cell", "mixed", "total", "k"] ["cell"] (defScope s_law_spread) := ⟨rfl, rfl, rfl, by decide +kernel, rfl, by decide +kernel, by decide +kernel⟩
theorem ok_law_spread (D : Dfd K mg "_law_spread" s_law_spread ["cell"]) (T : TxtL mg) : Has P w K mg base 1 "_law_spread" ["cell"] spSpread := by
  refine D.has fun f fd F => F.ok sc_law_spread (fun vs H Q E h => ?_) (fun cdv A outer s H vs Q E hr h => ?_)
  · obtain ⟨c, rfl, _⟩ := h
    rfl
  · obtain ⟨c, rfl, q⟩ := h
    refine ⟨_, (pss_cons (ps_set (i := 1) sc_law_spread.nd rfl (.inl rfl) (pe_op op_mod (pe_callTy call_int1 (by rfl) T.int (by decide +kernel) (pa_cons (pv 0) pa_nil)) pe_int))
      (pss_cons (ps_set (i := 2) sc_law_spread.nd rfl (.inl rfl) pe_int)
      (pss_cons (ps_for PassesOwn.never rfl (pi_range1 rfl T.range (pa_cons pe_int pa_nil)) (pg_name (i := 3) sc_law_spread.nd rfl (.inl rfl))
        (pss_cons (ps_set (i := 1) sc_law_spread.nd rfl (.inl rfl) (pe_op op_mod (pe_callTy call_int1 (by rfl) T.int (by decide +kernel) (pa_cons (pe_op op_add (pe_op op_add (pe_op op_mul (pv 1) pe_int) pe_int) (pv 3)) pa_nil)) pe_int))
        (pss_one (ps_set (i := 2) sc_law_spread.nd rfl (.inl rfl) (pe_op op_add (pe_op op_mul (pv 2) pe_int) (pv 1))))))
      (pss_one (ps_ret (pv 2)))))), ?_⟩
    refine ⟨_, rfl, .inl ⟨_, rfl, _, _, rfl, rfl, (by show (0 : Int) < 2147483647; decide), 4, rfl, by decide, by decide, for_range (n := 4) (fun _ σ H' => H' = H ∧ ∃ (x y : Int) (z : Option V), σ = [some (.int c), some (.int x), some (.int y), z]) ⟨rfl, _, _, _, rfl⟩ ?_ ?_⟩⟩
    · rintro i σ H' hi ⟨rfl, x, y, z, rfl⟩
      refine ⟨_, rfl, _, _, rfl, rfl, .inr ⟨by decide, by decide⟩, _, _, rfl, rfl, _, rfl, _, _, rfl, rfl, .inl ⟨_, rfl, _, _, rfl, rfl, (by show (0 : Int) < 2147483647; decide), _, rfl, _, _, rfl, rfl, .inr ⟨by decide, by decide⟩, _, rfl, _, _, rfl, rfl, rfl, _, _, _, rfl⟩⟩
    · rintro σ H' ⟨rfl, x, y, z, rfl⟩
      exact ⟨_, rfl, q y⟩
/-- a draw below n -/
def spDraw : Sp := fun vs H Q _ => ∃ (p a : Addr) (n : Int), vs = [.ref p, .int n] ∧ 0 < n ∧ n.natAbs.log2 < 9000 ∧ PoolOk p a H ∧ ∀ (v : Int) (o : HO), 0 ≤ v → v < n → PoolOk p a (upd H p o) → Q (.int v) (upd H p o)
theorem sc_law_draw : FnScope ["pool", "many", "cell", "mixed", "value"] ["pool", "many"] (defScope s_law_draw) := ⟨rfl, rfl, rfl, by decide +kernel, rfl, by decide +kernel, by decide +kernel⟩
theorem ok_law_draw (D : Dfd K mg "_law_draw" s_law_draw ["pool", "many"]) (T : TxtL mg) (C : Has P w K mg base 1 "_law_spread" ["cell"] spSpread) : Has P w K mg base 2 "_law_draw" ["pool", "many"] spDraw := by
  obtain ⟨f_law_spread, d_law_spread, G_law_spread, g_law_spread, k_law_spread, b_law_spread⟩ := C
  refine D.has fun f fd F => F.ok sc_law_draw (fun vs H Q E h => ?_) (fun cdv A outer s H vs Q E hr h => ?_)
  · obtain ⟨p, a, n, rfl, _⟩ := h
    rfl
  · obtain ⟨p, a, n, rfl, n0, n9, hp, q⟩ := h
    refine ⟨_, (pss_cut (ps_if (PW.pt (pw_and (pt_cmpR op_le (pe_ix ix_list (pv 0) pe_int (fun _ _ => rfl)) pe_int (nomark _)) (pw_and1 (pt_cmpR op_lt (pe_ix ix_list (pv 0) pe_int (fun _ _ => rfl)) (pe_callB call_len_seq (by rfl) T.len (by decide +kernel) (pa_cons (pe_ix ix_list (pv 0) pe_int (fun _ _ => rfl)) pa_nil)) (nomark _)))))
      (pss_cons (ps_set (i := 2) sc_law_draw.nd rfl (.inl rfl) (pe_ix ix_list (pe_ix ix_list (pv 0) pe_int (fun _ _ => rfl)) (pe_ix ix_list (pv 0) pe_int (fun _ _ => rfl)) (fun _ _ => rfl)))
      (pss_cons (ps_asg (pe_op op_add (pe_ix ix_list (pv 0) pe_int (fun _ _ => rfl)) pe_int) (pg_sub (pv 0) pe_int set_list))
      (pss_cons (ps_asg (pv 2) (pg_sub (pv 0) pe_int set_list))
      (pss_one (ps_if (pt_cmpR op_lt (pv 2) pe_int (nomark _))
        (pss_one (ps_asg (pe_call G_law_spread hr (by rfl) g_law_spread k_law_spread b_law_spread .nil pass0 (pa_cons (pv 2) pa_nil)) (pg_sub (pv 0) pe_int set_list)))
        pss_nil)))))
      pss_nil)
    (pss_cons (ps_asg (pe_op op_add (pe_ix ix_list (pv 0) pe_int (fun _ _ => rfl)) pe_int) (pg_sub (pv 0) pe_int set_list))
    (pss_cons (ps_if (pt_cmpR op_le (pe_ix ix_list (pv 0) pe_int (fun _ _ => rfl)) pe_int (nomark _))
      (pss_cons (ps_set (i := 3) sc_law_draw.nd rfl (.inl rfl) (pe_op op_mod (pe_callTy call_int1 (by rfl) T.int (by decide +kernel) (pa_cons (pe_op op_add (pe_op op_add (pe_op op_mul (pe_ix ix_list (pv 0) pe_int (fun _ _ => rfl)) pe_int) (pe_op op_mul (pe_ix ix_list (pv 0) pe_int (fun _ _ => rfl)) pe_int)) pe_int) pa_nil)) pe_int))
      (pss_cons (ps_set (i := 3) sc_law_draw.nd rfl (.inl rfl) (pe_op op_mod (pe_callTy call_int1 (by rfl) T.int (by decide +kernel) (pa_cons (pe_op op_add (pe_op op_mul (pv 3) pe_int) (pe_ix ix_list (pv 0) pe_int (fun _ _ => rfl))) pa_nil)) pe_int))
      (pss_one (ps_ret (pe_op op_mod (pe_op op_fdiv (pv 3) pe_int) (pv 1))))))
      pss_nil)
    (pss_cons (ps_set (i := 4) sc_law_draw.nd rfl (.inl rfl) (pe_op op_mod (pe_callTy call_int1 (by rfl) T.int (by decide +kernel) (pa_cons (pe_ix ix_list (pv 0) pe_int (fun _ _ => rfl)) pa_nil)) (pv 1)))
    (pss_cons (ps_asg (pe_op op_fdivW (pe_ix ix_list (pv 0) pe_int (fun _ _ => rfl)) (pv 1)) (pg_sub (pv 0) pe_int set_list))
    (pss_one (ps_ret (pv 4)))))))), ?_⟩
    obtain ⟨ns, i, c, k, s5, hl, ha, hn⟩ := hp
    have hap : a ≠ p := hid_neq ha
    have haH := hid_get ha
    -- the pool as it stands after writes
    have pk : ∀ (i' : Nat) (c' k' s' : Int), PoolOk p a (upd H p (.lst [.ref a, .int i', .int c', .int k', .int s'])) := fun i' c' k' s' =>
      ⟨ns, i', c', k', s', upd_same, by rw [hid_upd]; exact ha, hn⟩
    refine ⟨fun σ H' => ∃ (i' : Nat) (c' k' s' : Int) (o1 : Option V), σ = [some (.ref p), some (.int n), o1, none, none] ∧ H' p = some (.lst [.ref a, .int i', .int c', .int k', .int s']) ∧ (∀ o, upd H' p o = upd H p o), ?_, ?_⟩
    · refine ⟨_, rfl, _, _, _, _, rfl, rfl, SqL.of hl, atI_nat (j := 2) rfl, _, _, rfl, rfl, _, rfl, ite2 (fun e1 => ?_) (fun e1 => ?_)⟩
      · refine ⟨_, rfl, _, _, _, _, rfl, rfl, SqL.of hl, atI_nat (j := 1) rfl, _, rfl, _, _, _, _, rfl, rfl, SqL.of hl, atI_nat (j := 0) rfl, _, _, rfl, .inl (SqL.of haH), _, _, rfl, rfl, _, rfl, ite2 (fun e2 => ?_) (fun e2 => ?_)⟩
        · have hi : i < (ns.map V.int).length := by have := of_decide_eq_true e2; omega
          have hi' : i < ns.length := by rw [List.length_map] at hi; exact hi
          have gi : (ns.map V.int)[i]? = some (.int ns[i]) := by rw [List.getElem?_map, List.getElem?_eq_getElem hi']; rfl
          refine ⟨_, rfl, _, _, _, _, rfl, rfl, SqL.of hl, atI_nat (j := 0) rfl, _, rfl, _, _, _, _, rfl, rfl, SqL.of hl, atI_nat (j := 1) rfl, _, _, _, _, rfl, rfl, SqL.of haH, atI_nat gi, ?_⟩
          refine ⟨_, rfl, _, _, _, _, rfl, rfl, SqL.of hl, atI_nat (j := 1) rfl, _, _, rfl, rfl, _, rfl, _, _, _, 1, rfl, rfl, hl, rfl, ?_⟩
          refine ⟨_, rfl, _, rfl, _, _, _, 2, rfl, rfl, upd_same, rfl, ?_⟩
          refine ⟨_, rfl, _, _, rfl, rfl, _, rfl, ite2 (fun e3 => ?_) (fun e3 => ?_)⟩
          · refine ⟨_, rfl, _, rfl, fun v => ⟨_, rfl, _, _, _, 2, rfl, rfl, upd_same, rfl, ?_⟩⟩
            exact ⟨i + 1, v, k, s5, _, rfl, upd_same, fun o => by rw [upd_upd, upd_upd, upd_upd]⟩
          · exact ⟨i + 1, ns[i], k, s5, _, rfl, upd_same, fun o => by rw [upd_upd, upd_upd]⟩
        · exact ⟨i, c, k, s5, _, rfl, hl, fun _ => rfl⟩
      · exact iteF ⟨i, c, k, s5, _, rfl, hl, fun _ => rfl⟩
    · rintro σ H' ⟨i, c, k, s5, o1, rfl, hl', hu⟩
      refine ⟨_, rfl, _, _, _, _, rfl, rfl, SqL.of hl', atI_nat (j := 3) rfl, _, _, rfl, rfl, _, rfl, _, _, _, 3, rfl, rfl, hl', rfl, ?_⟩
      refine ⟨_, rfl, _, _, _, _, rfl, rfl, SqL.of upd_same, atI_nat (j := 2) rfl, _, _, rfl, rfl, _, rfl, ite2 (fun e1 => ?_) (fun e1 => ?_)⟩
      · refine ⟨_, rfl, _, _, _, _, rfl, rfl, SqL.of upd_same, atI_nat (j := 4) rfl, _, _, rfl, rfl, .inr ⟨by decide, by decide⟩, _, rfl, _, _, _, _, rfl, rfl, SqL.of upd_same, atI_nat (j := 3) rfl, _, _, rfl, rfl, .inr ⟨by decide, by decide⟩, _, _, rfl, rfl, _, _, rfl, rfl, .inl ⟨_, rfl, _, _, rfl, rfl, (by show (0 : Int) < 2147483647; decide), ?_⟩⟩
        refine ⟨_, rfl, _, _, rfl, rfl, .inr ⟨by decide, by decide⟩, _, rfl, _, _, _, _, rfl, rfl, SqL.of upd_same, atI_nat (j := 3) rfl, _, _, rfl, rfl, .inl ⟨_, rfl, _, _, rfl, rfl, (by show (0 : Int) < 2147483629; decide), ?_⟩⟩
        refine ⟨_, rfl, _, _, rfl, rfl, ⟨by decide, by decide⟩, _, rfl, _, _, rfl, rfl, n0, ?_⟩
        show Q _ _
        rw [hu]
        exact q _ _ (Int.emod_nonneg _ (by omega)) (Int.emod_lt_of_pos _ n0) (pk i c (k + 1) s5)
      · refine ⟨_, rfl, _, _, _, _, rfl, rfl, SqL.of upd_same, atI_nat (j := 2) rfl, .inl ⟨_, rfl, _, rfl, _, _, rfl, rfl, n0, ?_⟩⟩
        refine ⟨_, rfl, _, _, _, _, rfl, rfl, SqL.of upd_same, atI_nat (j := 2) rfl, _, rfl, _, _, rfl, rfl, ⟨n0, n9⟩, _, rfl, _, _, _, 2, rfl, rfl, upd_same, rfl, _, rfl, ?_⟩
        show Q _ _
        rw [upd_upd, hu]
        exact q _ _ (Int.emod_nonneg _ (by omega)) (Int.emod_lt_of_pos _ n0) (pk i (c / n) (k + 1) s5)
/-- the same, the heap behind it a letter -/
def spDrawX : Sp := fun vs H Q _ => ∃ (p a : Addr) (n : Int), vs = [.ref p, .int n] ∧ 0 < n ∧ n ≤ 2 ^ 70 ∧ PoolOk p a H ∧ ∀ (v : Nat) (H' : Hp), (v : Int) < n → Px p a H H' → (∀ b, b ≠ p → H' b = H b) → Q (.int v) H'
theorem log2_small {n : Int} (h0 : 0 < n) (h : n ≤ 2 ^ 70) : n.natAbs.log2 < 9000 := by
  have h1 : n.natAbs < 2 ^ 71 := by omega
  have := PySem.Flt.log2_lt_of (by decide : 0 < 71) h1
  omega
theorem drawX (C : Has P w K mg base 2 "_law_draw" ["pool", "many"] spDraw) : Has P w K mg base 2 "_law_draw" ["pool", "many"] spDrawX :=
  C.imp fun vs H Q E h => by
    obtain ⟨p, a, n, rfl, h0, h1, hp, q⟩ := h
    refine ⟨p, a, n, rfl, h0, log2_small h0 h1, hp, fun v o v0 v1 hq => ?_⟩
    have e : v = ((v.toNat : Nat) : Int) := by omega
    rw [e]
    exact q v.toNat _ (by omega) (Px.draw hp hq) fun b hb => upd_ne hb
end
end G
namespace G
open PySem PySem.Spec PyProof.Rows L2 Evl
/-! ## data -/
inductive D where
  | non | bl (b : Bool) | int (i : Int) | str (s : Str) | tup (l : List D) | lst (l : List D)
def okD : Nat → D → Prop
  | 0, .tup _ => False
  | 0, .lst _ => False
  | n + 1, .tup l => l.length < 2 ^ 61 ∧ ∀ d ∈ l, okD n d
  | n + 1, .lst l => l.length < 2 ^ 61 ∧ ∀ d ∈ l, okD n d
  | _, _ => True
inductive Rep (H : Hp) : V → D → Prop where
  | non : Rep H .non .non
  | bl (b : Bool) : Rep H (.bl b) (.bl b)
  | int (i : Int) : Rep H (.int i) (.int i)
  | str (s : Str) : Rep H (.str s) (.str s)
  | tup {a : Addr} {xs : List V} {ds : List D} (h : H a = some (.tup xs)) (hl : xs.length = ds.length) (hr : ∀ (i : Nat) (x : V) (d : D), xs[i]? = some x → ds[i]? = some d → Rep H x d) : Rep H (.ref a) (.tup ds)
  | lst {a : Addr} {xs : List V} {ds : List D} (h : H a = some (.lst xs)) (hl : xs.length = ds.length) (hr : ∀ (i : Nat) (x : V) (d : D), xs[i]? = some x → ds[i]? = some d → Rep H x d) : Rep H (.ref a) (.lst ds)
theorem Rep.ex {H H' : Hp} (e : Ex H H') {x : V} {d : D} (r : Rep H x d) : Rep H' x d := by
  induction r with
  | non => exact .non
  | bl b => exact .bl b
  | int i => exact .int i
  | str s => exact .str s
  | tup h hl _ ih => exact .tup (e _ _ h) hl ih
  | lst h hl _ ih => exact .lst (e _ _ h) hl ih
theorem okD.mono : ∀ {n m : Nat} {d : D}, n ≤ m → okD n d → okD m d
  | 0, 0, d, _, h => h
  | 0, m + 1, .non, _, _ => trivial
  | 0, m + 1, .bl _, _, _ => trivial
  | 0, m + 1, .int _, _, _ => trivial
  | 0, m + 1, .str _, _, _ => trivial
  | 0, m + 1, .tup _, _, h => h.elim
  | 0, m + 1, .lst _, _, h => h.elim
  | n + 1, m + 1, .non, _, _ => trivial
  | n + 1, m + 1, .bl _, _, _ => trivial
  | n + 1, m + 1, .int _, _, _ => trivial
  | n + 1, m + 1, .str _, _, _ => trivial
  | n + 1, m + 1, .tup l, le, h => ⟨h.1, fun d hd => okD.mono (Nat.le_of_succ_le_succ le) (h.2 d hd)⟩
  | n + 1, m + 1, .lst l, le, h => ⟨h.1, fun d hd => okD.mono (Nat.le_of_succ_le_succ le) (h.2 d hd)⟩
structure TxtS (mg : Str → Option Value) : Prop where
  isinstance : mg "isinstance" = none
  tuple : mg "tuple" = none
  list : mg "list" = none
  len : mg "len" = none
  range : mg "range" = none
  bool : mg "bool" = none
  int : mg "int" = none
  str : mg "str" = none
section
variable {P : Program} {w : World} {K : PySem.W.Frag} {mg : Str → Option Value} {base : Heap}
/-- equal data: the answer is True -/
def spSame : Nat → Sp
  | 0 => fun _ _ _ _ => False
  | n + 1 => fun vs H Q _ => ∃ (x y : V) (d : D), vs = [x, y] ∧ Rep H x d ∧ Rep H y d ∧ okD n d ∧ Q (.bl true) H
theorem sc_law_same : FnScope ["actual", "due", "k"] ["actual", "due"] (defScope s_law_same) := ⟨rfl, rfl, rfl, by decide +kernel, rfl, by decide +kernel, by decide +kernel⟩
theorem fn_law_same {f : Addr} {fd : FuncData} (F : Fun K "_law_same" "_law_same" s_law_same f fd) (g_law_same : mg "_law_same" = some (.ref f)) (b_law_same : Binds K fd ["actual", "due"] []) (T : TxtS mg) : ∀ n, FnOk P w K mg base CX0 n f fd ["actual", "due"] (spSame n)
  | 0 => ⟨fun _ _ _ _ h => h.elim, fun _ _ _ _ _ _ _ _ _ _ _ _ _ h => h.elim⟩
  | n + 1 => by
    have G_law_same := fn_law_same F g_law_same b_law_same T n
    have k_law_same := F.kp
    refine F.ok sc_law_same (fun vs H Q E h => ?_) (fun cdv A outer s H vs Q E hr h => ?_)
    · obtain ⟨x, y, d, rfl, _⟩ := h
      rfl
    · obtain ⟨x, y, d, rfl, rx, ry, hd, q⟩ := h
      refine ⟨_, (pss_cons (ps_if (PW.pt (pw_or (pt_val (pe_callB call_isi (by rfl) T.isinstance (by decide +kernel) (pa_cons (pv 1) (pa_cons (pe_bltn (v := .ty "tuple") (by rfl) T.tuple (by decide +kernel) rfl) pa_nil)))) (pw_or1 (pt_val (pe_callB call_isi (by rfl) T.isinstance (by decide +kernel) (pa_cons (pv 1) (pa_cons (pe_bltn (v := .ty "list") (by rfl) T.list (by decide +kernel) rfl) pa_nil)))))))
      (pss_cons (ps_if (PW.pt (pw_or (pt_cmpR op_ne (pe_callB call_isi (by rfl) T.isinstance (by decide +kernel) (pa_cons (pv 1) (pa_cons (pe_bltn (v := .ty "tuple") (by rfl) T.tuple (by decide +kernel) rfl) pa_nil))) (pe_callB call_isi (by rfl) T.isinstance (by decide +kernel) (pa_cons (pv 0) (pa_cons (pe_bltn (v := .ty "tuple") (by rfl) T.tuple (by decide +kernel) rfl) pa_nil))) (nomark _)) (pw_or1 (pt_cmpR op_ne (pe_callB call_isi (by rfl) T.isinstance (by decide +kernel) (pa_cons (pv 1) (pa_cons (pe_bltn (v := .ty "list") (by rfl) T.list (by decide +kernel) rfl) pa_nil))) (pe_callB call_isi (by rfl) T.isinstance (by decide +kernel) (pa_cons (pv 0) (pa_cons (pe_bltn (v := .ty "list") (by rfl) T.list (by decide +kernel) rfl) pa_nil))) (nomark _)))))
        (pss_one (ps_ret pe_bl))
        pss_nil)
      (pss_cons (ps_if (pt_cmpR op_ne (pe_callB call_len_seq (by rfl) T.len (by decide +kernel) (pa_cons (pv 0) pa_nil)) (pe_callB call_len_seq (by rfl) T.len (by decide +kernel) (pa_cons (pv 1) pa_nil)) (nomark _))
        (pss_one (ps_ret pe_bl))
        pss_nil)
      (pss_cons (ps_for PassesOwn.never rfl (pi_range1 rfl T.range (pa_cons (pe_callB call_len_seq (by rfl) T.len (by decide +kernel) (pa_cons (pv 1) pa_nil)) pa_nil)) (pg_name (i := 2) sc_law_same.nd rfl (.inl rfl))
        (pss_one (ps_if (pt_not (pt_val (pe_call G_law_same hr (by rfl) g_law_same k_law_same b_law_same .nil pass0 (pa_cons (pe_ix ix_seq (pv 0) (pv 2) (fun _ _ => rfl)) (pa_cons (pe_ix ix_seq (pv 1) (pv 2) (fun _ _ => rfl)) pa_nil)))))
          (pss_one (ps_ret pe_bl))
          pss_nil)))
      (pss_one (ps_ret pe_bl)))))
      pss_nil)
    (pss_cons (ps_if (pt_cmpR op_isN (pv 1) pe_non (nomark _))
      (pss_one (ps_ret (pe_cmpR op_isN (pv 0) pe_non (nomark _))))
      pss_nil)
    (pss_cons (ps_if (pt_val (pe_callB call_isi (by rfl) T.isinstance (by decide +kernel) (pa_cons (pv 1) (pa_cons (pe_bltn (v := .ty "bool") (by rfl) T.bool (by decide +kernel) rfl) pa_nil))))
      (pss_one (ps_ret (pe_and (pe_callB call_isi (by rfl) T.isinstance (by decide +kernel) (pa_cons (pv 0) (pa_cons (pe_bltn (v := .ty "bool") (by rfl) T.bool (by decide +kernel) rfl) pa_nil))) (pe_one (pe_cmpR op_eq (pv 0) (pv 1) (nomark _))))))
      pss_nil)
    (pss_cons (ps_if (pt_val (pe_callB call_isi (by rfl) T.isinstance (by decide +kernel) (pa_cons (pv 1) (pa_cons (pe_bltn (v := .ty "int") (by rfl) T.int (by decide +kernel) rfl) pa_nil))))
      (pss_one (ps_ret (pe_and (pe_callB call_isi (by rfl) T.isinstance (by decide +kernel) (pa_cons (pv 0) (pa_cons (pe_bltn (v := .ty "int") (by rfl) T.int (by decide +kernel) rfl) pa_nil))) (pe_and (pe_not (pe_callB call_isi (by rfl) T.isinstance (by decide +kernel) (pa_cons (pv 0) (pa_cons (pe_bltn (v := .ty "bool") (by rfl) T.bool (by decide +kernel) rfl) pa_nil)))) (pe_one (pe_cmpR op_eq (pv 0) (pv 1) (nomark _)))))))
      pss_nil)
    (pss_one (ps_ret (pe_and (pe_callB call_isi (by rfl) T.isinstance (by decide +kernel) (pa_cons (pv 0) (pa_cons (pe_bltn (v := .ty "str") (by rfl) T.str (by decide +kernel) rfl) pa_nil))) (pe_one (pe_cmpR op_eq (pv 0) (pv 1) (nomark _)))))))))), ?_⟩
      cases rx with
      | non =>
        cases ry
        refine ⟨_, rfl, _, _, _, _, _, rfl, .ty "tuple", .base .non, kit_ty (a := "NoneType") (r := false) (by decide +kernel), _, rfl, iteF ⟨_, rfl, _, _, _, _, _, rfl, .ty "list", .base .non, kit_ty (a := "NoneType") (r := false) (by decide +kernel), _, rfl, iteF ⟨_, rfl, rfl, _, rfl, iteT ⟨_, rfl, rfl, ?_⟩⟩⟩⟩
        exact q
      | bl b =>
        cases ry
        refine ⟨_, rfl, _, _, _, _, _, rfl, .ty "tuple", .base (.bl _), kit_ty (a := "bool") (r := false) (by decide +kernel), _, rfl, iteF ⟨_, rfl, _, _, _, _, _, rfl, .ty "list", .base (.bl _), kit_ty (a := "bool") (r := false) (by decide +kernel), _, rfl, iteF ⟨_, rfl, rfl, _, rfl, iteF ⟨_, rfl, _, _, _, _, _, rfl, .ty "bool", .base (.bl _), kit_ty (a := "bool") (r := true) (by decide +kernel), _, rfl, iteT ⟨_, rfl, _, _, _, _, _, rfl, .ty "bool", .base (.bl _), kit_ty (a := "bool") (r := true) (by decide +kernel), _, rfl, iteT ⟨_, rfl, _, rfl, rfl, ?_⟩⟩⟩⟩⟩⟩
        rw [decide_eq_true rfl]
        exact q
      | int b =>
        cases ry
        refine ⟨_, rfl, _, _, _, _, _, rfl, .ty "tuple", .base (.int _), kit_ty (a := "int") (r := false) (by decide +kernel), _, rfl, iteF ⟨_, rfl, _, _, _, _, _, rfl, .ty "list", .base (.int _), kit_ty (a := "int") (r := false) (by decide +kernel), _, rfl, iteF ⟨_, rfl, rfl, _, rfl, iteF ⟨_, rfl, _, _, _, _, _, rfl, .ty "bool", .base (.int _), kit_ty (a := "int") (r := false) (by decide +kernel), _, rfl, iteF ⟨_, rfl, _, _, _, _, _, rfl, .ty "int", .base (.int _), kit_ty (a := "int") (r := true) (by decide +kernel), _, rfl, iteT ⟨_, rfl, _, _, _, _, _, rfl, .ty "int", .base (.int _), kit_ty (a := "int") (r := true) (by decide +kernel), _, rfl, iteT ⟨_, rfl, _, _, _, _, _, rfl, .ty "bool", .base (.int _), kit_ty (a := "int") (r := false) (by decide +kernel), _, rfl, _, rfl, iteT ⟨_, rfl, _, rfl, rfl, ?_⟩⟩⟩⟩⟩⟩⟩⟩
        rw [decide_eq_true rfl]
        exact q
      | str b =>
        cases ry
        refine ⟨_, rfl, _, _, _, _, _, rfl, .ty "tuple", .base (.str _), kit_ty (a := "str") (r := false) (by decide +kernel), _, rfl, iteF ⟨_, rfl, _, _, _, _, _, rfl, .ty "list", .base (.str _), kit_ty (a := "str") (r := false) (by decide +kernel), _, rfl, iteF ⟨_, rfl, rfl, _, rfl, iteF ⟨_, rfl, _, _, _, _, _, rfl, .ty "bool", .base (.str _), kit_ty (a := "str") (r := false) (by decide +kernel), _, rfl, iteF ⟨_, rfl, _, _, _, _, _, rfl, .ty "int", .base (.str _), kit_ty (a := "str") (r := false) (by decide +kernel), _, rfl, iteF ⟨_, rfl, _, _, _, _, _, rfl, .ty "str", .base (.str _), kit_ty (a := "str") (r := true) (by decide +kernel), _, rfl, iteT ⟨_, rfl, _, rfl, rfl, ?_⟩⟩⟩⟩⟩⟩⟩
        rw [decide_eq_true rfl]
        exact q
      | @tup a xs ds hx lx rx =>
        cases ry with
        | @tup b ys _ hy ly ry =>
          cases n with
          | zero => exact hd.elim
          | succ m =>
            obtain ⟨hlen, hall⟩ := hd
            refine ⟨_, rfl, _, _, _, _, _, rfl, .ty "tuple", .base (.tup hy), kit_ty (a := "tuple") (r := true) (by decide +kernel), _, rfl, iteT (iteT ⟨_, rfl, _, _, _, _, _, rfl, .ty "tuple", .base (.tup hy), kit_ty (a := "tuple") (r := true) (by decide +kernel), _, rfl, _, _, _, _, _, rfl, .ty "tuple", .base (.tup hx), kit_ty (a := "tuple") (r := true) (by decide +kernel), rfl, _, rfl, iteF ⟨_, rfl, _, _, _, _, _, rfl, .ty "list", .base (.tup hy), kit_ty (a := "tuple") (r := false) (by decide +kernel), _, rfl, _, _, _, _, _, rfl, .ty "list", .base (.tup hx), kit_ty (a := "tuple") (r := false) (by decide +kernel), rfl, _, rfl, iteF ⟨_, rfl, _, _, rfl, .inr (SqT.of hx), _, rfl, _, _, rfl, .inr (SqT.of hy), rfl, _, rfl, ?_⟩⟩⟩)⟩
            have el : decide (V.int (xs.length : Int) = V.int (ys.length : Int)) = true := decide_eq_true (by rw [lx, ly])
            rw [el]
            refine ⟨_, rfl, _, _, rfl, .inr (SqT.of hy), _, rfl, by omega, by omega, for_range (n := (ys.length : Int).toNat) (fun _ σ H' => H' = H ∧ ∃ z : Option V, σ = [some (.ref a), some (.ref b), z]) ⟨rfl, _, rfl⟩ ?_ ?_⟩
            · rintro i σ H' hi ⟨rfl, z, rfl⟩
              have hi' : i < ds.length := by omega
              have e0 : (0 : Int) + (i : Int) = (i : Int) := Int.zero_add _
              have g1 : xs[i]? = some xs[i] := List.getElem?_eq_getElem (by omega)
              have g2 : ys[i]? = some ys[i] := List.getElem?_eq_getElem (by omega)
              have g3 : ds[i]? = some ds[i] := List.getElem?_eq_getElem hi'
              rw [e0]
              refine ⟨_, rfl, _, rfl, .inr (.inl ⟨_, _, _, _, rfl, rfl, SqT.of hx, atI_nat g1, _, rfl, _, rfl, .inr (.inl ⟨_, _, _, _, rfl, rfl, SqT.of hy, atI_nat g2, ?_⟩)⟩)⟩
              exact ⟨_, _, ds[i], rfl, rx i _ _ g1 g3, ry i _ _ g2 g3, hall _ (List.getElem_mem hi'), _, rfl, rfl, _, rfl⟩
            · rintro σ H' ⟨rfl, z, rfl⟩
              exact q
      | @lst a xs ds hx lx rx =>
        cases ry with
        | @lst b ys _ hy ly ry =>
          cases n with
          | zero => exact hd.elim
          | succ m =>
            obtain ⟨hlen, hall⟩ := hd
            refine ⟨_, rfl, _, _, _, _, _, rfl, .ty "tuple", .base (.lst hy), kit_ty (a := "list") (r := false) (by decide +kernel), _, rfl, iteF ⟨_, rfl, _, _, _, _, _, rfl, .ty "list", .base (.lst hy), kit_ty (a := "list") (r := true) (by decide +kernel), _, rfl, iteT ⟨_, rfl, _, _, _, _, _, rfl, .ty "tuple", .base (.lst hy), kit_ty (a := "list") (r := false) (by decide +kernel), _, rfl, _, _, _, _, _, rfl, .ty "tuple", .base (.lst hx), kit_ty (a := "list") (r := false) (by decide +kernel), rfl, _, rfl, iteF ⟨_, rfl, _, _, _, _, _, rfl, .ty "list", .base (.lst hy), kit_ty (a := "list") (r := true) (by decide +kernel), _, rfl, _, _, _, _, _, rfl, .ty "list", .base (.lst hx), kit_ty (a := "list") (r := true) (by decide +kernel), rfl, _, rfl, iteF ⟨_, rfl, _, _, rfl, .inl (SqL.of hx), _, rfl, _, _, rfl, .inl (SqL.of hy), rfl, _, rfl, ?_⟩⟩⟩⟩⟩
            have el : decide (V.int (xs.length : Int) = V.int (ys.length : Int)) = true := decide_eq_true (by rw [lx, ly])
            rw [el]
            refine ⟨_, rfl, _, _, rfl, .inl (SqL.of hy), _, rfl, by omega, by omega, for_range (n := (ys.length : Int).toNat) (fun _ σ H' => H' = H ∧ ∃ z : Option V, σ = [some (.ref a), some (.ref b), z]) ⟨rfl, _, rfl⟩ ?_ ?_⟩
            · rintro i σ H' hi ⟨rfl, z, rfl⟩
              have hi' : i < ds.length := by omega
              have e0 : (0 : Int) + (i : Int) = (i : Int) := Int.zero_add _
              have g1 : xs[i]? = some xs[i] := List.getElem?_eq_getElem (by omega)
              have g2 : ys[i]? = some ys[i] := List.getElem?_eq_getElem (by omega)
              have g3 : ds[i]? = some ds[i] := List.getElem?_eq_getElem hi'
              rw [e0]
              refine ⟨_, rfl, _, rfl, .inl ⟨_, _, _, _, rfl, rfl, SqL.of hx, atI_nat g1, _, rfl, _, rfl, .inl ⟨_, _, _, _, rfl, rfl, SqL.of hy, atI_nat g2, ?_⟩⟩⟩
              exact ⟨_, _, ds[i], rfl, rx i _ _ g1 g3, ry i _ _ g2 g3, hall _ (List.getElem_mem hi'), _, rfl, rfl, _, rfl⟩
            · rintro σ H' ⟨rfl, z, rfl⟩
              exact q
theorem ok_law_same (D : Dfd K mg "_law_same" s_law_same ["actual", "due"]) (T : TxtS mg) (n : Nat) : Has P w K mg base n "_law_same" ["actual", "due"] (spSame n) := by
  obtain ⟨f, fd, F, g, b⟩ := D
  exact ⟨f, fd, fn_law_same F g b T n, g, F.kp, b⟩
end
/-! ## data made of flat lists -/
theorem rep_map {H : Hp} {α : Type} {f : α → V} {g : α → D} {l : List α} (h : ∀ x, Rep H (f x) (g x)) : (l.map f).length = (l.map g).length ∧ ∀ (i : Nat) (x : V) (d : D), (l.map f)[i]? = some x → (l.map g)[i]? = some d → Rep H x d := by
  refine ⟨by rw [List.length_map, List.length_map], fun i x d hx hd => ?_⟩
  rw [List.getElem?_map] at hx hd
  cases e : l[i]? with
  | none => rw [e] at hx; cases hx
  | some y =>
    rw [e] at hx hd
    have e1 : f y = x := Option.some.inj hx
    have e2 : g y = d := Option.some.inj hd
    rw [← e1, ← e2]
    exact h y
theorem rep_ints {H : Hp} {a : Addr} {l : List Int} (h : H a = some (.lst (l.map V.int))) : Rep H (.ref a) (.lst (l.map D.int)) :=
  let r := rep_map (H := H) (f := V.int) (g := D.int) (l := l) fun i => .int i
  .lst h r.1 r.2
theorem rep_bls {H : Hp} {a : Addr} {l : List Bool} (h : H a = some (.tup (l.map V.bl))) : Rep H (.ref a) (.tup (l.map D.bl)) :=
  let r := rep_map (H := H) (f := V.bl) (g := D.bl) (l := l) fun i => .bl i
  .tup h r.1 r.2
theorem okD_ints {l : List Int} (h : l.length < 2 ^ 61) : okD 1 (.lst (l.map D.int)) := ⟨by rw [List.length_map]; exact h, fun d hd => by obtain ⟨_, _, rfl⟩ := List.mem_map.mp hd; trivial⟩
end G
namespace G
open PySem PySem.Spec PyProof.Rows L2 Evl
section
variable {P : Program} {w : World} {K : PySem.W.Frag} {mg : Str → Option Value} {base : Heap}
theorem cutV_mem {xs : List V} {lo hi : Option Int} {i : Nat} {x : V} (h : (cutV xs lo hi)[i]? = some x) : x ∈ xs := by
  unfold cutV at h
  exact List.mem_of_mem_drop (List.mem_of_mem_take (List.mem_of_getElem? h))
theorem int_of {ns : List Int} {x : V} (h : x ∈ ns.map V.int) : ∃ z, x = .int z := by
  obtain ⟨z, _, e⟩ := List.mem_map.mp h
  exact ⟨z, e.symm⟩
def spPool (K : PySem.W.Frag) : Sp := fun vs H Q _ => ∃ (s : Addr) (ns : List Int), vs = [.ref s] ∧ SqL K H s (ns.map V.int) ∧ ns.length ≤ 1000 ∧ ∀ (p a : Addr) (H' : Hp), PoolOk p a H' → Ex H H' → H p = none → Q (.ref p) H'
theorem sc_law_pool : FnScope ["script", "salt", "cell"] ["script"] (defScope s_law_pool) := ⟨rfl, rfl, rfl, by decide +kernel, rfl, by decide +kernel, by decide +kernel⟩
theorem ok_law_pool (D : Dfd K mg "_law_pool" s_law_pool ["script"]) (T : TxtL mg) : Has P w K mg base 1 "_law_pool" ["script"] (spPool K) := by
  refine D.has fun f fd F => F.ok sc_law_pool (fun vs H Q E h => ?_) (fun cdv A outer s H vs Q E hr h => ?_)
  · obtain ⟨c, _, rfl, _⟩ := h
    rfl
  · obtain ⟨sa, ns, rfl, hs, hn, q⟩ := h
    refine ⟨_, (pss_cons (ps_set (i := 1) sc_law_pool.nd rfl (.inl rfl) pe_int)
      (pss_cons (ps_for PassesOwn.never rfl (pi_list (pe_slice sl_list (pv 0) po_none (po_some pe_int))) (pg_name (i := 2) sc_law_pool.nd rfl (.inl rfl))
        (pss_one (ps_set (i := 1) sc_law_pool.nd rfl (.inl rfl) (pe_op op_mod (pe_callTy call_int1 (by rfl) T.int (by decide +kernel) (pa_cons (pe_op op_add (pe_op op_mul (pv 1) pe_int) (pv 2)) pa_nil)) pe_int))))
      (pss_one (ps_ret (pe_lst (pa_cons (pe_callTy call_list_of (by rfl) T.list (by decide +kernel) (pa_cons (pv 0) pa_nil)) (pa_cons pe_int (pa_cons pe_int (pa_cons pe_int (pa_cons (pv 1) pa_nil)))))))))), ?_⟩
    refine ⟨_, rfl, _, rfl, sa, _, rfl, hs, fun c nc => ⟨c, rfl, ⟨_, SqL.of upd_same⟩, for_list (K := K) (a := c) (xs := cutV (ns.map V.int) none (some 63)) (fun _ σ H' => H' = upd H c (.lst (cutV (ns.map V.int) none (some 63))) ∧ ∃ (x : Int) (z : Option V), σ = [some (.ref sa), some (.int x), z]) ⟨rfl, _, _, rfl⟩ ?_ ?_ ?_⟩⟩
    · rintro i σ H' _ ⟨rfl, _⟩
      exact SqL.of upd_same
    · rintro i x σ H' hi ⟨rfl, y, z, rfl⟩
      obtain ⟨m, rfl⟩ := int_of (cutV_mem hi)
      exact ⟨_, rfl, _, _, rfl, rfl, .inr ⟨by decide, by decide⟩, _, rfl, _, _, rfl, rfl, .inl ⟨_, rfl, _, _, rfl, rfl, (by show (0 : Int) < 1000003; decide), rfl, _, _, rfl⟩⟩
    · rintro σ H' ⟨rfl, y, z, rfl⟩
      have e1 : Ex H (upd H c (.lst (cutV (ns.map V.int) none (some 63)))) := Ex.new nc
      refine ⟨_, rfl, _, _, rfl, .inl (ex_l e1 hs), fun l nl => ⟨_, rfl, (by show 5 ≤ sizeLine; decide), fun p np => ?_⟩⟩
      have e2 := e1.trans (Ex.new (o := .lst (ns.map V.int)) nl)
      have npl : l ≠ p := ne_of_none upd_same np
      exact q p l _ ⟨ns, 0, 0, 0, y, upd_same, by rw [hid_ne npl, upd_ne npl]; exact upd_same, hn⟩ (e2.trans (Ex.new np)) (fresh_back e2 np)
end
end G
namespace G
open PySem PySem.Spec PyProof.Rows L2 Evl
/-! ## own classes of errors -/
def HasX (P : Program) (w : World) (K : PySem.W.Frag) (mg : Str → Option Value) (base : Heap) (k : Nat) (x : Str) (ps : List Str) (sp : Sp) : Prop :=
  ∃ (f : Addr) (fd : FuncData), FnOk P w K mg base (L2.CX P w) k f fd ps sp ∧ mg x = some (.ref f) ∧ PySem.W.keepIn K (.ref f) = true ∧ Binds K fd ps []
theorem passX0 {X : Cx} {P : Program} {w : World} : Passes (L2.CX P w) X (fun _ _ _ => False) := fun _ _ _ _ _ _ _ h => by
  obtain ⟨_, _, _, _, _, _, _, _, _, _, _, _, h⟩ := h
  exact h.elim
/-- an own class over ValueError without __init__, at C -/
structure ExcT (K : PySem.W.Frag) (mg : Str → Option Value) (x : Str) (C : Addr) : Prop where
  gC : mg x = some (.ref C)
  xP : PySem.W.excIn K C [.type "ValueError", .type "Exception", .type "BaseException", .type "object"] "ValueError.__new__" = true
  kC : PySem.W.keepIn K (.ref C) = true
  bC : PySem.W.subIn K (.ref C) (.type "BaseException") = some true
  tC : PySem.W.typeIn K (.ref C) = some (.type "type")
/-- what an except clause asks of the class that it names -/
structure ExcH (K : PySem.W.Frag) (mg : Str → Option Value) (x : Str) (C : Addr) : Prop where
  u : ExcT K mg x C
  dict : PySem.W.hasDictIn K C = true
  self : PySem.W.subIn K (.ref C) (.ref C) = some true
theorem ExcH.hit {K : PySem.W.Frag} {mg : Str → Option Value} {x : Str} {C : Addr} (U : ExcH K mg x C) : PySem.W.exmOne K (.ref C) (.ref C) = some true := PySem.W.exm_ref U.u.bC U.dict U.u.tC U.self
end G
namespace G
open PySem PySem.Spec PyProof.Rows L2 Evl
/-! ## methods of built-in types within a suite: the written part by its letter -/
theorem kBm {X : Cx} {K : PySem.W.Frag} {T name id : String} {r : V → List V → Hp → VK → Prop} {o e : Expr} {es : List Expr} {to_ : TE} {t : TA} {apos cpos : Pos} (h : X.K = K) (p1 : PlainAttrs T) (p2 : Slot T name id) (p3 : typeOf (.builtin id) = pure (.type "method_descriptor")) (p4 : MtR X id r) (p5 : PE X o to_) (p6 : PA X (e :: es) t)
    (p7 : attributeBase o name X.env (eval o X.env) = eval o X.env := by rfl) (p8 : ((backTo cpos (starEach (e :: es) X.env)).all (fun x => !x.1) && (backToKw cpos (keywordEach [] X.env)).all (fun x => x.1.isSome) && decide ((e :: es).length + ([] : List Keyword).length + (if ([] : List Keyword).isEmpty then 0 else 1) < 30)) = true := by rfl)
    (p9 : (apos.endLine == cpos.line) = true := by rfl) (p10 : starEach (e :: es) X.env = (false, eval e X.env) :: starEach es X.env := by rfl) (p11 : (backTo cpos (starEach es X.env)).any (·.1) = false := by rfl) : PE X (.Call (.Attribute o name apos) (e :: es) [] cpos) (tBM K T r to_ t) := by
  subst h
  exact pe_bm p1 p2 p3 p4 p5 p6 p7 p8 p9 p10 p11
theorem kMtIndex {X : Cx} {K : PySem.W.Frag} (h : X.K = K) : MtR X "list.index" (rIndex K) := by subst h; exact mt_index
end G
namespace G
open PySem PySem.Spec PyProof.Rows L2 Evl
/-! ## own errors: caught by name or by a class above, asked for their class -/
structure ExcI (K : PySem.W.Frag) (mg : Str → Option Value) (x : Str) (C : Addr) : Prop where
  u : ExcT K mg x C
  dict : PySem.W.hasDictIn K C = true
  self : PySem.W.subIn K (.ref C) (.ref C) = some true
  isc : ExcC K C
def IsK (K : PySem.W.Frag) (mg : Str → Option Value) (C : Addr) (d : Str) (b : Bool) : Prop := ∃ D : Addr, mg d = some (.ref D) ∧ PySem.W.kitOne K (.ref C) (.ref D) = some b
def CatchK (K : PySem.W.Frag) (mg : Str → Option Value) (C : Addr) (s : Str) : Prop := ∃ D : Addr, mg s = some (.ref D) ∧ PySem.W.exmOne K (.ref C) (.ref D) = some true
theorem ExcI.hit {K : PySem.W.Frag} {mg : Str → Option Value} {x : Str} {C : Addr} (U : ExcI K mg x C) : PySem.W.exmOne K (.ref C) (.ref C) = some true := PySem.W.exm_ref U.u.bC U.dict U.u.tC U.self
theorem IsK.at_ {K : PySem.W.Frag} {mg : Str → Option Value} {C D : Addr} {d : Str} {b : Bool} (h : IsK K mg C d b) (g : mg d = some (.ref D)) : PySem.W.kitOne K (.ref C) (.ref D) = some b := by
  obtain ⟨D', g', k⟩ := h
  rw [g] at g'
  cases g'; exact k
theorem CatchK.at_ {K : PySem.W.Frag} {mg : Str → Option Value} {C D : Addr} {s : Str} (h : CatchK K mg C s) (g : mg s = some (.ref D)) : PySem.W.exmOne K (.ref C) (.ref D) = some true := by
  obtain ⟨D', g', k⟩ := h
  rw [g] at g'
  cases g'; exact k
theorem pe_ex {X : Cx} {e : Expr} {α : Type} {p : α → Prop} {t : α → TE} (h : ∀ x, p x → PE X e (t x)) : PE X e (fun σ H Q => ∃ x, p x ∧ t x σ H Q) := by
  refine ⟨fun ps s σ H Q I z => ?_⟩
  obtain ⟨x, px, hx⟩ := z
  exact (h x px).run ps s σ H Q I hx
/-- isinstance of the error that the suite holds: whichever own error it is -/
theorem pe_isE {X : Cx} {a : Addr} {oe : Obj} {pn : List (Addr × Obj)} {cls : Value} {dd : Option Addr} {e : Expr} {t : Addr → TE} (hz : Zc cls dd oe) (hf : ∃ vs, oe.data = .fields vs)
    (h : ∀ D : Addr, Zc (.ref D) none oe → ExcC X.K D → PE (X.suite a ((a, oe) :: pn)) e (t D)) : PE (X.suite a ((a, oe) :: pn)) e (fun σ H Q => ∃ D : Addr, (cls = .ref D ∧ dd = none ∧ ExcC X.K D) ∧ t D σ H Q) :=
  pe_ex (p := fun D => cls = .ref D ∧ dd = none ∧ ExcC X.K D) fun D z => by
    obtain ⟨rfl, rfl, ic⟩ := z
    exact h D hz ic
/-! ## methods and classes called where what is raised is taken at the slots -/
section
variable {X : Cx} {CX : CXT} {k : Nat} {f C : Addr} {fd : FuncData} {ps : List Str} {sp : Sp} {dvs : List V} {ds : List Value} {E : L2.St → XK} {x m : Str} {p pos apos : Pos} {e o : Expr} {es : List Expr} {to_ : TE} {t : TA}
def tMethX (C : Addr) (m : Str) (sp : Sp) (dvs : List V) (E : L2.St → XK) (to_ : TE) (t : TA) : TE := fun σ H Q => to_ σ H fun x H1 => ∃ a dx fs, x = .ref a ∧ H1 a = some (.ins C dx fs) ∧ fs.lookup m = none ∧ t σ H1 fun vs H2 => sp (x :: (vs ++ dvs)) H2 Q (E σ)
def tMakeX (C : Addr) (sp : Sp) (dvs : List V) (E : L2.St → XK) (t : TA) : TE := fun σ H Q => t σ H fun vs H1 => ∀ x dx, H1 x = none → H1 dx = none → dx ≠ x → sp (.ref x :: (vs ++ dvs)) (upd (upd H1 dx (.own x)) x (.ins C dx [])) (fun v H2 => v = .non ∧ Q (.ref x) H2) (E σ)
theorem pe_methX {pl : Sem Bool} (ho : PE X o to_) (cc : Cls X.K C) (mm : Meth X.K C m f) (Fk : FnOk X.prog X.w X.K X.mg X.base CX k f fd ps sp) (rm : Room k X.A) (bd : Binds X.K fd ps ds) (dv : Vals dvs ds)
    (px : ∀ σ, PassesAt CX X σ (E σ)) (pa : PA X (e :: es) t) (s1 : starEach (e :: es) X.env = (false, eval e X.env) :: starEach es X.env := by rfl) (s2 : (backTo pos (starEach es X.env)).any (·.1) = false := by rfl)
    (s3 : eval (.Call (.Attribute o m apos) (e :: es) [] pos) X.env = (do let ov ← eval o X.env; standAt apos.atName; let (f, first) ← holding [ov] (getMethod ov m pl); callWith pos f first (backTo pos (starEach (e :: es) X.env)) (backToKw pos (keywordEach [] X.env))) := by rfl) :
    PE X (.Call (.Attribute o m apos) (e :: es) [] pos) (tMethX C m sp dvs E to_ t) := by
  refine ⟨fun pins st σ H Q I z => PySem.W.methodCall_KW (pl := pl) (thn (ho.run pins st σ H _ I z) fun q0 st1 ⟨y, H1, I1, ry, b, dx, fl, ey, eb, lk, z1⟩ => ?_) s3⟩
  subst ey
  cases (show q0 = Value.ref b from ry)
  exact getmeth_ok I1 eb cc mm lk (PySem.W.callWith_K (first := [.ref b]) (h₀ := X.base) I.ok.mod.kin mm.kp (thn (pa.run pos pins st1 σ H1 _ I1 z1) fun ws st2 ⟨vs, H2, I2, rs, z2⟩ => ⟨I2.kIn, run_fnSD (us := .ref b :: ws) (vs := .ref b :: vs) Fk rm bd dv (px σ) I2 (.cons rfl rs) z2⟩) s1 s2)
theorem run_makeX {pins : List (Addr × Obj)} {σ : L2.St} {H : Hp} {st : Shared} {Q : VK} {us : List Value} {vs : List V} (M : Mk X.K C f) (Fk : FnOk X.prog X.w X.K X.mg X.base CX k f fd ps sp) (rm : Room (k + 1) X.A) (bd : Binds X.K fd ps ds) (dv : Vals dvs ds)
    (px : PassesAt CX X σ (E σ)) (I : Inv X pins σ H st) (rs : Vals vs us)
    (z : ∀ x dx, H x = none → H dx = none → dx ≠ x → sp (.ref x :: (vs ++ dvs)) (upd (upd H dx (.own x)) x (.ins C dx [])) (fun v H2 => v = .non ∧ Q (.ref x) H2) (E σ)) :
    wpAny (model X.prog X.w) X.A (call (.ref C) us) (EP X pins σ Q) X.xe st := by
  have z1 := z (st.heap.objs.size + 1) st.heap.objs.size (I.hok.fresh (Nat.le_succ _)) (I.hok.fresh (Nat.le_refl _)) (Nat.ne_of_lt (Nat.lt_succ_self _))
  have J := Inv.made (C := C) I
  have rr : Vals (V.ref (st.heap.objs.size + 1) :: (vs ++ dvs)) (Value.ref (st.heap.objs.size + 1) :: (us ++ ds)) := .cons rfl (rs.append dv)
  have len : (Value.ref (st.heap.objs.size + 1) :: us ++ ds).length = ps.length := (rr.length.symm.trans (Fk.len _ _ _ _ z1))
  refine wpAny_call (make_map (f := f) I.kIn M.makes M.init (beq_iff_eq.mp M.fn) (codeAny_mono (Fk.run _ X.stack _ _ ⟨Value.ref (st.heap.objs.size + 1) :: us, []⟩ (Value.ref (st.heap.objs.size + 1) :: (us ++ ds)) _ _ (E σ) (rm.make C us []) (J.env0.make C us []) (bd _ (Value.ref (st.heap.objs.size + 1) :: us) J.kIn len) rr z1) fun r st' h => ?_))
  match r, h with
  | .error er, h => exact px pins _ _ er st' J h
  | .ok (.ret u), h =>
    obtain ⟨v, H', I3, rv, ev, q3⟩ := J.after h
    subst ev
    exact ⟨rv, ⟨V.ref (st.heap.objs.size + 1), H', I3, rfl, q3⟩⟩
  | .ok .next, h => exact h.elim
  | .ok .brk, h => exact h.elim
  | .ok .cont, h => exact h.elim
theorem pe_makeX (M : Mk X.K C f) (Fk : FnOk X.prog X.w X.K X.mg X.base CX k f fd ps sp) (rm : Room (k + 1) X.A) (gl : Gl X x) (gm : X.mg x = some (.ref C)) (bd : Binds X.K fd ps ds) (dv : Vals dvs ds) (px : ∀ σ, PassesAt CX X σ (E σ)) (pa : PA X (e :: es) t)
    (s0 : (x == ("__debug__" : Str)) = false := by decide) (s1 : starEach (e :: es) X.env = (false, eval e X.env) :: starEach es X.env := by rfl) (s2 : (backTo pos (starEach es X.env)).any (·.1) = false := by rfl) : PE X (.Call (.Name x p) (e :: es) [] pos) (tMakeX C sp dvs E t) :=
  ⟨fun pins st σ H Q I z => wpAny_Call_Name_kw (ld_glob I gl gm (PySem.W.callWith_K (h₀ := X.base) I.ok.mod.kin M.kp (thn (pa.run pos pins st σ H _ I z) fun us st1 ⟨vs, H1, I1, r, q⟩ => ⟨I1.kIn, run_makeX M Fk rm bd dv (px σ) I1 r q⟩) s1 s2) s0)⟩
end
end G
namespace G
open PySem PySem.Spec PyProof.Rows L2
/-! ## isinstance(e, (A, B)) of the error that a suite holds -/
theorem vals_of_refs : ∀ {bs : List Addr} {us : List Value}, Vals (bs.map V.ref) us → us = bs.map Value.ref
  | [], _, r => by cases r; rfl
  | b :: bs, _, r => by
    cases r with
    | cons h t =>
      rw [List.map_cons, ← vals_of_refs t]
      cases h
      rfl
def rIsET (K : PySem.W.Frag) (D a : Addr) : List V → Hp → VK → Prop := fun xs H Q => ∃ (tp : Addr) (cs : List Addr) (b : Bool), xs = [.ref a, .ref tp] ∧ SqT K H tp (cs.map V.ref) ∧ PySem.W.kitAny K (.ref D) (cs.map Value.ref) = some b ∧ Q (.bl b) H
theorem call_isET {X : Cx} {a D : Addr} {oe : Obj} {pn : List (Addr × Obj)} (C : ExcC X.K D) (hz : Zc (.ref D) none oe) (hf : ∃ vs, oe.data = .fields vs) : CallR (X.suite a ((a, oe) :: pn)) (.builtin "isinstance") (rIsET X.K D a) := by
  intro pins s σ H xs us Q I r h
  obtain ⟨tp, cs, b, rfl, hq, e, q⟩ := h
  obtain rfl : us = [.ref a, .ref tp] := vals_of_refs (bs := [a, tp]) r
  obtain ⟨hget, _⟩ := I.pin (a, oe) (List.mem_append.mpr (.inl List.mem_cons_self))
  obtain ⟨its, rv, ⟨⟨oc, od, oda, osl⟩, ho, hcl, n, hdt⟩, _⟩ := I.tuple hq
  obtain rfl := vals_of_refs rv
  dsimp only at hcl hdt
  subst hcl hdt
  obtain ⟨vs, hv⟩ := hf
  have J : PySem.W.InstAt s.heap a oe D none := by
    obtain ⟨oc, od, oda, osl⟩ := oe
    obtain ⟨h1, h2⟩ := hz
    dsimp only at h1 h2 hv
    subst h1 h2 hv
    exact ⟨hget, rfl, rfl, trivial⟩
  exact PySem.W.kia_tup (PySem.W.handS_kitx_exc C.hg C.hk C.hs C.hd C.ha C.hn C.ht C.hm) I.kIn J ho e (fun z => nomatch z) fun tk => ⟨.bl b, H, I.kept (t' := tk) fun _ _ z => z, rfl, q⟩
end G
namespace G
open PySem PySem.Spec PyProof.Rows L2 Evl
/-! ## own errors with a field: made, raised, asked for their class, their field read -/
/-- a look at the class -/
def oexB (K : PySem.W.Frag) (C : Addr) : Bool := match K.lookup C with
  | some ⟨.type "type", _, .cls cd, ⟨[_, _, _, _, some (.builtin n), _]⟩⟩ => (match cd.mro with
    | .ref C' :: bm => decide (C' = C) && (decide (n = "ValueError.__new__") && (!cd.hasDel && (cd.hasDict && PySem.HandSPX.refsVE bm)))
    | _ => false)
  | _ => false
theorem oexB_ok {K : PySem.W.Frag} {C : Addr} (h : oexB K C = true) : ∃ nm q N bs bm sn sub ab col dd k0 k1 k2 k3 k5, K.lookup C = some (excClassObj nm q C N bs bm true sn sub ab col dd k0 k1 k2 k3 k5 "ValueError.__new__") ∧ PySem.HandSPX.refsVE bm = true := by
  unfold oexB at h
  split at h
  · rename_i dd cd k0 k1 k2 k3 n k5 hl
    obtain ⟨nm, bs, mro, N, q, hd, sn, sub, ab, col, del⟩ := cd
    dsimp only at h
    split at h
    · rename_i C' bm
      simp only [Bool.and_eq_true, decide_eq_true_eq, Bool.not_eq_true'] at h
      obtain ⟨h1, h2, h3, h4, h5⟩ := h
      subst h1 h2 h3 h4
      exact ⟨nm, q, N, bs, bm, sn, sub, ab, col, dd, k0, k1, k2, k3, k5, hl, h5⟩
    · cases h
  · cases h
/-- an own error class whose `__init__(self, f)` says super().__init__(..) and keeps f -/
structure ErrF (P : Program) (K : PySem.W.Frag) (mg : Str → Option Value) (x qual : Str) (C f : Addr) (fd : FuncData) (st : Stmt) (fld : Str) : Prop where
  gC : mg x = some (.ref C)
  sup : ∃ file : Str, SUP.SupT K mg C f fd qual (defArgs st) (defBody st) (defScope st) file ∧ ((P.main.file : Str) == file) = true
  top : (P.main.scope.names.lookup ("super" : Str)).isSome = false
  bd : Binds K fd ["self", fld] []
  no : PySem.W.findIn K (.ref C) fld = some none
  isc : ExcC K C
/-- what such an `__init__` does -/
def spErr (C : Addr) (fld : Str) (ok : V → Hp → Prop) : Sp := fun vs H Q _ => ∃ (a : Addr) (y : V), vs = [.ref a, y] ∧ H a = some (exo a C none) ∧ ok y H ∧ ∀ d, H d = none → d ≠ a → Q .non (upd (upd H d (exd d [(fld, y)])) a (exo a C (some d)))
/-- a class that may be made: its `__init__` keeps this -/
structure Own1 (P : Program) (w : World) (K : PySem.W.Frag) (mg : Str → Option Value) (base : Heap) (x fld : Str) (C f : Addr) (fd : FuncData) (ok : V → Hp → Prop) : Prop where
  gC : mg x = some (.ref C)
  oex : OexC K C
  ini : PySem.W.findIn K (.ref C) "__init__" = some (some (.ref f))
  tI : PySem.W.typeIn K (.ref f) = some (.type "function")
  fn : FnOk P w K mg base CX0 1 f fd ["self", fld] (spErr C fld ok)
  bd : Binds K fd ["self", fld] []
theorem pmk_own1 {X : Cx} {x fld : Str} {C f : Addr} {fd : FuncData} {ok : V → Hp → Prop} {p pos : Pos} {e : Expr} {es : List Expr} {ta : TA} (O : Own1 X.prog X.w X.K X.mg X.base x fld C f fd ok) (hr : Room 2 X.A) (hg : Gl X x) (ha : PA X (e :: es) ta)
    (hdb : (x == ("__debug__" : Str)) = false := by decide) (he : starEach (e :: es) X.env = (false, eval e X.env) :: starEach es X.env := by rfl) (hpl : (backTo pos (starEach es X.env)).any (·.1) = false := by rfl) :
    PMk X (.Call (.Name x p) (e :: es) [] pos) (tMkO C (spErr C fld ok) [] ta) :=
  pmk_oex O.oex O.ini O.tI O.fn hr O.bd .nil pass0 hg O.gC ha hdb he hpl
/-- the reading of it, behind its argument -/
theorem mk1 {C : Addr} {fld : Str} {ok : V → Hp → Prop} {y : V} {H1 : Hp} {Q : XK} {E : XK} (hok : ∀ a, H1 a = none → ok y (upd H1 a (exo a C none))) (q : ∀ d, H1 d = none → Q (.ref C) (some d) (upd H1 d (.xd [(fld, y)]))) :
    [y].length ≤ 1000 ∧ ∀ a, H1 a = none → spErr C fld ok (.ref a :: ([y] ++ [])) (upd H1 a (exo a C none))
      (fun v H2 => v = .non ∧ ∃ (d : Addr) (fs : List (Str × V)), H2 a = some (exo a C (some d)) ∧ H2 d = some (exd d fs) ∧ H1 d = none ∧ Q (.ref C) (some d) (upd (del H2 a) d (.xd fs))) E := by
  refine ⟨(by show 1 ≤ 1000; decide), fun a na => ⟨a, y, rfl, upd_same, hok a na, fun d nd hda => ⟨rfl, d, [(fld, y)], upd_same, ?_, ?_, ?_⟩⟩⟩
  · rw [upd_ne hda, upd_same]
  · rw [upd_ne hda] at nd; exact nd
  · have nd' : H1 d = none := by rw [upd_ne hda] at nd; exact nd
    have e : upd (del (upd (upd (upd H1 a (exo a C none)) d (exd d [(fld, y)])) a (exo a C (some d))) a) d (.xd [(fld, y)]) = upd H1 d (.xd [(fld, y)]) := by
      funext b
      by_cases h1 : b = d
      · rw [h1, upd_same, upd_same]
      · rw [upd_ne h1, upd_ne h1]
        by_cases h2 : b = a
        · rw [h2, del_same, na]
        · rw [del_ne h2, upd_ne h2, upd_ne h1, upd_ne h2]
    rw [e]
    exact q d nd'
section
variable {X : Cx} {a D : Addr} {oe : Obj} {pn : List (Addr × Obj)} {dd : Option Addr}
/-- a caught error's dict stands -/
def DictS (dd : Option Addr) (H : Hp) : Prop := ∀ d, dd = some d → ∃ fs, H d = some (.xd fs)
def rIsED (K : PySem.W.Frag) (D a : Addr) (dd : Option Addr) : List V → Hp → VK → Prop := fun xs H Q => DictS dd H ∧ rIsE K D a xs H Q
def rIsETD (K : PySem.W.Frag) (D a : Addr) (dd : Option Addr) : List V → Hp → VK → Prop := fun xs H Q => DictS dd H ∧ rIsET K D a xs H Q
theorem instD {s : Shared} {pins : List (Addr × Obj)} {σ : L2.St} {H : Hp} (I : Inv (X.suite a ((a, oe) :: pn)) pins σ H s) (hz : Zc (.ref D) dd oe) (hf : ∃ vs, oe.data = .fields vs) (hd : DictS dd H) : ∃ od, PySem.W.InstAt s.heap a oe D od := by
  obtain ⟨hget, _⟩ := I.pin (a, oe) (List.mem_append.mpr (.inl List.mem_cons_self))
  obtain ⟨vs, hv⟩ := hf
  cases dd with
  | none => exact ⟨none, hget, hz.1, by unfold PySem.W.notCls; rw [hv] <;> rfl, by rw [hz.2]; trivial⟩
  | some d =>
    obtain ⟨fs, e⟩ := hd d rfl
    have hx : ObjOk X.prog X.w H s.heap d (.xd fs) := I.hok d _ e
    obtain ⟨mA, hns, hr⟩ := hx
    obtain ⟨od, ho, hl⟩ := lookIn_ns hns
    exact ⟨some od, hget, hz.1, by unfold PySem.W.notCls; rw [hv] <;> rfl, by rw [hz.2]; exact ho⟩
theorem kitD {K : PySem.W.Frag} {od : Option Obj} (C : ExcC K D) : PySem.W.KitX K (.ref a) (.ref D) (fun h => PySem.W.InstAt h a oe D od) :=
  PySem.W.kitx_exc (by obtain ⟨cd, hc, _⟩ := PySem.W.any_some C.hd; rw [hc]; rfl) C.hg C.hk C.hs C.ha C.hn C.ht C.hm
theorem call_isED (C : ExcC X.K D) (hz : Zc (.ref D) dd oe) (hf : ∃ vs, oe.data = .fields vs) : CallR (X.suite a ((a, oe) :: pn)) (.builtin "isinstance") (rIsED X.K D a dd) := by
  intro pins s σ H xs us Q I r h
  obtain ⟨hd, c, cv, b, rfl, hcv, e, q⟩ := h
  cases r with
  | cons rx rr =>
    cases rr with
    | cons rt rr =>
      cases rr
      cases rx
      have ec := hcv _ rt
      subst ec
      obtain ⟨od, J⟩ := instD I hz hf hd
      exact PySem.W.kia_one (kitD C) I.kIn J e (fun z => nomatch z) fun tk => ⟨.bl b, H, I.kept (t' := tk) fun _ _ z => z, rfl, q⟩
theorem call_isETD (C : ExcC X.K D) (hz : Zc (.ref D) dd oe) (hf : ∃ vs, oe.data = .fields vs) : CallR (X.suite a ((a, oe) :: pn)) (.builtin "isinstance") (rIsETD X.K D a dd) := by
  intro pins s σ H xs us Q I r h
  obtain ⟨hd, tp, cs, b, rfl, hq, e, q⟩ := h
  obtain rfl : us = [.ref a, .ref tp] := vals_of_refs (bs := [a, tp]) r
  obtain ⟨its, rv, ⟨⟨oc, od0, oda, osl⟩, ho, hcl, n, hdt⟩, _⟩ := I.tuple hq
  obtain rfl := vals_of_refs rv
  dsimp only at hcl hdt
  subst hcl hdt
  obtain ⟨od, J⟩ := instD I hz hf hd
  exact PySem.W.kia_tup (kitD C) I.kIn J ho e (fun z => nomatch z) fun tk => ⟨.bl b, H, I.kept (t' := tk) fun _ _ z => z, rfl, q⟩
theorem pe_isED {cls : Value} {e : Expr} {t : Addr → TE} (hz : Zc cls dd oe) (hf : ∃ vs, oe.data = .fields vs)
    (h : ∀ D : Addr, Zc (.ref D) dd oe → ExcC X.K D → PE (X.suite a ((a, oe) :: pn)) e (t D)) : PE (X.suite a ((a, oe) :: pn)) e (fun σ H Q => ∃ D : Addr, (cls = .ref D ∧ ExcC X.K D) ∧ t D σ H Q) :=
  pe_ex (p := fun D => cls = .ref D ∧ ExcC X.K D) fun D z => by
    obtain ⟨rfl, ic⟩ := z
    exact h D hz ic
end
end G
/-! ## tokens -/
namespace G
open PySem PySem.Spec PyProof.Rows L2 Evl TL
def sLET : Str := "abcdefghijklmnopqrstuvwxyz"
def sDIG : Str := "0123456789"
def sRUN : Str := "abcdefghijklmnopqrstuvwxyz0123456789_"
def kwds : List Str := ["cell", "pin", "module", "gate", "part", "reg", "edge", "out", "setup", "hold", "start"]
def sgns : List Str := ["(", ")", "{", "}", ",", ";", ":", "=", "->", "..", "&", "|", "^", "!"]
def isRun (c : Nat) : Bool := decide (c ∈ tl sRUN)
def isWord (T : List Nat) : Bool := match T with
  | [] => false
  | c :: _ => decide (c ∈ tl sLET) && T.all isRun
def isNum (T : List Nat) : Bool := match T with
  | [] => false
  | c :: _ => decide (T.length ≤ 9) && !(decide (c = 48) && !decide (T = [48])) && T.all fun d => decide (d ∈ tl sDIG)
def isName (T : List Nat) : Bool := isWord T && !decide (mk T ∈ kwds)
/-- a token that is a run -/
def RunTok (T : List Nat) : Prop := T ≠ [] ∧ (∀ c ∈ T, isRun c = true) ∧ (isWord T = true ∨ isNum T = true)
def SgnTok (T : List Nat) : Prop := mk T ∈ sgns
def NoRun (S : List Nat) : Prop := ∀ c r, S = c :: r → isRun c = false
/-- S is a text of these tokens -/
inductive Lx : List Nat → List (List Nat) → Prop where
  | nil : Lx [] []
  | sp {c : Nat} {S : List Nat} {ts : List (List Nat)} (h : c = 32 ∨ c = 10) (r : Lx S ts) : Lx (c :: S) ts
  | com {b S : List Nat} {ts : List (List Nat)} (h : 10 ∉ b) (hs : S = [] ∨ ∃ q, S = 10 :: q) (r : Lx S ts) : Lx (35 :: b ++ S) ts
  | run {T S : List Nat} {ts : List (List Nat)} (h : RunTok T) (hs : NoRun S) (r : Lx S ts) : Lx (T ++ S) (T :: ts)
  | sgn {T S : List Nat} {ts : List (List Nat)} (h : SgnTok T) (r : Lx S ts) : Lx (T ++ S) (T :: ts)
theorem dig_run : ∀ c ∈ tl sDIG, isRun c = true := by decide +kernel
theorem let_run : ∀ c ∈ tl sLET, isRun c = true := by decide +kernel
theorem run_not : isRun 32 = false ∧ isRun 10 = false ∧ isRun 35 = false := by decide +kernel
theorem sgn_facts : ∀ s ∈ sgns, tl s ≠ [] ∧ isRun ((tl s).headD 0) = false ∧ (tl s).headD 0 ≠ 32 ∧ (tl s).headD 0 ≠ 10 ∧ (tl s).headD 0 ≠ 35 ∧ (tl s).length ≤ 2 := by decide +kernel
theorem sgn_apart : ∀ s ∈ sgns, ∀ u ∈ sgns, s ≠ u → pre (tl s) (tl u) = false := by decide +kernel
theorem sgn_of {T : List Nat} (h : SgnTok T) : T ≠ [] ∧ isRun (T.headD 0) = false ∧ T.headD 0 ≠ 32 ∧ T.headD 0 ≠ 10 ∧ T.headD 0 ≠ 35 ∧ T.length ≤ 2 := sgn_facts (mk T) h
/-- where a run ends -/
def RunTo (L : List Nat) (i e : Nat) : Prop := i ≤ e ∧ e ≤ L.length ∧ (∀ k, i ≤ k → k < e → ∀ c, L[k]? = some c → isRun c = true) ∧ (∀ c, L[e]? = some c → isRun c = false)
theorem runTo_eq {L T S : List Nat} {i e : Nat} (h : RunTo L i e) (hL : L.drop i = T ++ S) (hT : ∀ c ∈ T, isRun c = true) (hS : NoRun S) (hi : i ≤ L.length) : e = i + T.length := by
  obtain ⟨h1, h2, h3, h4⟩ := h
  have hat : ∀ j, L[i + j]? = (T ++ S)[j]? := fun j => by rw [← hL, List.getElem?_drop]
  have hlen : L.length = i + (T.length + S.length) := by
    have := congrArg List.length hL
    rw [List.length_drop, List.length_append] at this
    omega
  by_cases c1 : e < i + T.length
  · have he : L[e]? = some T[e - i] := by
      have := hat (e - i)
      rw [show i + (e - i) = e by omega, List.getElem?_append_left (by omega), List.getElem?_eq_getElem (show e - i < T.length by omega)] at this
      exact this
    have := h4 _ he
    rw [hT _ (List.getElem_mem (by omega))] at this
    cases this
  · by_cases c2 : i + T.length < e
    · cases hS' : S with
      | nil => rw [hS'] at hlen; simp at hlen; omega
      | cons c r =>
        have he : L[i + T.length]? = some c := by rw [hat, List.getElem?_append_right (Nat.le_refl _), Nat.sub_self, hS']; rfl
        have := h3 (i + T.length) (by omega) c2 c he
        rw [hS c r hS'] at this
        cases this
    · omega
theorem isWord_mem {T : List Nat} {c : Nat} {r : List Nat} (e : T = c :: r) : isWord T = (decide (c ∈ tl sLET) && T.all isRun) := by subst e; rfl
theorem isNum_mem {T : List Nat} {c : Nat} {r : List Nat} (e : T = c :: r) : isNum T = (decide (T.length ≤ 9) && !(decide (c = 48) && !decide (T = [48])) && T.all fun d => decide (d ∈ tl sDIG)) := by subst e; rfl
theorem inV_strs {k : Str} {l : List Str} : inV (.str k) (l.map V.str) = decide (k ∈ l) := by
  unfold inV
  rw [List.any_map, Bool.eq_iff_iff, List.any_eq_true, decide_eq_true_iff]
  constructor
  · rintro ⟨y, hy, h⟩
    have h' : (y == k) = true := h
    rw [← eq_of_beq h']; exact hy
  · intro h
    exact ⟨k, h, (beq_self_eq_true k : (k == k) = true)⟩
structure TxtK (K : PySem.W.Frag) (mg : Str → Option Value) : Prop where
  len : mg "len" = none
  all : mg "all" = none
  LETTERS : ∃ t, mg "LETTERS" = some (.str sLET t)
  DIGITS : ∃ t, mg "DIGITS" = some (.str sDIG t)
  RUN : ∃ t, mg "RUN_CHARACTERS" = some (.str sRUN t)
  MOST : ∃ t, mg "MOST_DIGITS" = some (.int 9 t)
  KEY : ∃ a, mg "KEYWORDS" = some (.ref a) ∧ ∀ H, SqT K H a (kwds.map V.str)
  SIG : ∃ a, mg "SIGNS" = some (.ref a) ∧ ∀ H, SqT K H a (sgns.map V.str)
section
variable {P : Program} {w : World} {K : PySem.W.Frag} {mg : Str → Option Value} {base : Heap}
def spIsWord : Sp := fun vs H Q _ => ∃ T : List Nat, vs = [.str (mk T)] ∧ T ≠ [] ∧ T.length ≤ 50000 ∧ ∀ H', Ex H H' → Q (.bl (isWord T)) H'
theorem all_bl {l : List Nat} {g : Nat → Bool} : (l.map fun c => V.bl (g c)) = (l.map g).map V.bl := by rw [List.map_map]; rfl
theorem sc_is_word : FnScope ["token", "character"] ["token"] (defScope s_is_word) := ⟨rfl, rfl, rfl, by decide +kernel, rfl, by decide +kernel, by decide +kernel⟩
theorem ok_is_word (D : Dfd K mg "is_word" s_is_word ["token"]) (T : TxtK K mg) : Has P w K mg base 1 "is_word" ["token"] spIsWord := by
  obtain ⟨tL, g_LETTERS⟩ := T.LETTERS
  obtain ⟨tR, g_RUN_CHARACTERS⟩ := T.RUN
  refine D.has fun f fd F => F.ok sc_is_word (fun vs H Q E h => ?_) (fun cdv A outer s H vs Q E hr h => ?_)
  · obtain ⟨T, rfl, _⟩ := h
    rfl
  · obtain ⟨T, rfl, hne, hlen, q⟩ := h
    obtain ⟨c, r, rfl⟩ := List.exists_cons_of_ne_nil hne
    have hs : (mk (c :: r)).length ≤ sizeLine := by rw [mk_len]; exact sz_of (by omega)
    refine ⟨_, (pss_one (ps_ret (pe_and (pe_cmpR op_in_sign (pe_ix ix_str (pv 0) pe_int (fun _ _ => rfl)) (gStr rfl g_LETTERS) rfl) (pe_one (pe_callB (cr_all rfl) (by rfl) T.all (by decide +kernel) (pa_cons (pe_lc (own := [("character", 1)]) (g := gName 1) (tt := tYes) rfl sc_is_word.nd (pi_str (pv 0)) (blkOk_by (N := ["token", "character"]) (sc := defScope s_is_word) (own := [("character", 1)]) (by decide +kernel)) (fun _ _ _ _ _ => (pg_name (i := 1) sc_is_word.nd rfl (.inl rfl))) (fun _ _ _ _ _ => pts_nil) (fun _ _ _ _ _ => (pe_cmpR op_in_sign (pv 1) (gStr rfl g_RUN_CHARACTERS) rfl))) pa_nil)))))), ?_⟩
    refine ⟨_, rfl, _, _, c, rfl, rfl, hs, atI_nat (j := 0) rfl, c, sLET, rfl, rfl, _, rfl, ?_⟩
    have key : isWord (c :: r) = (decide (c ∈ tl sLET) && (c :: r).all isRun) := rfl
    cases hc : decide (c ∈ tl sLET) with
    | false =>
      refine iteF ?_
      rw [hc] at key
      have := q H (Ex.refl H)
      rw [key] at this
      exact this
    | true =>
      refine iteT ⟨_, rfl, _, rfl, fun L nL => lcSm (fun d => .bl (isRun d)) (by rw [mk_len]; omega) (fun _ => rfl) (fun i d H1 _ _ Q q => ⟨_, rfl, d, sRUN, rfl, rfl, q⟩) ?_⟩
      refine ⟨L, ((tl (mk (c :: r))).map isRun), rfl, SqL.of ?_, ?_⟩
      · rw [upd_same, all_bl]
      · rw [hc] at key
        have := q _ (Ex.new (o := .lst ((tl (mk (c :: r))).map fun d => V.bl (isRun d))) nL)
        rw [key, Bool.true_and] at this
        have e : ((tl (mk (c :: r))).map isRun).all id = (c :: r).all isRun := by rw [List.all_map]; rfl
        rw [e]
        exact this
def spIsNum : Sp := fun vs H Q _ => ∃ T : List Nat, vs = [.str (mk T)] ∧ T ≠ [] ∧ T.length ≤ 50000 ∧ ∀ H', Ex H H' → Q (.bl (isNum T)) H'
theorem sc_is_numeral : FnScope ["token", "character"] ["token"] (defScope s_is_numeral) := ⟨rfl, rfl, rfl, by decide +kernel, rfl, by decide +kernel, by decide +kernel⟩
theorem ok_is_numeral (D : Dfd K mg "is_numeral" s_is_numeral ["token"]) (T : TxtK K mg) : Has P w K mg base 1 "is_numeral" ["token"] spIsNum := by
  obtain ⟨tL, g_DIGITS⟩ := T.DIGITS
  obtain ⟨tM, g_MOST_DIGITS⟩ := T.MOST
  refine D.has fun f fd F => F.ok sc_is_numeral (fun vs H Q E h => ?_) (fun cdv A outer s H vs Q E hr h => ?_)
  · obtain ⟨T, rfl, _⟩ := h
    rfl
  · obtain ⟨T, rfl, hne, hlen, q⟩ := h
    obtain ⟨c, r, rfl⟩ := List.exists_cons_of_ne_nil hne
    have hs : (mk (c :: r)).length ≤ sizeLine := by rw [mk_len]; exact sz_of (by omega)
    have key : isNum (c :: r) = (decide ((c :: r).length ≤ 9) && !(decide (c = 48) && !decide (c :: r = [48])) && (c :: r).all fun d => decide (d ∈ tl sDIG)) := rfl
    have no : isNum (c :: r) = false → Q (.bl false) H := fun e => by have := q H (Ex.refl H); rw [e] at this; exact this
    refine ⟨_, (pss_cut (ps_if (PW.pt (pw_or (pt_cmpR op_gt (pe_callB call_len_str (by rfl) T.len (by decide +kernel) (pa_cons (pv 0) pa_nil)) (gInt rfl g_MOST_DIGITS) (nomark _)) (pw_or1 (PW.pt (pw_and (pt_cmpR op_eq (pe_ix ix_str (pv 0) pe_int (fun _ _ => rfl)) pe_str (nomark _)) (pw_and1 (pt_cmpR op_ne (pv 0) pe_str (nomark _))))))))
      (pss_one (ps_ret pe_bl))
      pss_nil)
    (pss_one (ps_ret (pe_callB (cr_all rfl) (by rfl) T.all (by decide +kernel) (pa_cons (pe_lc (own := [("character", 1)]) (g := gName 1) (tt := tYes) rfl sc_is_numeral.nd (pi_str (pv 0)) (blkOk_by (N := ["token", "character"]) (sc := defScope s_is_numeral) (own := [("character", 1)]) (by decide +kernel)) (fun _ _ _ _ _ => (pg_name (i := 1) sc_is_numeral.nd rfl (.inl rfl))) (fun _ _ _ _ _ => pts_nil) (fun _ _ _ _ _ => (pe_cmpR op_in_sign (pv 1) (gStr rfl g_DIGITS) rfl))) pa_nil))))), ?_⟩
    refine ⟨fun σ H' => σ = [some (.str (mk (c :: r))), none] ∧ H' = H ∧ (c :: r).length ≤ 9 ∧ (decide (c = 48) && !decide (c :: r = [48])) = false, ?_, ?_⟩
    · refine ⟨_, rfl, _, rfl, hs, _, _, rfl, rfl, _, rfl, ite2 (fun e => ?_) (fun e => ?_)⟩
      · refine iteT (no ?_)
        have h1 := of_decide_eq_true e
        rw [mk_len] at h1
        rw [key, decide_eq_false (by omega)]; rfl
      · have h9 : (c :: r).length ≤ 9 := by
          have : ¬ (9 : Int) < ((mk (c :: r)).length : Int) := fun z => e (decide_eq_true z)
          rw [mk_len] at this; omega
        refine ⟨_, rfl, _, _, c, rfl, rfl, hs, atI_nat (j := 0) rfl, rfl, _, rfl, ?_⟩
        have e48 : decide (V.str (⟨#[c]⟩ : Str) = V.str "0") = decide (c = 48) := by
          show decide (V.str (mk [c]) = V.str (mk [48])) = _
          rw [decV_mk]; by_cases h : c = 48 <;> simp [h]
        rw [e48]
        cases hc : decide (c = 48) with
        | false => exact iteF (iteF ⟨rfl, rfl, h9, rfl⟩)
        | true =>
          refine iteT ⟨_, rfl, rfl, _, rfl, ?_⟩
          have e0 : decide (V.str (mk (c :: r)) = V.str "0") = decide (c :: r = [48]) := decV_mk (c :: r) [48]
          rw [e0]
          cases hd : decide (c :: r = [48]) with
          | true => exact iteF ⟨rfl, rfl, h9, rfl⟩
          | false =>
            refine iteT (no ?_)
            rw [key, hc, hd, decide_eq_true h9]; rfl
    · rintro σ H' ⟨rfl, rfl, h9, hz⟩
      refine ⟨_, rfl, _, rfl, fun L nL => lcSm (fun d => .bl (decide (d ∈ tl sDIG))) (by rw [mk_len]; omega) (fun _ => rfl) (fun i d H1 _ _ Q q => ⟨_, rfl, d, sDIG, rfl, rfl, q⟩) ?_⟩
      refine ⟨L, ((tl (mk (c :: r))).map fun d => decide (d ∈ tl sDIG)), rfl, SqL.of ?_, ?_⟩
      · rw [upd_same, all_bl]
      · have := q _ (Ex.new (o := .lst ((tl (mk (c :: r))).map fun d => V.bl (decide (d ∈ tl sDIG)))) nL)
        rw [key, hz, decide_eq_true h9] at this
        have e : ((tl (mk (c :: r))).map fun d => decide (d ∈ tl sDIG)).all id = (c :: r).all fun d => decide (d ∈ tl sDIG) := by rw [List.all_map]; rfl
        show Q (.bl (((tl (mk (c :: r))).map fun d => decide (d ∈ tl sDIG)).all id)) _
        rw [e]
        exact this
def spIsName : Sp := fun vs H Q _ => ∃ T : List Nat, vs = [.str (mk T)] ∧ T ≠ [] ∧ T.length ≤ 50000 ∧ ∀ H', Ex H H' → Q (.bl (isName T)) H'
theorem sc_is_name : FnScope ["token"] ["token"] (defScope s_is_name) := ⟨rfl, rfl, rfl, by decide +kernel, rfl, by decide +kernel, by decide +kernel⟩
theorem ok_is_name (D : Dfd K mg "is_name" s_is_name ["token"]) (T : TxtK K mg) (C : Has P w K mg base 1 "is_word" ["token"] spIsWord) : Has P w K mg base 2 "is_name" ["token"] spIsName := by
  obtain ⟨aK, g_KEYWORDS, hK⟩ := T.KEY
  obtain ⟨f_is_word, d_is_word, G_is_word, g_is_word, k_is_word, b_is_word⟩ := C
  refine D.has fun f fd F => F.ok sc_is_name (fun vs H Q E h => ?_) (fun cdv A outer s H vs Q E hr h => ?_)
  · obtain ⟨T, rfl, _⟩ := h
    rfl
  · obtain ⟨T, rfl, hne, hlen, q⟩ := h
    refine ⟨_, (pss_one (ps_ret (pe_and (pe_call G_is_word (hr.mono (by omega)) (by rfl) g_is_word k_is_word b_is_word .nil pass0 (pa_cons (pv 0) pa_nil)) (pe_one (pe_cmpR op_notIn_seq (pv 0) (gRef rfl g_KEYWORDS) (by rfl)))))), ?_⟩
    refine ⟨_, rfl, T, rfl, hne, hlen, fun H1 e1 => ⟨_, rfl, ?_⟩⟩
    have := q H1 e1
    unfold isName at this
    cases hw : isWord T with
    | false => rw [hw] at this; exact iteF this
    | true =>
      rw [hw, Bool.true_and] at this
      refine iteT ⟨_, rfl, aK, _, rfl, .inr (hK H1), rfl, flat_map (fun _ => rfl) _, ?_⟩
      show Q (.bl (if true = true then !inV (.str (mk T)) (kwds.map V.str) else inV (.str (mk T)) (kwds.map V.str))) H1
      rw [if_pos rfl, inV_strs]
      exact this
def spRunEnd : Sp := fun vs H Q _ => ∃ (x : Str) (i : Nat), vs = [.str x, .int i] ∧ i ≤ x.length ∧ x.length ≤ 50000 ∧ ∀ e : Nat, RunTo (tl x) i e → Q (.int e) H
theorem sc_run_end : FnScope ["text", "at", "end"] ["text", "at"] (defScope s_run_end) := ⟨rfl, rfl, rfl, by decide +kernel, rfl, by decide +kernel, by decide +kernel⟩
theorem ok_run_end (D : Dfd K mg "_run_end" s_run_end ["text", "at"]) (T : TxtK K mg) : Has P w K mg base 1 "_run_end" ["text", "at"] spRunEnd := by
  obtain ⟨tR, g_RUN_CHARACTERS⟩ := T.RUN
  refine D.has fun f fd F => F.ok sc_run_end (fun vs H Q E h => ?_) (fun cdv A outer s H vs Q E hr h => ?_)
  · obtain ⟨_, _, rfl, _⟩ := h
    rfl
  · obtain ⟨x, i, rfl, hi, hlen, q⟩ := h
    have hs : x.length ≤ sizeLine := sz_of (by omega)
    refine ⟨_, (pss_cons (ps_set (i := 2) sc_run_end.nd rfl (.inl rfl) (pv 1))
    (pss_cons (ps_while PassesOwn.never (PW.pt (pw_and (pt_cmpR op_lt (pv 2) (pe_callB call_len_str (by rfl) T.len (by decide +kernel) (pa_cons (pv 0) pa_nil)) (nomark _)) (pw_and1 (pt_cmpR op_in_sign (pe_ix ix_str (pv 0) (pv 2) (fun _ _ => rfl)) (gStr rfl g_RUN_CHARACTERS) rfl))))
      (pss_one (ps_aug (i := 2) sc_run_end.nd rfl (.inl rfl) pe_int ip_add)))
    (pss_one (ps_ret (pv 2))))), ?_⟩
    refine ⟨_, rfl, fun m σ H' => H' = H ∧ ∃ e : Nat, σ = [some (.str x), some (.int i), some (.int e)] ∧ i ≤ e ∧ e ≤ x.length ∧ m = x.length - e ∧ ∀ k, i ≤ k → k < e → ∀ c, (tl x)[k]? = some c → isRun c = true, ⟨_, rfl, i, rfl, by omega, hi, rfl, fun k h1 h2 => by omega⟩, ?_⟩
    rintro m σ H' ⟨rfl, e, rfl, h1, h2, rfl, h3⟩
    refine ⟨_, rfl, _, rfl, _, rfl, hs, _, _, rfl, rfl, _, rfl, ite2 (fun c1 => ?_) (fun c1 => ?_)⟩
    · have he : e < x.length := by have := of_decide_eq_true c1; omega
      have het : e < (tl x).length := by rw [← len_tl]; exact he
      refine ⟨_, rfl, _, rfl, _, _, (tl x)[e], rfl, rfl, hs, atI_nat (List.getElem?_eq_getElem het), (tl x)[e], sRUN, rfl, rfl, _, rfl, ?_⟩
      cases hc : decide ((tl x)[e] ∈ tl sRUN) with
      | true =>
        refine iteT ⟨fun σ' H'' => H'' = H' ∧ σ' = [some (.str x), some (.int i), some (.int ((e + 1 : Nat) : Int))], ?_, ?_⟩
        · rintro σ' H'' ⟨rfl, rfl⟩
          refine ⟨x.length - (e + 1), by omega, rfl, e + 1, rfl, by omega, by omega, rfl, fun k k1 k2 c hk => ?_⟩
          by_cases ke : k = e
          · subst ke
            rw [List.getElem?_eq_getElem het] at hk
            rw [← Option.some.inj hk]; exact hc
          · exact h3 k k1 (by omega) c hk
        · exact ⟨_, rfl, _, _, rfl, rfl, rfl, rfl⟩
      | false =>
        refine iteF ⟨_, rfl, q e ⟨h1, by rw [← len_tl]; exact h2, h3, fun c hk => ?_⟩⟩
        rw [List.getElem?_eq_getElem het] at hk
        rw [← Option.some.inj hk]; exact hc
    · have he : e = x.length := by
        have : ¬ (e : Int) < (x.length : Int) := fun z => c1 (decide_eq_true z)
        omega
      refine iteF ⟨_, rfl, q e ⟨h1, by rw [← len_tl]; exact h2, h3, fun c hk => ?_⟩⟩
      rw [List.getElem?_eq_none (by rw [← len_tl]; omega)] at hk
      cases hk
end
end G
namespace G
open PySem PySem.Spec PyProof.Rows L2
structure Cl_TokenReader (K : PySem.W.Frag) (mg : Str → Option Value) (C : Addr) : Prop where
  gC : mg "TokenReader" = some (.ref C)
  cl : Cls K C
  m_init : ∃ (f : Addr) (fd : FuncData), Mk K C f ∧ Fun K "__init__" "TokenReader.__init__" s_TokenReader_init f fd ∧ Binds K fd ["self", "tokens"] []
  m_ahead : ∃ (f : Addr) (fd : FuncData), Meth K C "ahead" f ∧ Fun K "ahead" "TokenReader.ahead" s_TokenReader_ahead f fd ∧ Binds K fd ["self"] []
  m_take : ∃ (f : Addr) (fd : FuncData), Meth K C "take" f ∧ Fun K "take" "TokenReader.take" s_TokenReader_take f fd ∧ Binds K fd ["self", "token"] []
  m_take_if : ∃ (f : Addr) (fd : FuncData), Meth K C "take_if" f ∧ Fun K "take_if" "TokenReader.take_if" s_TokenReader_take_if f fd ∧ Binds K fd ["self", "token"] []
  m_take_name : ∃ (f : Addr) (fd : FuncData), Meth K C "take_name" f ∧ Fun K "take_name" "TokenReader.take_name" s_TokenReader_take_name f fd ∧ Binds K fd ["self"] []
  m_take_bit : ∃ (f : Addr) (fd : FuncData), Meth K C "take_bit" f ∧ Fun K "take_bit" "TokenReader.take_bit" s_TokenReader_take_bit f fd ∧ Binds K fd ["self"] []
  m_take_end : ∃ (f : Addr) (fd : FuncData), Meth K C "take_end" f ∧ Fun K "take_end" "TokenReader.take_end" s_TokenReader_take_end f fd ∧ Binds K fd ["self"] []
  n_tokens : NoAttr K C "tokens"
  n_at : NoAttr K C "at"
end G
namespace G
open PySem PySem.Spec PyProof.Rows L2 Evl TL
section
variable {P : Program} {w : World} {K : PySem.W.Frag} {mg : Str → Option Value} {base : Heap}
def okAt : V → Hp → Prop := fun y _ => ∃ n : Nat, y = .int (n : Int) ∧ n ≤ 50000
theorem own_BadSyntax {C f : Addr} {fd : FuncData} (F : ErrF P K mg "BadSyntax" "BadSyntax.__init__" C f fd s_BadSyntax_init "at") : Own1 P w K mg base "BadSyntax" "at" C f fd okAt := by
  obtain ⟨file, T, hfile⟩ := F.sup
  refine ⟨F.gC, T.oex, T.ini, T.tI, ?_, F.bd⟩
  have SN : NdefX.NScope ["self", "at", "__class__"] ["self", "at"] ["__class__"] (defScope s_BadSyntax_init) := NdefX.nscope_by (by decide +kernel)
  refine SUP.fn_sup (N := ["self", "at", "__class__"]) T hfile F.top rfl SN rfl rfl (by decide +kernel) (by decide +kernel) (fun vs H Q E h => ?_) (fun cda cc A outer s H vs Q E hr h => ?_) _ (hps := by decide)
  · obtain ⟨_, _, rfl, _⟩ := h
    rfl
  · obtain ⟨a, y, rfl, ha, ⟨n, rfl, hn⟩, q⟩ := h
    have em : (Str.ofString (toString ((n : Nat) : Int))) = mk (numL n) := ext_tl (tl_num n)
    have hl := numL_len (n := n) (k := 9) (by decide) (by omega)
    have hg : (n : Int).natAbs.log2 < 1920 := by
      have : (n : Int).natAbs < 2 ^ 30 := by rw [Int.natAbs_natCast]; omega
      have := PySem.Flt.log2_lt_of (by decide : 0 < 30) this
      omega
    refine ⟨_, _, pa_cons (pe_joined (.cons pe_str (.cons (pe_fmt (pe_var (i := 1) rfl (.inl rfl))) .nil))) pa_nil, pss_one (ps_ost (pe_var (i := 0) rfl (.inl rfl)) (pe_var (i := 1) rfl (.inl rfl))), a, rfl, ha, ?_⟩
    refine ⟨_, rfl, by decide, _, rfl, .inr ⟨n, rfl, hg, _, rfl, ?_, (by show 1 ≤ 1000; decide), ha, _, rfl, _, rfl, a, C, rfl, T.oex, F.no, .inl ⟨ha, fun d nd hda => q d nd hda⟩⟩⟩
    rw [em]
    refine sz_of ?_
    rw [Str.length_append, Str.length_append, mk_len]
    show 0 + 48 + _ ≤ _
    omega
end
end G
namespace G
open PySem PySem.Spec PyProof.Rows L2 Evl TL
section
variable {P : Program} {w : World} {K : PySem.W.Frag} {mg : Str → Option Value} {base : Heap}

theorem own_BadToken {C f : Addr} {fd : FuncData} (F : ErrF P K mg "BadToken" "BadToken.__init__" C f fd s_BadToken_init "at") : Own1 P w K mg base "BadToken" "at" C f fd okAt := by
  obtain ⟨file, T, hfile⟩ := F.sup
  refine ⟨F.gC, T.oex, T.ini, T.tI, ?_, F.bd⟩
  have SN : NdefX.NScope ["self", "at", "__class__"] ["self", "at"] ["__class__"] (defScope s_BadToken_init) := NdefX.nscope_by (by decide +kernel)
  refine SUP.fn_sup (N := ["self", "at", "__class__"]) T hfile F.top rfl SN rfl rfl (by decide +kernel) (by decide +kernel) (fun vs H Q E h => ?_) (fun cda cc A outer s H vs Q E hr h => ?_) _ (hps := by decide)
  · obtain ⟨_, _, rfl, _⟩ := h
    rfl
  · obtain ⟨a, y, rfl, ha, ⟨n, rfl, hn⟩, q⟩ := h
    have em : (Str.ofString (toString ((n : Nat) : Int))) = mk (numL n) := ext_tl (tl_num n)
    have hl := numL_len (n := n) (k := 9) (by decide) (by omega)
    have hg : (n : Int).natAbs.log2 < 1920 := by
      have : (n : Int).natAbs < 2 ^ 30 := by rw [Int.natAbs_natCast]; omega
      have := PySem.Flt.log2_lt_of (by decide : 0 < 30) this
      omega
    refine ⟨_, _, pa_cons (pe_joined (.cons pe_str (.cons (pe_fmt (pe_var (i := 1) rfl (.inl rfl))) .nil))) pa_nil, pss_one (ps_ost (pe_var (i := 0) rfl (.inl rfl)) (pe_var (i := 1) rfl (.inl rfl))), a, rfl, ha, ?_⟩
    refine ⟨_, rfl, by decide, _, rfl, .inr ⟨n, rfl, hg, _, rfl, ?_, (by show 1 ≤ 1000; decide), ha, _, rfl, _, rfl, a, C, rfl, T.oex, F.no, .inl ⟨ha, fun d nd hda => q d nd hda⟩⟩⟩
    rw [em]
    refine sz_of ?_
    rw [Str.length_append, Str.length_append, mk_len]
    show 0 + 35 + _ ≤ _
    omega
end
end G
namespace G
open PySem PySem.Spec PyProof.Rows L2 Evl TL
section
variable {P : Program} {w : World} {K : PySem.W.Frag} {mg : Str → Option Value} {base : Heap}
/-- a comment ends ahead of the next line feed, or with the text -/
def spLineEnd : Sp := fun vs H Q _ => ∃ (x : Str) (i : Nat) (b S : List Nat), vs = [.str x, .int i] ∧ x.length ≤ 50000 ∧ i ≤ x.length ∧ (tl x).drop i = b ++ S ∧ 10 ∉ b ∧ (S = [] ∨ ∃ q, S = 10 :: q) ∧ Q (.int ((i + b.length : Nat) : Int)) H
theorem sc_line_end : FnScope ["text", "at", "end"] ["text", "at"] (defScope s_line_end) := ⟨rfl, rfl, rfl, by decide +kernel, rfl, by decide +kernel, by decide +kernel⟩
theorem ok_line_end (D : Dfd K mg "_line_end" s_line_end ["text", "at"]) (T : TxtK K mg) : Has P w K mg base 1 "_line_end" ["text", "at"] spLineEnd := by
  refine D.has fun f fd F => F.ok sc_line_end (fun vs H Q E h => ?_) (fun cdv A outer s H vs Q E hr h => ?_)
  · obtain ⟨_, _, _, _, rfl, _⟩ := h
    rfl
  · obtain ⟨x, i, b, S, rfl, hlen, hix, hd, hb, hS, q⟩ := h
    have hs : x.length ≤ sizeLine := sz_of (by omega)
    have hl : x.length = i + (b.length + S.length) := by
      have := congrArg List.length hd
      rw [List.length_drop, List.length_append, ← len_tl] at this
      omega
    refine ⟨_, (pss_cons (ps_set (i := 2) sc_line_end.nd rfl (.inl rfl) (pe_bm PySem.F.plainAttrs_str PySem.F.slot_str_find PySem.F.type_str_find mt_find3 (pv 0) (pa_cons pe_str (pa_cons (pv 1) pa_nil))))
    (pss_one (ps_ret (pe_ifExp (pt_cmpR op_lt (pv 2) pe_int (nomark _)) (pe_callB call_len_str (by rfl) T.len (by decide +kernel) (pa_cons (pv 0) pa_nil)) (pv 2))))), ?_⟩
    refine ⟨_, rfl, rfl, _, rfl, x, mk [10], (i : Int), rfl, rfl, ?_⟩
    rcases hS with rfl | ⟨q', rfl⟩
    · rw [find_miss (x := x) (c := 10) (i := i) (by rw [hd, List.append_nil]; exact hb)]
      refine ⟨_, rfl, _, _, rfl, rfl, _, rfl, iteT ⟨_, rfl, x, rfl, hs, ?_⟩⟩
      rw [hl, List.length_nil, Nat.add_zero]
      exact q
    · rw [find_hit (x := x) (c := 10) (i := i) hd hb]
      refine ⟨_, rfl, _, _, rfl, rfl, _, rfl, ite2 (fun e => ?_) (fun e => ⟨_, rfl, q⟩)⟩
      have := of_decide_eq_true e
      omega
end
end G
namespace G
open PySem PySem.Spec PyProof.Rows L2 Evl TL
def strsV (ts : List (List Nat)) : List V := ts.map fun T => V.str (mk T)
theorem strsV_add (a : List (List Nat)) (T : List Nat) : strsV (a ++ [T]) = strsV a ++ [.str (mk T)] := by unfold strsV; rw [List.map_append]; rfl
end G
namespace G
open PySem PySem.Spec PyProof.Rows L2 Evl TL
section
variable {P : Program} {w : World} {K : PySem.W.Frag} {mg : Str → Option Value} {base : Heap}
/-- the token at a place -/
def spTokenAt : Sp := fun vs H Q _ => ∃ (x : Str) (i : Nat) (T S : List Nat), vs = [.str x, .int i] ∧ x.length ≤ 50000 ∧ i ≤ x.length ∧ (tl x).drop i = T ++ S ∧ ((RunTok T ∧ NoRun S) ∨ SgnTok T) ∧ ∀ H', Ex H H' → Q (.str (mk T)) H'
theorem sc_token_at : FnScope ["text", "at", "run", "sign"] ["text", "at"] (defScope s_token_at) := ⟨rfl, rfl, rfl, by decide +kernel, rfl, by decide +kernel, by decide +kernel⟩
theorem ok_token_at (D : Dfd K mg "_token_at" s_token_at ["text", "at"]) (T : TxtK K mg) (C1 : Has P w K mg base 1 "_run_end" ["text", "at"] spRunEnd) (C2 : Has P w K mg base 1 "is_word" ["token"] spIsWord) (C3 : Has P w K mg base 1 "is_numeral" ["token"] spIsNum) :
    Has P w K mg base 2 "_token_at" ["text", "at"] spTokenAt := by
  obtain ⟨f_run_end, d_run_end, G_run_end, g_run_end, k_run_end, b_run_end⟩ := C1
  obtain ⟨f_is_word, d_is_word, G_is_word, g_is_word, k_is_word, b_is_word⟩ := C2
  obtain ⟨f_is_numeral, d_is_numeral, G_is_numeral, g_is_numeral, k_is_numeral, b_is_numeral⟩ := C3
  obtain ⟨aS, g_SIGNS, hSg⟩ := T.SIG
  refine D.has fun f fd F => F.ok sc_token_at (fun vs H Q E h => ?_) (fun cdv A outer s H vs Q E hr h => ?_)
  · obtain ⟨_, _, _, _, rfl, _⟩ := h
    rfl
  · obtain ⟨x, i, T, S, rfl, hlen, hix, hd, hT, q⟩ := h
    have hs : x.length ≤ sizeLine := sz_of (by omega)
    have hl : x.length = i + (T.length + S.length) := by
      have := congrArg List.length hd
      rw [List.length_drop, List.length_append, ← len_tl] at this
      omega
    refine ⟨_, (pss_cons (ps_set (i := 2) sc_token_at.nd rfl (.inl rfl) (pe_slice sl_str (pv 0) (po_some (pv 1)) (po_some (pe_call G_run_end (hr.mono (by omega)) (by rfl) g_run_end k_run_end b_run_end .nil pass0 (pa_cons (pv 0) (pa_cons (pv 1) pa_nil))))))
    (pss_cut (ps_if (PW.pt (pw_and (pt_truth (pv 2) (by intro _; rfl)) (pw_and1 (PW.pt (pw_or (pt_val (pe_call G_is_word (hr.mono (by omega)) (by rfl) g_is_word k_is_word b_is_word .nil pass0 (pa_cons (pv 2) pa_nil))) (pw_or1 (pt_val (pe_call G_is_numeral (hr.mono (by omega)) (by rfl) g_is_numeral k_is_numeral b_is_numeral .nil pass0 (pa_cons (pv 2) pa_nil)))))))))
      (pss_one (ps_ret (pv 2)))
      pss_nil)
    (pss_cons (ps_for PassesOwn.never rfl (pi_tup (gRef rfl g_SIGNS)) (pg_name (i := 3) sc_token_at.nd rfl (.inl rfl))
      (pss_one (ps_if (pt_val (pe_bm PySem.F.plainAttrs_str PySem.F.slot_str_startswith PySem.F.type_str_startswith mt_startswith3 (pv 0) (pa_cons (pv 3) (pa_cons (pv 1) pa_nil))))
        (pss_one (ps_ret (pv 3)))
        pss_nil)))
    (pss_one ps_never)))), ?_⟩
    refine ⟨_, rfl, _, rfl, _, rfl, _, rfl, _, rfl, x, i, rfl, hix, hlen, fun e he => ⟨_, rfl, x, rfl, hs, ?_⟩⟩
    have hcut : cutS x (some (i : Int)) (some (e : Int)) = mk (((tl x).drop i).take (e - i)) := cut_nat he.1 (by rw [len_tl]; exact he.2.1)
    rw [hcut]
    rcases hT with ⟨hrun, hS⟩ | hsg
    · -- a run
      have ee := runTo_eq he hd hrun.2.1 hS (by rw [← len_tl]; exact hix)
      have et : ((tl x).drop i).take (e - i) = T := by rw [hd, ee, show i + T.length - i = T.length by omega, List.take_left' rfl]
      rw [et]
      refine ⟨fun _ _ => False, ?_, fun _ _ z => z.elim⟩
      have hTl : T.length ≤ 50000 := by omega
      have h0 : ((mk T).length : Int) != 0 := by
        have : 0 < T.length := List.length_pos_iff.mpr hrun.1
        exact bne_iff_ne.mpr (by rw [mk_len]; omega)
      refine ⟨_, rfl, true, ⟨by rw [mk_len]; exact sz_of (by omega), h0.symm⟩, iteT ⟨_, rfl, T, rfl, hrun.1, hTl, fun H1 e1 => ⟨_, rfl, ?_⟩⟩⟩
      cases hw : isWord T with
      | true => exact iteT (iteT ⟨_, rfl, q H1 e1⟩)
      | false =>
        refine iteF ⟨_, rfl, T, rfl, hrun.1, hTl, fun H2 e2 => ⟨_, rfl, ?_⟩⟩
        have hn : isNum T = true := by
          rcases hrun.2.2 with z | z
          · rw [hw] at z; cases z
          · exact z
        rw [hn]
        exact iteT ⟨_, rfl, q H2 (e1.trans e2)⟩
    · -- a sign
      obtain ⟨hne, hnr, _, _, _, _⟩ := sgn_of hsg
      obtain ⟨c, r, rfl⟩ := List.exists_cons_of_ne_nil hne
      have ee : e = i := by
        by_cases c1 : i < e
        · have hc : (tl x)[i]? = some c := by
            have := List.getElem?_drop (xs := tl x) (i := i) (j := 0)
            rw [hd, Nat.add_zero] at this
            rw [← this]; rfl
          have := he.2.2.1 i (Nat.le_refl _) c1 c hc
          have hnr' : isRun c = false := hnr
          rw [hnr'] at this; cases this
        · have := he.1; omega
      rw [ee, Nat.sub_self, List.take_zero]
      refine ⟨fun σ H' => σ = [some (.str x), some (.int i), some (.str (mk [])), none] ∧ H' = H, ?_, ?_⟩
      · exact ⟨_, rfl, false, ⟨by rw [mk_len]; exact Nat.zero_le _, rfl⟩, iteF (iteF ⟨rfl, rfl⟩)⟩
      · rintro σ H' ⟨rfl, rfl⟩
        refine ⟨aS, rfl, ⟨_, hSg H'⟩, for_tup (K := K) (a := aS) (xs := sgns.map V.str) (fun j σ H2 => H2 = H' ∧ (∀ k, k < j → sgns[k]? ≠ some (mk (c :: r))) ∧ ∃ z : Option V, σ = [some (.str x), some (.int i), some (.str (mk [])), z])
          ⟨rfl, fun k hk => by omega, none, rfl⟩ (fun _ _ H2 _ _ => hSg H2) ?_ ?_⟩
        · rintro j y σ H2 hy ⟨rfl, hno, z, rfl⟩
          rw [List.getElem?_map] at hy
          cases hj : sgns[j]? with
          | none => rw [hj] at hy; cases hy
          | some u =>
            rw [hj] at hy
            have ey : V.str u = y := Option.some.inj hy
            subst ey
            have hu : u ∈ sgns := List.mem_of_getElem? hj
            refine ⟨_, rfl, rfl, _, rfl, _, rfl, x, u, (i : Int), rfl, rfl, _, rfl, ?_⟩
            rw [starts_at (sgn_facts u hu).1, hd]
            by_cases hc : u = mk (c :: r)
            · have hp : pre (tl u) (c :: r ++ S) = true := pre_iff.mpr ⟨S, by rw [hc]; rfl⟩
              rw [hp, hc]
              exact iteT ⟨_, rfl, q H2 (Ex.refl _)⟩
            · have hp : pre (tl u) (c :: r ++ S) = false := by
                cases hq : pre (tl u) (c :: r ++ S) with
                | false => rfl
                | true =>
                  obtain ⟨r2, e2⟩ := pre_iff.mp hq
                  have hsg' : mk (c :: r) ∈ sgns := hsg
                  rcases Nat.le_total (tl u).length (c :: r).length with l1 | l1
                  · have : pre (tl u) (tl (mk (c :: r))) = true := pre_iff.mpr ⟨(c :: r).drop (tl u).length, by
                      have := congrArg (List.take (c :: r).length) e2
                      rw [List.take_left' rfl, List.take_append, List.take_of_length_le l1] at this
                      show c :: r = _
                      have h4 := congrArg (List.drop (tl u).length) this
                      rw [List.drop_left' rfl] at h4
                      rw [h4, ← this]⟩
                    rw [sgn_apart u hu _ hsg' hc] at this; cases this
                  · have : pre (tl (mk (c :: r))) (tl u) = true := pre_iff.mpr ⟨(tl u).drop (c :: r).length, by
                      have := congrArg (List.take (tl u).length) e2.symm
                      rw [List.take_left' rfl, List.take_append, List.take_of_length_le l1] at this
                      have h4 := congrArg (List.drop (c :: r).length) this
                      rw [List.drop_left' rfl] at h4
                      show tl u = c :: r ++ _
                      rw [h4, ← this]⟩
                    rw [sgn_apart _ hsg' u hu (fun z => hc z.symm)] at this; cases this
              rw [hp]
              refine iteF ⟨rfl, fun k hk => ?_, _, rfl⟩
              by_cases ek : k = j
              · subst ek; rw [hj]; exact fun z => hc (Option.some.inj z)
              · exact hno k (by omega)
        · rintro σ H2 ⟨rfl, hno, z, rfl⟩
          have hsg' : mk (c :: r) ∈ sgns := hsg
          obtain ⟨k, hk, he'⟩ := List.getElem_of_mem hsg'
          exact absurd (List.getElem?_eq_some_iff.mpr ⟨hk, he'⟩) (hno k (by rw [List.length_map]; exact hk))
def spTokenize : Sp := fun vs H Q _ => ∃ (x : Str) (ts : List (List Nat)), vs = [.str x] ∧ x.length ≤ 50000 ∧ Lx (tl x) ts ∧ ∀ p H', H p = none → Ex H H' → H' p = some (.lst (strsV ts)) → Q (.ref p) H'
theorem sc_tokenize : FnScope ["text", "tokens", "at", "token"] ["text"] (defScope s_tokenize) := ⟨rfl, rfl, rfl, by decide +kernel, rfl, by decide +kernel, by decide +kernel⟩
theorem fn_tokenizeV {f : Addr} {fd : FuncData} (F : Fun K "tokenize" "tokenize" s_tokenize f fd) (T : TxtK K mg) (C1 : Has P w K mg base 1 "_line_end" ["text", "at"] spLineEnd) (C2 : Has P w K mg base 2 "_token_at" ["text", "at"] spTokenAt) : FnOk P w K mg base CX0 3 f fd ["text"] spTokenize := by
  obtain ⟨f_line_end, d_line_end, G_line_end, g_line_end, k_line_end, b_line_end⟩ := C1
  obtain ⟨f_token_at, d_token_at, G_token_at, g_token_at, k_token_at, b_token_at⟩ := C2
  refine F.ok sc_tokenize (fun vs H Q E h => ?_) (fun cdv A outer s H vs Q E hr h => ?_)
  · obtain ⟨_, _, rfl, _⟩ := h
    rfl
  · obtain ⟨x, ts, rfl, hlen, hL, q⟩ := h
    have hs : x.length ≤ sizeLine := sz_of (by omega)
    refine ⟨_, (pss_cons (ps_set (i := 1) sc_tokenize.nd rfl (.inl rfl) (pe_lst pa_nil))
    (pss_cons (ps_set (i := 2) sc_tokenize.nd rfl (.inl rfl) pe_int)
    (pss_cons (ps_while PassesOwn.never (pt_cmpR op_lt (pv 2) (pe_callB call_len_str (by rfl) T.len (by decide +kernel) (pa_cons (pv 0) pa_nil)) (nomark _))
      (pss_one (ps_if (PW.pt (pw_or (pt_cmpR op_eq (pe_ix ix_str (pv 0) (pv 2) (fun _ _ => rfl)) pe_str (nomark _)) (pw_or1 (pt_cmpR op_eq (pe_ix ix_str (pv 0) (pv 2) (fun _ _ => rfl)) pe_str (nomark _)))))
        (pss_one (ps_aug (i := 2) sc_tokenize.nd rfl (.inl rfl) pe_int ip_add))
        (pss_one (ps_if (pt_cmpR op_eq (pe_ix ix_str (pv 0) (pv 2) (fun _ _ => rfl)) pe_str (nomark _))
          (pss_one (ps_set (i := 2) sc_tokenize.nd rfl (.inl rfl) (pe_call G_line_end (hr.mono (by omega)) (by rfl) g_line_end k_line_end b_line_end .nil pass0 (pa_cons (pv 0) (pa_cons (pv 2) pa_nil)))))
          (pss_cons (ps_set (i := 3) sc_tokenize.nd rfl (.inl rfl) (pe_call G_token_at (hr.mono (by omega)) (by rfl) g_token_at k_token_at b_token_at .nil pass0 (pa_cons (pv 0) (pa_cons (pv 2) pa_nil))))
          (pss_cons (ps_expr (pe_bm PySem.F.plainAttrs_list PySem.F.slot_list_append PySem.F.type_list_append mt_append (pv 1) (pa_cons (pv 3) pa_nil)))
          (pss_one (ps_aug (i := 2) sc_tokenize.nd rfl (.inl rfl) (pe_callB call_len_str (by rfl) T.len (by decide +kernel) (pa_cons (pv 3) pa_nil)) ip_add)))))))))
    (pss_one (ps_ret (pv 1)))))), ?_⟩
    refine ⟨Nat.zero_le _, fun o no => ⟨fun m σ H' => Ex H H' ∧ ∃ (i : Nat) (S : List Nat) (us rs : List (List Nat)) (z : Option V), i ≤ x.length ∧ (tl x).drop i = S ∧ Lx S rs ∧ us ++ rs = ts ∧ us.length ≤ i ∧ m = x.length - i ∧ H' o = some (.lst (strsV us)) ∧ σ = [some (.str x), some (.ref o), some (.int i), z],
      ⟨_, Ex.new no, 0, tl x, [], ts, none, Nat.zero_le _, rfl, hL, rfl, Nat.le_refl _, rfl, upd_same, rfl⟩, ?_⟩⟩
    rintro m σ H1 ⟨e1, i, S, us, rs, z, hi, hd, hS, hts, hul, rfl, ho, rfl⟩
    have hl : x.length = i + S.length := by
      have := congrArg List.length hd
      rw [List.length_drop, ← len_tl] at this
      omega
    have hc0 : ∀ c r, S = c :: r → (tl x)[i]? = some c := fun c r e => by
      have := List.getElem?_drop (xs := tl x) (i := i) (j := 0)
      rw [hd, e, Nat.add_zero] at this
      rw [← this]; rfl
    have dec1 : ∀ c d : Nat, decide (V.str (⟨#[c]⟩ : Str) = V.str (mk [d])) = decide (c = d) := fun c d => by
      show decide (V.str (mk [c]) = V.str (mk [d])) = _
      rw [decV_mk]; by_cases h : c = d <;> simp [h]
    refine ⟨_, rfl, _, rfl, x, rfl, hs, _, _, rfl, rfl, _, rfl, ?_⟩
    cases hS with
    | nil =>
      rw [List.length_nil, Nat.add_zero] at hl
      rw [decide_eq_false (by omega)]
      refine iteF ⟨_, rfl, q o H1 no e1 ?_⟩
      rw [ho, ← hts, List.append_nil]
    | @sp c S' ts' hc hr' =>
      rw [List.length_cons] at hl
      have hcx := hc0 c S' rfl
      rw [decide_eq_true (by omega)]
      refine iteT ⟨fun σ H' => H' = H1 ∧ σ = [some (.str x), some (.ref o), some (.int ((i + 1 : Nat) : Int)), z], ?_, ?_⟩
      · rintro σ' H' ⟨rfl, rfl⟩
        refine ⟨x.length - (i + 1), by omega, e1, i + 1, S', us, rs, z, by omega, ?_, hr', hts, by omega, rfl, ho, rfl⟩
        rw [← List.drop_drop, hd]; rfl
      · refine ⟨_, rfl, _, rfl, _, _, c, rfl, rfl, hs, atI_nat hcx, rfl, _, rfl, ?_⟩
        have d32 : decide (V.str (⟨#[c]⟩ : Str) = V.str " ") = decide (c = 32) := dec1 c 32
        rw [d32]
        rcases hc with rfl | rfl
        · exact iteT (iteT ⟨_, rfl, _, _, rfl, rfl, rfl, rfl⟩)
        · refine iteF ⟨_, rfl, _, rfl, _, _, 10, rfl, rfl, hs, atI_nat hcx, rfl, _, rfl, ?_⟩
          have d10 : decide (V.str (⟨#[10]⟩ : Str) = V.str "\n") = decide (10 = 10) := dec1 10 10
          rw [d10]
          exact iteT ⟨_, rfl, _, _, rfl, rfl, rfl, rfl⟩
    | @com b S' ts' hb hs' hr' =>
      have hcx := hc0 35 (b ++ S') rfl
      rw [List.cons_append, List.length_cons, List.length_append] at hl
      rw [decide_eq_true (by omega)]
      refine iteT ⟨fun σ H' => H' = H1 ∧ σ = [some (.str x), some (.ref o), some (.int ((i + (35 :: b).length : Nat) : Int)), z], ?_, ?_⟩
      · rintro σ' H' ⟨rfl, rfl⟩
        refine ⟨x.length - (i + (35 :: b).length), by rw [List.length_cons]; omega, e1, i + (35 :: b).length, S', us, rs, z, by rw [List.length_cons]; omega, ?_, hr', hts, by omega, rfl, ho, rfl⟩
        rw [← List.drop_drop, hd, List.drop_left' rfl]
      · refine ⟨_, rfl, _, rfl, _, _, 35, rfl, rfl, hs, atI_nat hcx, rfl, _, rfl, ?_⟩
        have d32 : decide (V.str (⟨#[35]⟩ : Str) = V.str " ") = decide (35 = 32) := dec1 35 32
        rw [d32]
        refine iteF ⟨_, rfl, _, rfl, _, _, 35, rfl, rfl, hs, atI_nat hcx, rfl, _, rfl, ?_⟩
        have d10 : decide (V.str (⟨#[35]⟩ : Str) = V.str "\n") = decide (35 = 10) := dec1 35 10
        rw [d10]
        refine iteF ⟨_, rfl, _, rfl, _, _, 35, rfl, rfl, hs, atI_nat hcx, rfl, _, rfl, ?_⟩
        have d35 : decide (V.str (⟨#[35]⟩ : Str) = V.str "#") = decide (35 = 35) := dec1 35 35
        rw [d35]
        refine iteT ⟨_, rfl, _, rfl, x, i, 35 :: b, S', rfl, hlen, hi, hd, ?_, hs', rfl, rfl⟩
        intro h10
        rcases List.mem_cons.mp h10 with h | h
        · omega
        · exact hb h
    | @run T S' ts' hT hn hr' =>
      obtain ⟨c, r, rfl⟩ := List.exists_cons_of_ne_nil hT.1
      have hcx := hc0 c (r ++ S') rfl
      have hcr : isRun c = true := hT.2.1 c (List.mem_cons_self ..)
      have n32 : c ≠ 32 := fun h => by rw [h, run_not.1] at hcr; cases hcr
      have n10 : c ≠ 10 := fun h => by rw [h, run_not.2.1] at hcr; cases hcr
      have n35 : c ≠ 35 := fun h => by rw [h, run_not.2.2] at hcr; cases hcr
      rw [List.length_append] at hl
      have hpos : 0 < (c :: r).length := Nat.succ_pos _
      rw [decide_eq_true (by omega)]
      refine iteT ⟨fun σ H' => Ex H H' ∧ H' o = some (.lst (strsV (us ++ [c :: r]))) ∧ ∃ z, σ = [some (.str x), some (.ref o), some (.int ((i + (c :: r).length : Nat) : Int)), z], ?_, ?_⟩
      · rintro σ' H' ⟨e2, ho2, z2, rfl⟩
        refine ⟨x.length - (i + (c :: r).length), by omega, e2, i + (c :: r).length, S', us ++ [c :: r], ts', z2, by omega, ?_, hr', by rw [← hts, List.append_assoc]; rfl, by rw [List.length_append]; simp only [List.length_cons, List.length_nil]; omega, rfl, ho2, rfl⟩
        rw [← List.drop_drop, hd, List.drop_left' rfl]
      · refine ⟨_, rfl, _, rfl, _, _, c, rfl, rfl, hs, atI_nat hcx, rfl, _, rfl, ?_⟩
        have d32 : decide (V.str (⟨#[c]⟩ : Str) = V.str " ") = false := (dec1 c 32).trans (decide_eq_false n32)
        have d10 : decide (V.str (⟨#[c]⟩ : Str) = V.str "\n") = false := (dec1 c 10).trans (decide_eq_false n10)
        have d35 : decide (V.str (⟨#[c]⟩ : Str) = V.str "#") = false := (dec1 c 35).trans (decide_eq_false n35)
        rw [d32]
        refine iteF ⟨_, rfl, _, rfl, _, _, c, rfl, rfl, hs, atI_nat hcx, rfl, _, rfl, ?_⟩
        rw [d10]
        refine iteF ⟨_, rfl, _, rfl, _, _, c, rfl, rfl, hs, atI_nat hcx, rfl, _, rfl, ?_⟩
        rw [d35]
        refine iteF ⟨_, rfl, _, rfl, x, i, c :: r, S', rfl, hlen, hi, hd, .inl ⟨hT, hn⟩, fun H2 e2 => ?_⟩
        have ho2 := e2 _ _ ho
        refine ⟨_, rfl, .inl ⟨rfl, _, SqL.of ho2⟩, _, rfl, o, _, _, rfl, rfl, ho2, ?_, ?_⟩
        · exact sz_lt (by unfold strsV; rw [List.length_map]; omega)
        · refine ⟨_, rfl, _, rfl, _, rfl, ?_, _, _, rfl, rfl, (e1.trans e2).mut no, ?_, some (.str (mk (c :: r))), ?_⟩
          · rw [mk_len]; exact sz_of (by omega)
          · rw [upd_same, strsV_add]
          · rw [mk_len]; rfl
    | @sgn T S' ts' hT hr' =>
      obtain ⟨hne, hnr, n32, n10, n35, h2⟩ := sgn_of hT
      obtain ⟨c, r, rfl⟩ := List.exists_cons_of_ne_nil hne
      have hcx := hc0 c (r ++ S') rfl
      rw [List.length_append] at hl
      have hpos : 0 < (c :: r).length := Nat.succ_pos _
      rw [decide_eq_true (by omega)]
      refine iteT ⟨fun σ H' => Ex H H' ∧ H' o = some (.lst (strsV (us ++ [c :: r]))) ∧ ∃ z, σ = [some (.str x), some (.ref o), some (.int ((i + (c :: r).length : Nat) : Int)), z], ?_, ?_⟩
      · rintro σ' H' ⟨e2, ho2, z2, rfl⟩
        refine ⟨x.length - (i + (c :: r).length), by omega, e2, i + (c :: r).length, S', us ++ [c :: r], ts', z2, by omega, ?_, hr', by rw [← hts, List.append_assoc]; rfl, by rw [List.length_append]; simp only [List.length_cons, List.length_nil]; omega, rfl, ho2, rfl⟩
        rw [← List.drop_drop, hd, List.drop_left' rfl]
      · refine ⟨_, rfl, _, rfl, _, _, c, rfl, rfl, hs, atI_nat hcx, rfl, _, rfl, ?_⟩
        have d32 : decide (V.str (⟨#[c]⟩ : Str) = V.str " ") = false := (dec1 c 32).trans (decide_eq_false n32)
        have d10 : decide (V.str (⟨#[c]⟩ : Str) = V.str "\n") = false := (dec1 c 10).trans (decide_eq_false n10)
        have d35 : decide (V.str (⟨#[c]⟩ : Str) = V.str "#") = false := (dec1 c 35).trans (decide_eq_false n35)
        rw [d32]
        refine iteF ⟨_, rfl, _, rfl, _, _, c, rfl, rfl, hs, atI_nat hcx, rfl, _, rfl, ?_⟩
        rw [d10]
        refine iteF ⟨_, rfl, _, rfl, _, _, c, rfl, rfl, hs, atI_nat hcx, rfl, _, rfl, ?_⟩
        rw [d35]
        refine iteF ⟨_, rfl, _, rfl, x, i, c :: r, S', rfl, hlen, hi, hd, .inr hT, fun H2 e2 => ?_⟩
        have ho2 := e2 _ _ ho
        refine ⟨_, rfl, .inl ⟨rfl, _, SqL.of ho2⟩, _, rfl, o, _, _, rfl, rfl, ho2, ?_, ?_⟩
        · exact sz_lt (by unfold strsV; rw [List.length_map]; omega)
        · refine ⟨_, rfl, _, rfl, _, rfl, ?_, _, _, rfl, rfl, (e1.trans e2).mut no, ?_, some (.str (mk (c :: r))), ?_⟩
          · rw [mk_len]; exact sz_of (by omega)
          · rw [upd_same, strsV_add]
          · rw [mk_len]; rfl
end
end G
namespace G
open PySem PySem.Spec PyProof.Rows L2 Evl
/-! the trees of expressions -/
inductive Op where | and | xor | or
def Op.s : Op → Str | .and => "and" | .xor => "xor" | .or => "or"
def Op.f : Op → Bool → Bool → Bool | .and => Bool.and | .xor => bne | .or => Bool.or
inductive Tr where
  | name (x : Str) | const (b : Bool) | neg (t : Tr) | bin (o : Op) (l r : Tr)
theorem Op.ne (o : Op) : o.s ≠ "name" ∧ o.s ≠ "const" ∧ o.s ≠ "not" := by cases o <;> decide +kernel
theorem tagNe : (("const" : Str) ≠ "name") ∧ (("not" : Str) ≠ "name") ∧ (("not" : Str) ≠ "const") := by decide +kernel
def Tr.parts : Tr → List Tr | .neg t => [t] | .bin _ l r => [l, r] | _ => []
def Tr.post : Tr → List Tr
  | .neg t => t.post ++ [.neg t]
  | .bin o l r => l.post ++ r.post ++ [.bin o l r]
  | .name x => [.name x]
  | .const b => [.const b]
theorem Tr.post_eq (t : Tr) : t.post = t.parts.flatMap Tr.post ++ [t] := by
  cases t with
  | neg t => simp [Tr.post, Tr.parts]
  | bin o l r => simp [Tr.post, Tr.parts]
  | name x => rfl
  | const b => rfl
def Tr.ev (f : Str → Bool) : Tr → Bool
  | .name x => f x
  | .const b => b
  | .neg t => !t.ev f
  | .bin o l r => o.f (l.ev f) (r.ev f)
/-- the value at the head of a written tree -/
def Tr.tag : Tr → Str | .name _ => "name" | .const _ => "const" | .neg _ => "not" | .bin o _ _ => o.s
def TreeAt (K : PySem.W.Frag) (H : Hp) : V → Tr → Prop
  | v, .name x => ∃ a, v = .ref a ∧ SqT K H a [.str "name", .str x]
  | v, .const b => ∃ a, v = .ref a ∧ SqT K H a [.str "const", .bl b]
  | v, .neg t => ∃ a x, v = .ref a ∧ SqT K H a [.str "not", x] ∧ TreeAt K H x t
  | v, .bin o l r => ∃ a x y, v = .ref a ∧ SqT K H a [.str o.s, x, y] ∧ TreeAt K H x l ∧ TreeAt K H y r
theorem TreeAt.ex {K : PySem.W.Frag} {H H' : Hp} (e : Ex H H') : ∀ {v : V} {t : Tr}, TreeAt K H v t → TreeAt K H' v t
  | v, .name x, ⟨a, h1, h2⟩ => ⟨a, h1, ex_t e h2⟩
  | v, .const b, ⟨a, h1, h2⟩ => ⟨a, h1, ex_t e h2⟩
  | v, .neg t, ⟨a, x, h1, h2, h3⟩ => ⟨a, x, h1, ex_t e h2, h3.ex e⟩
  | v, .bin o l r, ⟨a, x, y, h1, h2, h3, h4⟩ => ⟨a, x, y, h1, ex_t e h2, h3.ex e, h4.ex e⟩
/-- what stands at a tree: its tag, its parts -/
def Ins (K : PySem.W.Frag) (H : Hp) (zs : List V) : Tr → Prop
  | .name x => zs = [.str x]
  | .const b => zs = [.bl b]
  | .neg t => All2 (TreeAt K H) zs [t]
  | .bin _ l r => All2 (TreeAt K H) zs [l, r]
theorem TreeAt.seq {K : PySem.W.Frag} {H : Hp} {v : V} {t : Tr} (h : TreeAt K H v t) : ∃ a zs, v = .ref a ∧ SqT K H a (.str t.tag :: zs) ∧ Ins K H zs t := by
  cases t with
  | name x => obtain ⟨a, h1, h2⟩ := h; exact ⟨a, _, h1, h2, rfl⟩
  | const b => obtain ⟨a, h1, h2⟩ := h; exact ⟨a, _, h1, h2, rfl⟩
  | neg t => obtain ⟨a, x, h1, h2, h3⟩ := h; exact ⟨a, [x], h1, h2, All2.nil.snoc h3⟩
  | bin o l r => obtain ⟨a, x, y, h1, h2, h3, h4⟩ := h; exact ⟨a, [x, y], h1, h2, (All2.nil.snoc h3).snoc h4⟩
/-! columns as numbers: the bit r is that of the row r -/
def colN (f : Nat → Bool) : Nat → Nat
  | 0 => 0
  | n + 1 => colN f n + if f n then 2 ^ n else 0
theorem colN_lt (f : Nat → Bool) : ∀ n, colN f n < 2 ^ n
  | 0 => by show 0 < 1; decide
  | n + 1 => by
    have h := colN_lt f n
    show colN f n + _ < 2 ^ (n + 1)
    rw [Nat.pow_succ]
    split <;> omega
theorem colN_bit (f : Nat → Bool) : ∀ n r, (colN f n).testBit r = (decide (r < n) && f r)
  | 0, r => by show (0 : Nat).testBit r = _; simp
  | n + 1, r => by
    have h := colN_lt f n
    show (colN f n + if f n then 2 ^ n else 0).testBit r = _
    by_cases hf : f n = true
    · rw [if_pos hf, Nat.add_comm]
      rcases Nat.lt_trichotomy r n with q | q | q
      · rw [Nat.testBit_two_pow_add_gt q, colN_bit f n r, decide_eq_true q, decide_eq_true (by omega : r < n + 1)]
      · subst q
        rw [Nat.testBit_two_pow_add_eq, colN_bit f r r, hf]; simp
      · rw [Nat.testBit_lt_two_pow (Nat.lt_of_lt_of_le (by rw [Nat.pow_succ]; omega : 2 ^ n + colN f n < 2 ^ (n + 1)) (Nat.pow_le_pow_right (by decide) q)), decide_eq_false (by omega : ¬ r < n + 1)]; rfl
    · rw [if_neg hf, Nat.add_zero, colN_bit f n r]
      by_cases q : r = n
      · subst q; simp [hf]
      · have : decide (r < n + 1) = decide (r < n) := by
          by_cases z : r < n
          · rw [decide_eq_true z, decide_eq_true (by omega)]
          · rw [decide_eq_false z, decide_eq_false (by omega)]
        rw [this]
theorem colN_op (n : Nat) (f g : Nat → Bool) : (colN f n &&& colN g n = colN (fun r => f r && g r) n) ∧ (colN f n ||| colN g n = colN (fun r => f r || g r) n) ∧ (colN f n ^^^ colN g n = colN (fun r => f r != g r) n) := by
  refine ⟨Nat.eq_of_testBit_eq fun r => ?_, Nat.eq_of_testBit_eq fun r => ?_, Nat.eq_of_testBit_eq fun r => ?_⟩
  · rw [Nat.testBit_and, colN_bit, colN_bit, colN_bit]; cases decide (r < n) <;> simp
  · rw [Nat.testBit_or, colN_bit, colN_bit, colN_bit]; cases decide (r < n) <;> simp
  · rw [Nat.testBit_xor, colN_bit, colN_bit, colN_bit]; cases decide (r < n) <;> simp
theorem colN_one (n : Nat) : colN (fun _ => true) n = 2 ^ n - 1 := by
  refine Nat.eq_of_testBit_eq fun r => ?_
  rw [colN_bit, Nat.testBit_two_pow_sub_one]; simp
theorem colN_zero (n : Nat) : colN (fun _ => false) n = 0 := by
  refine Nat.eq_of_testBit_eq fun r => ?_
  rw [colN_bit]; simp
theorem colN_congr {f g : Nat → Bool} : ∀ n, (∀ r, r < n → f r = g r) → colN f n = colN g n
  | 0, _ => rfl
  | n + 1, h => by
    show colN f n + _ = colN g n + _
    rw [colN_congr n fun r hr => h r (by omega), h n (by omega)]
/-! the stack of the columns -/
def Good (g : Tr) : List Tr → List Tr → Prop
  | S, [] => S = [g]
  | S, τ :: l => ∃ S', S = S' ++ τ.parts ∧ Good g (S' ++ [τ]) l
theorem good_post (g : Tr) : ∀ (t : Tr) (S l : List Tr), Good g (S ++ [t]) l → Good g S (t.post ++ l)
  | .name x, S, l, h => ⟨S, by simp [Tr.parts], h⟩
  | .const b, S, l, h => ⟨S, by simp [Tr.parts], h⟩
  | .neg t, S, l, h => by
    show Good g S (t.post ++ [Tr.neg t] ++ l)
    rw [List.append_assoc]
    exact good_post g t S _ ⟨S, rfl, h⟩
  | .bin o a b, S, l, h => by
    show Good g S (a.post ++ b.post ++ [Tr.bin o a b] ++ l)
    rw [List.append_assoc, List.append_assoc]
    exact good_post g a S _ (good_post g b _ _ ⟨S, by simp [Tr.parts], h⟩)
theorem good_all (t : Tr) : Good t [] t.post := by
  have := good_post t t [] [] rfl
  rw [List.append_nil] at this
  exact this
def asg (ns : List Str) (r : Nat) : Str → Bool := fun x => r.testBit (ns.idxOf x)
def maskN (ns : List Str) (n : Nat) (t : Tr) : Nat := colN (fun r => t.ev (asg ns r)) n
end G
namespace G
open PySem PySem.Spec PyProof.Rows L2 Evl
structure TxtE (mg : Str → Option Value) : Prop where
  len : mg "len" = none
  range : mg "range" = none
  enumerate : mg "enumerate" = none
  sum : mg "sum" = none
  tuple : mg "tuple" = none
  set : mg "set" = none
  sorted : mg "sorted" = none
section
open AutoSeq1 (wpAny_loadPart')
theorem ext_tup (l : Addr) (items : Array Value) (n : Nat) (b : Addr) (items2 : Array Value) (n2 : Nat) (dd : Option Addr) (sl : Array (Option Value)) (h0 : ¬(!items.isEmpty && Builtin.List.listTooLong (items.size + items2.size)) = true) (h1 : items.size ≤ sizeLine) (h2 : items.size + items2.size ≤ sizeLine + 1) :
    Meets (Builtin.«list.extend» ⟨[.ref l, .ref b], []⟩) (fun _ R s => s.heap.get? l = some { cls := .type "list", dict := none, data := .seq items n, slots := #[] } ∧ s.heap.get? b = some { cls := .type "tuple", dict := dd, data := .seq items2 n2, slots := sl } ∧ R (.ok (.ret Value.none)) { s with heap := s.heap.update l (Obj.mapSeq fun x => x ++ items2), toks := s.toks }) :=
  .of_wp fun prog w A R s h => by
    obtain ⟨hp, g, d, tk, os⟩ := s; obtain ⟨hl, hb, h⟩ := h; have f1 := AutoSeq1.idx_int; have f2 := AutoSeq1.sub_tuple_tuple; have f3 := AutoSeq1.sub_list_list; have f4 := AutoSeq1.sub_tuple_list; have f5 := AutoSeq1.sub_list_tuple
    have hz : (items ++ items2).size ≤ sizeLine + 1 := by rw [Array.size_append]; exact h2
    wp_walk using (wpAny_updateSeq hl rfl (hz := h1) (_hz' := hz)), wpAny_loadPart' hl, wpAny_loadPart' hb; exact ⟨_, rfl, h⟩
end
section
variable {X : Cx}
/-- list.extend by a tuple -/
def rExtT (K : PySem.W.Frag) : V → List V → Hp → VK → Prop := fun x vs H Q => ∃ l b xs zs, x = .ref l ∧ vs = [.ref b] ∧ H l = some (.lst xs) ∧ SqT K H b zs ∧ xs.length + zs.length ≤ sizeLine ∧ Q .non (upd H l (.lst (xs ++ zs)))
theorem mt_extT : MtM X "list.extend" (rExtT X.K) := by
  intro pins s σ H x vs v us Q I rx rv h
  obtain ⟨l, b, xs, zs, rfl, rfl, hH, hB, hz, q⟩ := h
  cases rx
  obtain ⟨u, rfl, ru⟩ := rv.one
  cases ru
  obtain ⟨z, its, n, r, hl, e⟩ := I.lstM hH
  obtain ⟨its2, r2, ⟨⟨oc, od, oda, os⟩, ho, hcl, n2, hda⟩, hz2⟩ := I.tuple hB
  simp only at hcl hda
  subst hcl; subst hda
  have l2 : its2.length = zs.length := r2.length.symm
  have hsz : its.toArray.size + its2.length ≤ sizeLine := by rw [List.size_toArray, l2, ← hl]; exact hz
  have hlong : ¬ (!its.toArray.isEmpty && Builtin.List.listTooLong (its.toArray.size + its2.toArray.size)) = true := by
    rw [List.size_toArray (as := its2), notLongL hsz, Bool.and_false]
    exact Bool.false_ne_true
  refine call_meets F.slot_list_extend ⟨_, e, rfl⟩ F.entry_list_extend (F.args_list_extend_2 _ _)
    (ext_tup l its.toArray n b its2.toArray n2 od os hlong (by omega) (by rw [List.size_toArray (as := its2)]; omega)) ⟨e, ho, ?_⟩
  refine ⟨.non, _, I.lset (its' := its ++ its2) hH e (by simp) (r.append r2) ?_, rfl, q⟩
  rw [List.length_append]
  rw [List.size_toArray] at hsz
  omega
end
section
variable {P : Program} {w : World} {K : PySem.W.Frag} {mg : Str → Option Value} {base : Heap}
def spOps : Sp := fun vs H Q _ => ∃ (v : V) (t : Tr) (H0 : Hp), vs = [v] ∧ Ex H0 H ∧ TreeAt K H0 v t ∧ ∀ (p : Addr) (zs : List V) (H' : Hp), Ex H H' → SqT K H' p zs → All2 (TreeAt K H0) zs t.parts → Q (.ref p) H'
theorem sc_operands : FnScope ["tree"] ["tree"] (defScope s_operands) := ⟨rfl, rfl, rfl, by decide +kernel, rfl, by decide +kernel, by decide +kernel⟩
theorem ok_operands (D : Dfd K mg "operands" s_operands ["tree"]) : Has P w K mg base 1 "operands" ["tree"] (spOps (K := K)) := by
  refine D.has fun f fd F => F.ok sc_operands (fun vs H Q E h => ?_) (fun cdv A outer s H vs Q E hr h => ?_)
  · obtain ⟨v, t, H0, rfl, _⟩ := h
    rfl
  · obtain ⟨v, t, H0, rfl, E0, ht, q⟩ := h
    refine ⟨_, (pss_cons (ps_if (PW.pt (pw_or (pt_cmpR op_eq (pe_ix ix_tup (pv 0) pe_int (fun _ _ => rfl)) pe_str (nomark _)) (pw_or1 (pt_cmpR op_eq (pe_ix ix_tup (pv 0) pe_int (fun _ _ => rfl)) pe_str (nomark _)))))
      (pss_one (ps_ret (pe_tup pa_nil)))
      pss_nil)
    (pss_one (ps_ret (pe_slice sl_tupA (pv 0) (po_some pe_int) po_none)))), ?_⟩
    obtain ⟨a, zs, rfl, hs0, hz⟩ := ht.seq
    have hs := ex_t E0 hs0
    have n1 : (V.str t.tag :: zs)[0]? = some (V.str t.tag) := rfl
    refine ⟨_, rfl, _, _, _, _, rfl, rfl, hs, atI_nat (j := 0) n1, rfl, _, rfl, ?_⟩
    have done : (t.tag = "name" ∨ t.tag = "const") → ∀ p, H p = none → Q (.ref p) (upd H p (.tup [])) := fun c p np => by
      refine q p [] _ (Ex.new np) (SqT.of upd_same) ?_
      cases t with
      | name x => exact All2.nil
      | const b => exact All2.nil
      | neg t => exact absurd c (by show ¬ ((("not" : Str) = "name") ∨ (("not" : Str) = "const")); decide +kernel)
      | bin o l r => exact absurd c (fun z => z.elim o.ne.1 o.ne.2.1)
    refine ite2 (fun c1 => ?_) (fun c1 => ?_)
    · refine ⟨(by show 0 ≤ sizeLine; decide), fun p np => done (.inl ?_) p np⟩
      exact V.str.inj (of_decide_eq_true c1)
    refine ⟨_, rfl, _, _, _, _, rfl, rfl, hs, atI_nat (j := 0) n1, rfl, _, rfl, ite2 (fun c2 => ?_) (fun c2 => ?_)⟩
    · refine ⟨(by show 0 ≤ sizeLine; decide), fun p np => done (.inr ?_) p np⟩
      exact V.str.inj (of_decide_eq_true c2)
    have hz' : All2 (TreeAt K H0) zs t.parts := by
      cases t with
      | name x => exact absurd (decide_eq_true rfl) c1
      | const b => exact absurd (decide_eq_true rfl) c2
      | neg t => exact hz
      | bin o l r => exact hz
    refine ⟨_, rfl, _, rfl, a, _, rfl, hs, fun z => ?_, fun _ p np => ?_⟩
    · have := z.1
      unfold HT.sIx at this
      simp at this
    · refine q p zs _ (Ex.new np) (SqT.of (upd_same.trans ?_)) hz'
      have e : cutV (V.str t.tag :: zs) (some 1) none = zs := by
        unfold cutV HT.sIx
        simp
      rw [e]
def spPost : Sp := fun vs H Q _ => ∃ (v : V) (t : Tr) (H0 : Hp), vs = [v] ∧ Ex H0 H ∧ TreeAt K H0 v t ∧ t.post.length ≤ 10000 ∧ ∀ (p : Addr) (zs : List V) (H' : Hp), Ex H H' → H p = none → H' p = some (.lst zs) → All2 (TreeAt K H0) zs t.post → Q (.ref p) H'
theorem sc_postorder : FnScope ["tree", "found", "waiting", "part"] ["tree"] (defScope s_postorder) := ⟨rfl, rfl, rfl, by decide +kernel, rfl, by decide +kernel, by decide +kernel⟩
theorem ok_postorder (D : Dfd K mg "postorder" s_postorder ["tree"]) (C1 : Has P w K mg base 1 "operands" ["tree"] (spOps (K := K))) : Has P w K mg base 2 "postorder" ["tree"] (spPost (K := K)) := by
  obtain ⟨f_operands, d_operands, G_operands, g_operands, k_operands, b_operands⟩ := C1
  refine D.has fun f fd F => F.ok sc_postorder (fun vs H Q E h => ?_) (fun cdv A outer s H vs Q E hr h => ?_)
  · obtain ⟨v, t, H0, rfl, _⟩ := h
    rfl
  · obtain ⟨v, t, H0, rfl, E0, ht, hn, q⟩ := h
    refine ⟨_, (pss_cons (ps_set (i := 1) sc_postorder.nd rfl (.inl rfl) (pe_lst pa_nil))
    (pss_cons (ps_set (i := 2) sc_postorder.nd rfl (.inl rfl) (pe_lst (pa_cons (pv 0) pa_nil)))
    (pss_cons (ps_while PassesOwn.never (pt_truth (pv 2) (by intro _; rfl))
      (pss_cons (ps_set (i := 3) sc_postorder.nd rfl (.inl rfl) (pe_bm0 PySem.F.plainAttrs_list PySem.F.slot_list_pop PySem.F.type_list_pop mt_pop (pv 2)))
      (pss_cons (ps_expr (pe_bm PySem.F.plainAttrs_list PySem.F.slot_list_append PySem.F.type_list_append mt_append (pv 1) (pa_cons (pv 3) pa_nil)))
      (pss_one (ps_expr (pe_bm PySem.F.plainAttrs_list PySem.F.slot_list_extend PySem.F.type_list_extend mt_extT (pv 2) (pa_cons (pe_call G_operands (hr.mono (by omega)) (by rfl) g_operands k_operands b_operands .nil pass0 (pa_cons (pv 3) pa_nil)) pa_nil)))))))
    (pss_one (ps_ret (pe_revL (pv 1))))))), ?_⟩
    have hv0 := ht
    refine ⟨(by show 0 ≤ sizeLine; decide), fun L1 n1 => ⟨_, rfl, (by show 1 ≤ sizeLine; decide), fun L2 n2 => ?_⟩⟩
    have E1 : Ex H (upd H L1 (.lst [])) := Ex.new n1
    have h1 : upd H L1 (.lst []) L1 = some (.lst []) := upd_same
    generalize upd H L1 (.lst []) = H1 at *
    have E2 : Ex H (upd H1 L2 (.lst [v])) := E1.mut (fresh_back E1 n2)
    have ne : L1 ≠ L2 := ne_of_none h1 n2
    refine ⟨fun m σ H' => Ex H H' ∧ ∃ (fs ws : List V) (F W : List Tr) (z : Option V), H' L1 = some (.lst fs) ∧ H' L2 = some (.lst ws) ∧ All2 (TreeAt K H0) fs F ∧ All2 (TreeAt K H0) ws W ∧ F ++ (W.flatMap Tr.post).reverse = t.post.reverse ∧ (W.flatMap Tr.post).length = m ∧ σ = [some v, some (.ref L1), some (.ref L2), z],
      ⟨t.post.length, E2, [], [v], [], [t], none, (upd_ne ne).trans h1, upd_same, .nil, All2.nil.snoc ht, by simp, by simp, rfl⟩, ?_⟩
    rintro m σ H2 ⟨E3, fs, ws, F, W, z, hF, hW, aF, aW, hI, hm, rfl⟩
    refine ⟨_, rfl, !ws.isEmpty, .inl ⟨_, SqL.of hW, rfl⟩, ite2 (fun c1 => ?_) (fun c1 => ?_)⟩
    · obtain ⟨ws', x, rfl⟩ : ∃ ws' x, ws = ws' ++ [x] := by
        rcases List.eq_nil_or_concat ws with rfl | ⟨L, b, rfl⟩
        · cases c1
        · exact ⟨L, b, List.concat_eq_append⟩
      obtain ⟨W', τ, rfl⟩ : ∃ W' τ, W = W' ++ [τ] := by
        rcases List.eq_nil_or_concat W with rfl | ⟨L, b, rfl⟩
        · have := aW.1; rw [List.length_append] at this; cases this
        · exact ⟨L, b, List.concat_eq_append⟩
      have hl : ws'.length = W'.length := by have := aW.1; rw [List.length_append, List.length_append] at this; exact Nat.succ.inj this
      have hx : TreeAt K H0 x τ := aW.2 ws'.length x τ (by rw [List.getElem?_append_right (Nat.le_refl _), Nat.sub_self]; rfl) (by rw [hl, List.getElem?_append_right (Nat.le_refl _), Nat.sub_self]; rfl)
      have aW' : All2 (TreeAt K H0) ws' W' := ⟨hl, fun i a b ha hb => aW.2 i a b (by rw [List.getElem?_append_left (List.getElem?_eq_some_iff.mp ha).1]; exact ha) (by rw [List.getElem?_append_left (List.getElem?_eq_some_iff.mp hb).1]; exact hb)⟩
      have eW : ((W' ++ [τ]).flatMap Tr.post).reverse = τ :: ((τ.parts.flatMap Tr.post).reverse ++ (W'.flatMap Tr.post).reverse) := by
        rw [List.flatMap_append, List.flatMap_singleton, τ.post_eq]; simp
      have eL : ((W' ++ [τ]).flatMap Tr.post).length = ((W' ++ τ.parts).flatMap Tr.post).length + 1 := by
        rw [List.flatMap_append, List.flatMap_append, List.flatMap_singleton, τ.post_eq]; simp; omega
      refine ⟨fun σ' H' => Ex H H' ∧ ∃ (fs ws : List V) (F W : List Tr) (z : Option V), H' L1 = some (.lst fs) ∧ H' L2 = some (.lst ws) ∧ All2 (TreeAt K H0) fs F ∧ All2 (TreeAt K H0) ws W ∧ F ++ (W.flatMap Tr.post).reverse = t.post.reverse ∧ (W.flatMap Tr.post).length < m ∧ σ' = [some v, some (.ref L1), some (.ref L2), z], ?_, ?_⟩
      · rintro σ' H' ⟨b1, b2, b3, b4, b5, b6, b7, b8, b9, b10, b11, b12, b13⟩
        exact ⟨_, b12, b1, b2, b3, b4, b5, b6, b7, b8, b9, b10, b11, rfl, b13⟩
      have n10 : H L1 = none := n1
      have n20 : H L2 = none := fresh_back E1 n2
      refine ⟨_, rfl, .inl ⟨rfl, _, SqL.of hW⟩, L2, _, x, rfl, rfl, hW, by simp, ?_⟩
      have E4 : Ex H (upd H2 L2 (.lst (ws' ++ [x]).dropLast)) := E3.mut n20
      have hW4 : upd H2 L2 (.lst (ws' ++ [x]).dropLast) L2 = some (.lst ws') := by rw [upd_same, List.dropLast_concat]
      have hF4 : upd H2 L2 (.lst (ws' ++ [x]).dropLast) L1 = some (.lst fs) := (upd_ne ne).trans hF
      generalize upd H2 L2 (.lst (ws' ++ [x]).dropLast) = H4 at *
      have hpos : ∀ l : List Tr, l.length ≤ (l.flatMap Tr.post).length := fun l => by
        induction l with
        | nil => exact Nat.le_refl _
        | cons a l ih => rw [List.flatMap_cons, List.length_append, List.length_cons, a.post_eq, List.length_append, List.length_singleton]; omega
      have hsz : F.length + (W' ++ τ.parts).length + 1 ≤ 10000 := by
        have h1 := congrArg List.length hI
        rw [List.length_append, List.length_reverse, List.length_reverse, eL] at h1
        have := hpos (W' ++ τ.parts)
        omega
      refine ⟨_, rfl, .inl ⟨rfl, _, SqL.of hF4⟩, _, rfl, L1, _, _, rfl, rfl, hF4, sz_lt (by rw [aF.1]; omega), ?_⟩
      have E5 : Ex H (upd H4 L1 (.lst (fs ++ [x]))) := E4.mut n10
      have hF5 : upd H4 L1 (.lst (fs ++ [x])) L1 = some (.lst (fs ++ [x])) := upd_same
      have hW5 : upd H4 L1 (.lst (fs ++ [x])) L2 = some (.lst ws') := (upd_ne ne.symm).trans hW4
      generalize upd H4 L1 (.lst (fs ++ [x])) = H5 at *
      refine ⟨_, rfl, .inl ⟨rfl, _, SqL.of hW5⟩, _, rfl, x, τ, H0, rfl, E0.trans E5, hx, fun p zs H6 E6 hp aZ => ?_⟩
      refine ⟨L2, p, _, zs, rfl, rfl, E6 _ _ hW5, hp, ?_, ?_⟩
      · rw [List.length_append] at hsz
        rw [hl, aZ.1]
        exact sz_of (by omega)
      · refine ⟨(E5.trans E6).mut n20, fs ++ [x], ws' ++ zs, F ++ [τ], W' ++ τ.parts, _, (upd_ne ne).trans (E6 _ _ hF5), upd_same, aF.snoc hx, ?_, ?_, by omega, rfl⟩
        · refine ⟨by rw [List.length_append, List.length_append, hl, aZ.1], fun i a b ha hb => ?_⟩
          by_cases hi : i < ws'.length
          · rw [List.getElem?_append_left hi] at ha
            rw [List.getElem?_append_left (hl ▸ hi)] at hb
            exact aW'.2 i a b ha hb
          · rw [List.getElem?_append_right (by omega)] at ha
            rw [List.getElem?_append_right (by omega), ← hl] at hb
            exact aZ.2 _ a b ha hb
        · rw [← hI, eW, List.flatMap_append, List.reverse_append, List.append_assoc]; rfl
    · have e0 : ws = [] := by cases ws; rfl; exact absurd rfl c1
      subst e0
      have e1 : W = [] := List.length_eq_zero_iff.mp aW.1.symm
      subst e1
      refine ⟨_, rfl, _, _, rfl, SqL.of hF, fun p np => ?_⟩
      have hI' : F = t.post.reverse := by simpa using hI
      subst hI'
      refine q p fs.reverse _ (E3.trans (Ex.new np)) (fresh_back E3 np) upd_same ⟨by rw [List.length_reverse, aF.1, List.length_reverse], fun i a b ha hb => ?_⟩
      have hi : i < fs.length := by have := (List.getElem?_eq_some_iff.mp ha).1; rw [List.length_reverse] at this; exact this
      rw [List.getElem?_reverse hi] at ha
      refine aF.2 _ a b ha ?_
      have hl' : fs.length = t.post.length := by rw [aF.1, List.length_reverse]
      rw [List.getElem?_reverse (by omega), ← hb]
      congr 1
      omega
theorem nodup_sub : ∀ {l ks : List Str}, l.Nodup → (∀ x ∈ l, x ∈ ks) → l.length ≤ ks.length
  | [], _, _, _ => Nat.zero_le _
  | x :: l, ks, d, m => by
    obtain ⟨d1, d2⟩ := List.nodup_cons.mp d
    have hx := m x List.mem_cons_self
    have h := nodup_sub d2 (fun y hy => (List.mem_erase_of_ne fun e : y = x => d1 (e ▸ hy)).mpr (m y (List.mem_cons_of_mem _ hy)))
    rw [List.length_erase_of_mem hx] at h
    have := List.length_pos_of_mem hx
    rw [List.length_cons]; omega
end
end G
namespace G
open PySem PySem.Spec PyProof.Rows L2 Evl TL
/-- tuples never change -/
def TX (H H' : Hp) : Prop := ∀ (b : Addr) (xs : List V), H b = some (.tup xs) → H' b = some (.tup xs)
theorem TX.trans {H H1 H2 : Hp} (a : TX H H1) (b : TX H1 H2) : TX H H2 := fun c xs h => b c xs (a c xs h)
theorem TX.of {H H' : Hp} (e : Ex H H') : TX H H' := fun b xs h => e b _ h
theorem TX.px {p a : Addr} {H H' : Hp} (x : Px p a H H') : TX H H' := fun b xs h => by
  obtain ⟨_, _, _, _, _, e, _⟩ := x.was
  exact x.at_ (b := b) (o := .tup xs) (by rw [hid_ne (ne_of h e (by intro z; cases z))]; exact h)
/-- a tree in tuples that stand in the heap -/
def TreeH (H : Hp) : V → Tr → Prop
  | v, .name x => ∃ a, v = .ref a ∧ H a = some (.tup [.str "name", .str x])
  | v, .const b => ∃ a, v = .ref a ∧ H a = some (.tup [.str "const", .bl b])
  | v, .neg t => ∃ a x, v = .ref a ∧ H a = some (.tup [.str "not", x]) ∧ TreeH H x t
  | v, .bin o l r => ∃ a x y, v = .ref a ∧ H a = some (.tup [.str o.s, x, y]) ∧ TreeH H x l ∧ TreeH H y r
theorem TreeH.te {H H' : Hp} (e : TX H H') : ∀ {v : V} {t : Tr}, TreeH H v t → TreeH H' v t
  | v, .name x, ⟨a, h1, h2⟩ => ⟨a, h1, e _ _ h2⟩
  | v, .const b, ⟨a, h1, h2⟩ => ⟨a, h1, e _ _ h2⟩
  | v, .neg t, ⟨a, x, h1, h2, h3⟩ => ⟨a, x, h1, e _ _ h2, h3.te e⟩
  | v, .bin o l r, ⟨a, x, y, h1, h2, h3, h4⟩ => ⟨a, x, y, h1, e _ _ h2, h3.te e, h4.te e⟩
theorem TreeH.at_ {K : PySem.W.Frag} {H : Hp} : ∀ {v : V} {t : Tr}, TreeH H v t → TreeAt K H v t
  | v, .name x, ⟨a, h1, h2⟩ => ⟨a, h1, SqT.of h2⟩
  | v, .const b, ⟨a, h1, h2⟩ => ⟨a, h1, SqT.of h2⟩
  | v, .neg t, ⟨a, x, h1, h2, h3⟩ => ⟨a, x, h1, SqT.of h2, h3.at_⟩
  | v, .bin o l r, ⟨a, x, y, h1, h2, h3, h4⟩ => ⟨a, x, y, h1, SqT.of h2, h3.at_, h4.at_⟩
theorem TreeH.ex {H H' : Hp} (e : Ex H H') {v : V} {t : Tr} (h : TreeH H v t) : TreeH H' v t := h.te (.of e)
theorem TreeH.hid {p a : Addr} {H : Hp} (hp : PoolOk p a H) {v : V} {t : Tr} (h : TreeH H v t) : TreeH (G.hid p H) v t := h.te fun b xs e => by
  have x := Px.refl hp
  obtain ⟨_, _, _, _, _, e0, _⟩ := x.was
  rw [hid_ne (ne_of e e0 (by intro z; cases z))]
  exact e
/-- a tree as data -/
def Tr.dat : Tr → D
  | .name x => .tup [.str "name", .str x]
  | .const b => .tup [.str "const", .bl b]
  | .neg t => .tup [.str "not", t.dat]
  | .bin o l r => .tup [.str o.s, l.dat, r.dat]
theorem rep2 {H : Hp} {a : Addr} {x y : V} {d e : D} (h : H a = some (.tup [x, y])) (h1 : Rep H x d) (h2 : Rep H y e) : Rep H (.ref a) (.tup [d, e]) :=
  .tup h rfl fun i z w hz hw => match i, hz, hw with
    | 0, hz, hw => by cases hz; cases hw; exact h1
    | 1, hz, hw => by cases hz; cases hw; exact h2
theorem rep3 {H : Hp} {a : Addr} {x y z : V} {d e f : D} (h : H a = some (.tup [x, y, z])) (h1 : Rep H x d) (h2 : Rep H y e) (h3 : Rep H z f) : Rep H (.ref a) (.tup [d, e, f]) :=
  .tup h rfl fun i z w hz hw => match i, hz, hw with
    | 0, hz, hw => by cases hz; cases hw; exact h1
    | 1, hz, hw => by cases hz; cases hw; exact h2
    | 2, hz, hw => by cases hz; cases hw; exact h3
theorem rep_tree {H : Hp} : ∀ {v : V} {t : Tr}, TreeH H v t → Rep H v t.dat
  | v, .name x, ⟨a, h1, h2⟩ => by subst h1; exact rep2 h2 (.str _) (.str _)
  | v, .const b, ⟨a, h1, h2⟩ => by subst h1; exact rep2 h2 (.str _) (.bl _)
  | v, .neg t, ⟨a, x, h1, h2, h3⟩ => by subst h1; exact rep2 h2 (.str _) (rep_tree h3)
  | v, .bin o l r, ⟨a, x, y, h1, h2, h3, h4⟩ => by subst h1; exact rep3 h2 (.str _) (rep_tree h3) (rep_tree h4)
def Tr.ht : Tr → Nat
  | .name _ => 1
  | .const _ => 1
  | .neg t => t.ht + 1
  | .bin _ l r => max l.ht r.ht + 1
theorem okD_tree : ∀ {n : Nat} {t : Tr}, t.ht ≤ n → okD n t.dat
  | 0, t, h => by cases t <;> simp [Tr.ht] at h
  | n + 1, .name x, _ => ⟨by show 2 < 2 ^ 61; decide, fun d hd => by
      rcases List.mem_cons.mp hd with z | z
      · subst z; cases n <;> trivial
      · rw [List.mem_singleton.mp z]; cases n <;> trivial⟩
  | n + 1, .const b, _ => ⟨by show 2 < 2 ^ 61; decide, fun d hd => by
      rcases List.mem_cons.mp hd with z | z
      · subst z; cases n <;> trivial
      · rw [List.mem_singleton.mp z]; cases n <;> trivial⟩
  | n + 1, .neg t, h => ⟨by show 2 < 2 ^ 61; decide, fun d hd => by
      rcases List.mem_cons.mp hd with z | z
      · subst z; cases n <;> trivial
      · rw [List.mem_singleton.mp z]; exact okD_tree (Nat.le_of_succ_le_succ h)⟩
  | n + 1, .bin o l r, h => ⟨by show 3 < 2 ^ 61; decide, fun d hd => by
      have h' : max l.ht r.ht ≤ n := Nat.le_of_succ_le_succ h
      rcases List.mem_cons.mp hd with z | z
      · subst z; cases n <;> trivial
      rcases List.mem_cons.mp z with z | z
      · rw [z]; exact okD_tree (by omega)
      · rw [List.mem_singleton.mp z]; exact okD_tree (by omega)⟩
end G
namespace G
open PySem PySem.Spec PyProof.Rows L2 Evl TL
/-! ## a reader of tokens -/
theorem iteY {b : Bool} {A B : Prop} (h : b = true) (a : A) : if b = true then A else B := by rw [if_pos h]; exact a
theorem iteN {b : Bool} {A B : Prop} (h : b = false) (a : B) : if b = true then A else B := by rw [if_neg (by rw [h]; decide)]; exact a
def rdF (tl : Addr) (n : Nat) : List (Str × V) := [("tokens", .ref tl), ("at", .int (n : Int))]
theorem rne : ¬ (("tokens" : Str) = "at") := by decide +kernel
theorem rdF_t (tl : Addr) (n : Nat) : (rdF tl n).lookup ("tokens" : Str) = some (.ref tl) := by unfold rdF; simp [List.lookup]
theorem rdF_a (tl : Addr) (n : Nat) : (rdF tl n).lookup ("at" : Str) = some (.int (n : Int)) := by
  unfold rdF
  have : ((("at" : Str)) == ("tokens" : Str)) = false := by decide +kernel
  simp [List.lookup, this]
theorem rdF_no (tl : Addr) (n : Nat) {m : Str} (h1 : (m == ("tokens" : Str)) = false) (h2 : (m == ("at" : Str)) = false) : (rdF tl n).lookup m = none := by
  unfold rdF
  simp [List.lookup, h1, h2]
theorem rdF_put (tl : Addr) (n m : Nat) : putF "at" (.int (m : Int)) (rdF tl n) = rdF tl m := by
  unfold rdF putF
  rw [if_neg rne]
  unfold putF
  rw [if_pos rfl]
structure Rd (C : Addr) (H : Hp) (r : Addr) (tks : List (List Nat)) (n : Nat) : Prop where
  ob : ∃ dx tl, H r = some (.ins C dx (rdF tl n)) ∧ H tl = some (.lst (strsV tks))
/-- all but the reader is kept -/
def Kr (r : Addr) (H H' : Hp) : Prop := ∀ b o, b ≠ r → H b = some o → H' b = some o
theorem Kr.refl {r : Addr} {H : Hp} : Kr r H H := fun _ _ _ h => h
theorem Kr.trans {r : Addr} {H H1 H2 : Hp} (a : Kr r H H1) (b : Kr r H1 H2) : Kr r H H2 := fun c o n h => b c o n (a c o n h)
theorem Kr.of {r : Addr} {H H' : Hp} (e : Ex H H') : Kr r H H' := fun c o _ h => e c o h
theorem Rd.ex {C : Addr} {H H' : Hp} {r : Addr} {tks : List (List Nat)} {n : Nat} (h : Rd C H r tks n) (e : Ex H H') : Rd C H' r tks n := by
  obtain ⟨dx, tl, h1, h2⟩ := h.ob
  exact ⟨dx, tl, e _ _ h1, e _ _ h2⟩
theorem strsV_at {tks : List (List Nat)} {n : Nat} {T : List Nat} (h : tks[n]? = some T) : (strsV tks)[n]? = some (.str (mk T)) := by unfold strsV; rw [List.getElem?_map, h]; rfl
theorem strsV_len (tks : List (List Nat)) : (strsV tks).length = tks.length := by unfold strsV; rw [List.length_map]
/-- what stands ahead -/
def ahd (tks : List (List Nat)) (n : Nat) : List Nat := (tks[n]?).getD []
theorem ahd_some {tks : List (List Nat)} {n : Nat} {T : List Nat} (h : tks[n]? = some T) : ahd tks n = T := by unfold ahd; rw [h]; rfl
theorem ahd_none {tks : List (List Nat)} {n : Nat} (h : tks[n]? = none) : ahd tks n = [] := by unfold ahd; rw [h]; rfl
theorem ahd_is {tks : List (List Nat)} {n : Nat} {T : List Nat} (hT : T ≠ []) : ahd tks n = T ↔ tks[n]? = some T := by
  unfold ahd
  cases h : tks[n]? with
  | none =>
    constructor
    · intro e; exact absurd e.symm hT
    · intro e; cases e
  | some U =>
    constructor
    · intro e; exact congrArg some e
    · intro e; exact Option.some.inj e
/-- the reader moves one token on -/
theorem Rd.step {C : Addr} {H : Hp} {r : Addr} {tks : List (List Nat)} {n : Nat} {dx tl : Addr} (h1 : H r = some (.ins C dx (rdF tl n))) (h2 : H tl = some (.lst (strsV tks))) : Rd C (upd H r (.ins C dx (rdF tl (n + 1)))) r tks (n + 1) ∧ Kr r H (upd H r (.ins C dx (rdF tl (n + 1)))) := by
  have hne : tl ≠ r := fun z => by rw [z, h1] at h2; cases h2
  exact ⟨⟨dx, tl, upd_same, by rw [upd_ne hne]; exact h2⟩, fun b o hb h => by rw [upd_ne hb]; exact h⟩
structure TxtRd (mg : Str → Option Value) : Prop where
  len : mg "len" = none
  list : mg "list" = none
section
variable {P : Program} {w : World} {K : PySem.W.Frag} {mg : Str → Option Value} {base : Heap}
def spRInit (C : Addr) : Sp := fun vs H Q _ => ∃ (r l dx : Addr) (tks : List (List Nat)), vs = [.ref r, .ref l] ∧ H r = some (.ins C dx []) ∧ H l = some (.lst (strsV tks)) ∧ ∀ H', Kr r H H' → Rd C H' r tks 0 → Q .non H'
theorem sc_TokenReader_init : FnScope ["self", "tokens"] ["self", "tokens"] (defScope s_TokenReader_init) := ⟨rfl, rfl, rfl, by decide +kernel, rfl, by decide +kernel, by decide +kernel⟩
theorem ok_TokenReader_init {C f : Addr} {fd : FuncData} (F : Fun K "__init__" "TokenReader.__init__" s_TokenReader_init f fd) (W : Cl_TokenReader K mg C) (T : TxtRd mg) : FnOk P w K mg base CX0 1 f fd ["self", "tokens"] (spRInit C) := by
  refine F.ok sc_TokenReader_init (fun vs H Q E h => ?_) (fun cdv A outer s H vs Q E hr h => ?_)
  · obtain ⟨_, _, _, _, rfl, _⟩ := h
    rfl
  · obtain ⟨r, l, dx, tks, rfl, h1, h2, q⟩ := h
    refine ⟨_, (pss_cons (ps_fld (pv 0) (pe_callTy call_list_of (by rfl) T.list (by decide +kernel) (pa_cons (pv 1) pa_nil)) rfl)
    (pss_one (ps_fld (pv 0) pe_int rfl))), ?_⟩
    refine ⟨_, rfl, l, _, rfl, .inl (SqL.of h2), fun l2 n2 => ?_⟩
    have h1' : (upd H l2 (.lst (strsV tks))) r = some (.ins C dx []) := Ex.new n2 _ _ h1
    have hne : l2 ≠ r := fun z => by rw [z, h1] at n2; cases n2
    refine ⟨_, rfl, r, C, dx, [], rfl, h1', W.cl, W.n_tokens, (by decide), _, rfl, r, C, dx, _, rfl, upd_same, W.cl, W.n_at, (by show 1 < 1000; decide), ?_⟩
    refine q _ (fun b o hb h => ?_) ⟨dx, l2, ?_, ?_⟩
    · rw [upd_ne hb, upd_ne hb]; exact Ex.new n2 _ _ h
    · rw [upd_same]
      have : putF "at" (.int 0) (putF "tokens" (.ref l2) []) = rdF l2 0 := by
        show (if ("tokens" : Str) = "at" then _ else _) = _
        rw [if_neg rne]; rfl
      rw [this]
    · rw [upd_ne hne, upd_ne hne, upd_same]
def spAhead (C : Addr) : Sp := fun vs H Q _ => ∃ (r : Addr) (tks : List (List Nat)) (n : Nat), vs = [.ref r] ∧ Rd C H r tks n ∧ Q (.str (mk (ahd tks n))) H
theorem sc_TokenReader_ahead : FnScope ["self"] ["self"] (defScope s_TokenReader_ahead) := ⟨rfl, rfl, rfl, by decide +kernel, rfl, by decide +kernel, by decide +kernel⟩
theorem ok_TokenReader_ahead {C f : Addr} {fd : FuncData} (F : Fun K "ahead" "TokenReader.ahead" s_TokenReader_ahead f fd) (W : Cl_TokenReader K mg C) (T : TxtRd mg) : FnOk P w K mg base CX0 1 f fd ["self"] (spAhead C) := by
  refine F.ok sc_TokenReader_ahead (fun vs H Q E h => ?_) (fun cdv A outer s H vs Q E hr h => ?_)
  · obtain ⟨_, _, _, rfl, _⟩ := h
    rfl
  · obtain ⟨r, tks, n, rfl, ⟨dx, tl, h1, h2⟩, q⟩ := h
    refine ⟨_, (pss_one (ps_ret (pe_ifExp (pt_cmpR op_lt (pe_fld (pv 0) rfl) (pe_callB call_len_seq (by rfl) T.len (by decide +kernel) (pa_cons (pe_fld (pv 0) rfl) pa_nil)) (nomark _)) (pe_ix ix_list (pe_fld (pv 0) rfl) (pe_fld (pv 0) rfl) (fun _ _ => rfl)) pe_str))), ?_⟩
    refine ⟨_, rfl, r, C, dx, _, _, rfl, h1, W.cl, W.n_at, rdF_a _ _, _, rfl, r, C, dx, _, _, rfl, h1, W.cl, W.n_tokens, rdF_t _ _, tl, _, rfl, .inl (SqL.of h2), _, _, rfl, rfl, _, rfl, ?_⟩
    by_cases hn : n < tks.length
    · have hg : tks[n]? = some tks[n] := List.getElem?_eq_getElem hn
      rw [ahd_some hg] at q
      exact iteY (decide_eq_true (by rw [strsV_len]; omega)) ⟨_, rfl, r, C, dx, _, _, rfl, h1, W.cl, W.n_tokens, rdF_t _ _, _, rfl, r, C, dx, _, _, rfl, h1, W.cl, W.n_at, rdF_a _ _, _, _, _, _, rfl, rfl, SqL.of h2, atI_nat (strsV_at hg), q⟩
    · rw [ahd_none (List.getElem?_eq_none (by omega))] at q
      exact iteN (decide_eq_false (by rw [strsV_len]; omega)) q
def spTakeIf (C : Addr) : Sp := fun vs H Q _ => ∃ (r : Addr) (tks : List (List Nat)) (n : Nat) (U : List Nat), vs = [.ref r, .str (mk U)] ∧ Rd C H r tks n ∧ U ≠ [] ∧ (tks[n]? = some U → ∀ H', Kr r H H' → Rd C H' r tks (n + 1) → Q (.bl true) H') ∧ (tks[n]? ≠ some U → Q (.bl false) H)
theorem sc_TokenReader_take_if : FnScope ["self", "token"] ["self", "token"] (defScope s_TokenReader_take_if) := ⟨rfl, rfl, rfl, by decide +kernel, rfl, by decide +kernel, by decide +kernel⟩
theorem ok_TokenReader_take_if {C f fa : Addr} {fd da : FuncData} (F : Fun K "take_if" "TokenReader.take_if" s_TokenReader_take_if f fd) (W : Cl_TokenReader K mg C) (T : TxtRd mg) (M_TokenReader_ahead : Meth K C "ahead" fa) (G_TokenReader_ahead : FnOk P w K mg base CX0 1 fa da ["self"] (spAhead C)) (b_TokenReader_ahead : Binds K da ["self"] []) : FnOk P w K mg base CX0 2 f fd ["self", "token"] (spTakeIf C) := by
  have c_TokenReader := W.cl
  refine F.ok sc_TokenReader_take_if (fun vs H Q E h => ?_) (fun cdv A outer s H vs Q E hr h => ?_)
  · obtain ⟨_, _, _, _, rfl, _⟩ := h
    rfl
  · obtain ⟨r, tks, n, U, rfl, hR, hU, q1, q2⟩ := h
    refine ⟨_, (pss_cons (ps_if (pt_cmpR op_ne (pe_meth0 (pv 0) c_TokenReader M_TokenReader_ahead G_TokenReader_ahead (hr.mono (by omega)) b_TokenReader_ahead .nil pass0) (pv 1) (nomark _))
      (pss_one (ps_ret pe_bl))
      pss_nil)
    (pss_cons (ps_fldaug (pv 0) pe_int ip_add)
    (pss_one (ps_ret pe_bl)))), ?_⟩
    obtain ⟨dx, tl, h1, h2⟩ := hR.ob
    refine ⟨_, rfl, r, dx, _, rfl, h1, rdF_no _ _ rfl rfl, r, tks, n, rfl, hR, _, rfl, rfl, _, rfl, ?_⟩
    have e : decide (V.str (mk (ahd tks n)) = V.str (mk U)) = decide (ahd tks n = U) := decV_mk _ _
    by_cases hc : tks[n]? = some U
    · refine iteN (by rw [e, decide_eq_true ((ahd_is hU).mpr hc)]; rfl) ?_
      obtain ⟨s1, s2⟩ := Rd.step h1 h2
      refine ⟨_, rfl, r, C, dx, _, _, rfl, h1, W.cl, W.n_at, rdF_a _ _, _, _, rfl, rfl, dx, _, h1, (by show 2 < 1000; decide), ?_⟩
      have e2 : putF "at" (.int ((n : Int) + 1)) (rdF tl n) = rdF tl (n + 1) := rdF_put tl n (n + 1)
      have := q1 hc _ s2 s1
      rw [← e2] at this
      exact this
    · refine iteY (by rw [e, decide_eq_false fun z => hc ((ahd_is hU).mp z)]; rfl) ?_
      exact q2 hc
def spTake (C B : Addr) : Sp := fun vs H Q E => ∃ (r : Addr) (tks : List (List Nat)) (n : Nat) (U : List Nat), vs = [.ref r, .str (mk U)] ∧ Rd C H r tks n ∧ n ≤ 50000 ∧ U ≠ [] ∧ (tks[n]? = some U → ∀ H', Kr r H H' → Rd C H' r tks (n + 1) → Q .non H') ∧ (tks[n]? ≠ some U → ∀ d, H d = none → E (.ref B) (some d) (upd H d (.xd [("at", .int n)])))
theorem sc_TokenReader_take : FnScope ["self", "token"] ["self", "token"] (defScope s_TokenReader_take) := ⟨rfl, rfl, rfl, by decide +kernel, rfl, by decide +kernel, by decide +kernel⟩
theorem ok_TokenReader_take {B fB : Addr} {dB : FuncData} (OS : Own1 P w K mg base "BadSyntax" "at" B fB dB okAt) {C f fa : Addr} {fd da : FuncData} (F : Fun K "take" "TokenReader.take" s_TokenReader_take f fd) (W : Cl_TokenReader K mg C) (T : TxtRd mg) (M_TokenReader_ahead : Meth K C "ahead" fa) (G_TokenReader_ahead : FnOk P w K mg base CX0 1 fa da ["self"] (spAhead C)) (b_TokenReader_ahead : Binds K da ["self"] []) : FnOk P w K mg base (L2.CX P w) 3 f fd ["self", "token"] (spTake C B) := by
  have c_TokenReader := W.cl
  refine F.okX sc_TokenReader_take (fun vs H Q E h => ?_) (fun cdv A outer s H vs Q E hr h => ?_)
  · obtain ⟨_, _, _, _, rfl, _⟩ := h
    rfl
  · obtain ⟨r, tks, n, U, rfl, hR, hn, hU, q1, q2⟩ := h
    refine ⟨_, (pss_cons (ps_if (pt_cmpR op_ne (pe_meth0 (pv 0) c_TokenReader M_TokenReader_ahead G_TokenReader_ahead (hr.mono (by omega)) b_TokenReader_ahead .nil pass0) (pv 1) (nomark _))
      (pss_one (ps_raise rfl (takes_of rfl rfl rfl rfl) (pmk_own1 OS (hr.mono (by omega)) rfl (pa_cons (pe_fld (pv 0) rfl) pa_nil))))
      pss_nil)
    (pss_one (ps_fldaug (pv 0) pe_int ip_add))), ?_⟩
    obtain ⟨dx, tl, h1, h2⟩ := hR.ob
    refine ⟨_, rfl, r, dx, _, rfl, h1, rdF_no _ _ rfl rfl, r, tks, n, rfl, hR, _, rfl, rfl, _, rfl, ?_⟩
    have e : decide (V.str (mk (ahd tks n)) = V.str (mk U)) = decide (ahd tks n = U) := decV_mk _ _
    by_cases hc : tks[n]? = some U
    · refine iteN (by rw [e, decide_eq_true ((ahd_is hU).mpr hc)]; rfl) ?_
      obtain ⟨s1, s2⟩ := Rd.step h1 h2
      refine ⟨_, rfl, r, C, dx, _, _, rfl, h1, W.cl, W.n_at, rdF_a _ _, _, _, rfl, rfl, dx, _, h1, (by show 2 < 1000; decide), ?_⟩
      have e2 : putF "at" (.int ((n : Int) + 1)) (rdF tl n) = rdF tl (n + 1) := rdF_put tl n (n + 1)
      have := q1 hc _ s2 s1
      rw [← e2] at this
      exact this
    · refine iteY (by rw [e, decide_eq_false fun z => hc ((ahd_is hU).mp z)]; rfl) ?_
      exact ⟨_, rfl, r, C, dx, _, _, rfl, h1, W.cl, W.n_at, rdF_a _ _, mk1 (fun a na => ⟨n, rfl, hn⟩) fun d nd => q2 hc d nd⟩
def spTakeName (C B : Addr) : Sp := fun vs H Q E => ∃ (r : Addr) (tks : List (List Nat)) (n : Nat), vs = [.ref r] ∧ Rd C H r tks n ∧ n ≤ 50000 ∧ (∀ T ∈ tks, T ≠ [] ∧ T.length ≤ 50000) ∧ (∀ T, tks[n]? = some T → isName T = true → ∀ H', Kr r H H' → Rd C H' r tks (n + 1) → Q (.str (mk T)) H') ∧ ((∀ T, tks[n]? = some T → isName T = false) → ∀ H1 d, Ex H H1 → H1 d = none → E (.ref B) (some d) (upd H1 d (.xd [("at", .int n)])))
theorem sc_TokenReader_take_name : FnScope ["self", "token"] ["self"] (defScope s_TokenReader_take_name) := ⟨rfl, rfl, rfl, by decide +kernel, rfl, by decide +kernel, by decide +kernel⟩
theorem ok_TokenReader_take_name {B fB : Addr} {dB : FuncData} (OS : Own1 P w K mg base "BadSyntax" "at" B fB dB okAt) {C f fa : Addr} {fd da : FuncData} (F : Fun K "take_name" "TokenReader.take_name" s_TokenReader_take_name f fd) (W : Cl_TokenReader K mg C) (T : TxtRd mg) (M_TokenReader_ahead : Meth K C "ahead" fa) (G_TokenReader_ahead : FnOk P w K mg base CX0 1 fa da ["self"] (spAhead C)) (b_TokenReader_ahead : Binds K da ["self"] [])
    (C1 : Has P w K mg base 2 "is_name" ["token"] spIsName) : FnOk P w K mg base (L2.CX P w) 3 f fd ["self"] (spTakeName C B) := by
  obtain ⟨f_is_name, d_is_name, G_is_name, g_is_name, k_is_name, b_is_name⟩ := C1
  have c_TokenReader := W.cl
  refine F.okX sc_TokenReader_take_name (fun vs H Q E h => ?_) (fun cdv A outer s H vs Q E hr h => ?_)
  · obtain ⟨_, _, _, rfl, _⟩ := h
    rfl
  · obtain ⟨r, tks, n, rfl, hR, hn, hT, q1, q2⟩ := h
    refine ⟨_, (pss_cons (ps_set (i := 1) sc_TokenReader_take_name.nd rfl (.inl rfl) (pe_meth0 (pv 0) c_TokenReader M_TokenReader_ahead G_TokenReader_ahead (hr.mono (by omega)) b_TokenReader_ahead .nil pass0))
    (pss_cut (ps_if (PW.pt (pw_or (pt_cmpR op_eq (pv 1) pe_str (nomark _)) (pw_or1 (pt_not (pt_val (pe_call G_is_name (hr.mono (by omega)) (by rfl) g_is_name k_is_name b_is_name .nil pass0 (pa_cons (pv 1) pa_nil)))))))
      (pss_one (ps_raise rfl (takes_of rfl rfl rfl rfl) (pmk_own1 OS (hr.mono (by omega)) rfl (pa_cons (pe_fld (pv 0) rfl) pa_nil))))
      pss_nil)
    (pss_cons (ps_fldaug (pv 0) pe_int ip_add)
    (pss_one (ps_ret (pv 1)))))), ?_⟩
    obtain ⟨dx, tl, h1, h2⟩ := hR.ob
    refine ⟨_, rfl, r, dx, _, rfl, h1, rdF_no _ _ rfl rfl, r, tks, n, rfl, hR, ?_⟩
    refine ⟨fun σ H' => ∃ T, tks[n]? = some T ∧ isName T = true ∧ Ex H H' ∧ σ = [some (.ref r), some (.str (mk T))], ?_, ?_⟩
    · have e : decide (V.str (mk (ahd tks n)) = V.str "") = decide (ahd tks n = []) := decV_mk _ []
      cases hg : tks[n]? with
      | none =>
        refine ⟨_, rfl, rfl, _, rfl, ?_⟩
        rw [e, ahd_none hg]
        exact iteT (iteT ⟨_, rfl, r, C, dx, _, _, rfl, h1, W.cl, W.n_at, rdF_a _ _, mk1 (fun a na => ⟨n, rfl, hn⟩) fun d nd => q2 (fun T z => by rw [hg] at z; cases z) H d (Ex.refl _) nd⟩)
      | some U =>
        obtain ⟨u1, u2⟩ := hT U (List.mem_of_getElem? hg)
        refine ⟨_, rfl, rfl, _, rfl, ?_⟩
        rw [e, ahd_some hg, decide_eq_false u1]
        refine iteF ⟨_, rfl, U, rfl, u1, u2, fun H1 E1 => ⟨_, rfl, ?_⟩⟩
        cases hnm : isName U with
        | true => exact iteF ⟨U, rfl, hnm, E1, rfl⟩
        | false =>
          exact iteT ⟨_, rfl, r, C, dx, _, _, rfl, E1 _ _ h1, W.cl, W.n_at, rdF_a _ _, mk1 (fun a na => ⟨n, rfl, hn⟩) fun d nd => q2 (fun T z => by rw [hg] at z; rw [← Option.some.inj z]; exact hnm) H1 d E1 nd⟩
    · rintro σ H1 ⟨U, hg, hnm, E1, rfl⟩
      obtain ⟨s1, s2⟩ := Rd.step (E1 _ _ h1) (E1 _ _ h2)
      refine ⟨_, rfl, r, C, dx, _, _, rfl, E1 _ _ h1, W.cl, W.n_at, rdF_a _ _, _, _, rfl, rfl, dx, _, E1 _ _ h1, (by show 2 < 1000; decide), _, rfl, ?_⟩
      have e2 : putF "at" (.int ((n : Int) + 1)) (rdF tl n) = rdF tl (n + 1) := rdF_put tl n (n + 1)
      have := q1 U hg hnm _ ((Kr.of E1).trans s2) s1
      rw [← e2] at this
      exact this
def spTakeBit (C B : Addr) : Sp := fun vs H Q E => ∃ (r : Addr) (tks : List (List Nat)) (n : Nat), vs = [.ref r] ∧ Rd C H r tks n ∧ n ≤ 50000 ∧ ∃ b : Bool, tks[n]? = some (if b = true then [49] else [48]) ∧ ∀ H', Kr r H H' → Rd C H' r tks (n + 1) → Q (.bl b) H'
theorem sc_TokenReader_take_bit : FnScope ["self"] ["self"] (defScope s_TokenReader_take_bit) := ⟨rfl, rfl, rfl, by decide +kernel, rfl, by decide +kernel, by decide +kernel⟩
theorem ok_TokenReader_take_bit {B : Addr} {C f fa ft : Addr} {fd da dt : FuncData} (F : Fun K "take_bit" "TokenReader.take_bit" s_TokenReader_take_bit f fd) (W : Cl_TokenReader K mg C) (T : TxtRd mg) (M_TokenReader_take_if : Meth K C "take_if" fa) (G_TokenReader_take_if : FnOk P w K mg base CX0 2 fa da ["self", "token"] (spTakeIf C)) (b_TokenReader_take_if : Binds K da ["self", "token"] [])
    (M_TokenReader_take : Meth K C "take" ft) (G_TokenReader_take : FnOk P w K mg base (L2.CX P w) 3 ft dt ["self", "token"] (spTake C B)) (b_TokenReader_take : Binds K dt ["self", "token"] []) : FnOk P w K mg base (L2.CX P w) 4 f fd ["self"] (spTakeBit C B) := by
  have c_TokenReader := W.cl
  refine F.okX sc_TokenReader_take_bit (fun vs H Q E h => ?_) (fun cdv A outer s H vs Q E hr h => ?_)
  · obtain ⟨_, _, _, rfl, _⟩ := h
    rfl
  · obtain ⟨r, tks, n, rfl, hR, hn, b, hb, q⟩ := h
    refine ⟨_, (pss_cons (ps_if (pt_val (pe_meth (pv 0) c_TokenReader M_TokenReader_take_if G_TokenReader_take_if (hr.mono (by omega)) b_TokenReader_take_if .nil pass0 (pa_cons pe_str pa_nil)))
      (pss_one (ps_ret pe_bl))
      pss_nil)
    (pss_cons (ps_expr (pe_meth (pv 0) c_TokenReader M_TokenReader_take G_TokenReader_take (hr.mono (by omega)) b_TokenReader_take .nil (passes_call (takes_of rfl rfl rfl rfl) fun _ _ _ _ h => h) (pa_cons pe_str pa_nil)))
    (pss_one (ps_ret pe_bl)))), ?_⟩
    obtain ⟨dx, tl, h1, h2⟩ := id hR.ob
    refine ⟨_, rfl, r, dx, _, rfl, h1, rdF_no _ _ rfl rfl, r, tks, n, [48], rfl, hR, by simp, fun h0 H' k' R' => ⟨_, rfl, ?_⟩, fun h0 => ⟨_, rfl, ?_⟩⟩
    · cases b with
      | true => rw [hb] at h0; cases h0
      | false => exact iteT (q H' k' R')
    · cases b with
      | false => exact absurd hb h0
      | true =>
        refine iteF ⟨_, rfl, r, dx, _, rfl, h1, rdF_no _ _ rfl rfl, r, tks, n, [49], rfl, hR, hn, by simp, fun _ H' k' R' => q H' k' R', fun h0 => absurd hb h0⟩
def spTakeEnd (C B : Addr) : Sp := fun vs H Q E => ∃ (r : Addr) (tks : List (List Nat)) (n : Nat), vs = [.ref r] ∧ Rd C H r tks n ∧ n ≤ 50000 ∧ (tks.length ≤ n → Q .non H) ∧ (n < tks.length → ∀ d, H d = none → E (.ref B) (some d) (upd H d (.xd [("at", .int n)])))
theorem sc_TokenReader_take_end : FnScope ["self"] ["self"] (defScope s_TokenReader_take_end) := ⟨rfl, rfl, rfl, by decide +kernel, rfl, by decide +kernel, by decide +kernel⟩
theorem ok_TokenReader_take_end {B fB : Addr} {dB : FuncData} (OS : Own1 P w K mg base "BadSyntax" "at" B fB dB okAt) {C f : Addr} {fd : FuncData} (F : Fun K "take_end" "TokenReader.take_end" s_TokenReader_take_end f fd) (W : Cl_TokenReader K mg C) (T : TxtRd mg) : FnOk P w K mg base (L2.CX P w) 3 f fd ["self"] (spTakeEnd C B) := by
  refine F.okX sc_TokenReader_take_end (fun vs H Q E h => ?_) (fun cdv A outer s H vs Q E hr h => ?_)
  · obtain ⟨_, _, _, rfl, _⟩ := h
    rfl
  · obtain ⟨r, tks, n, rfl, ⟨dx, tl, h1, h2⟩, hn, q1, q2⟩ := h
    refine ⟨_, (pss_one (ps_if (pt_cmpR op_lt (pe_fld (pv 0) rfl) (pe_callB call_len_seq (by rfl) T.len (by decide +kernel) (pa_cons (pe_fld (pv 0) rfl) pa_nil)) (nomark _))
      (pss_one (ps_raise rfl (takes_of rfl rfl rfl rfl) (pmk_own1 OS (hr.mono (by omega)) rfl (pa_cons (pe_fld (pv 0) rfl) pa_nil))))
      pss_nil)), ?_⟩
    refine ⟨_, rfl, r, C, dx, _, _, rfl, h1, W.cl, W.n_at, rdF_a _ _, _, rfl, r, C, dx, _, _, rfl, h1, W.cl, W.n_tokens, rdF_t _ _, tl, _, rfl, .inl (SqL.of h2), _, _, rfl, rfl, _, rfl, ?_⟩
    by_cases hc : n < tks.length
    · exact iteY (decide_eq_true (by rw [strsV_len]; omega)) ⟨_, rfl, r, C, dx, _, _, rfl, h1, W.cl, W.n_at, rdF_a _ _, mk1 (fun a na => ⟨n, rfl, hn⟩) fun d nd => q2 hc d nd⟩
    · exact iteN (decide_eq_false (by rw [strsV_len]; omega)) (q1 (by omega))
end
end G
namespace G
open PySem PySem.Spec PyProof.Rows L2 Evl TL
/-! ## expressions read -/
inductive Rs where
  | ok (t : Tr) (n : Nat) | er (n : Nat)
def atomF (E : Nat → Option Rs) (tks : List (List Nat)) (n : Nat) : Option Rs :=
  match tks[n]? with
  | none => some (.er n)
  | some T =>
    if T = [40] then
      match E (n + 1) with
      | some (.ok t m) => if tks[m]? = some [41] then some (.ok t (m + 1)) else some (.er m)
      | o => o
    else if T = [48] then some (.ok (.const false) (n + 1))
    else if T = [49] then some (.ok (.const true) (n + 1))
    else if isName T = true then some (.ok (.name (mk T)) (n + 1))
    else some (.er n)
def negs : List (List Nat) → Nat
  | [] => 0
  | T :: r => if T = [33] then negs r + 1 else 0
def wrapN : Nat → Tr → Tr
  | 0, t => t
  | k + 1, t => .neg (wrapN k t)
def factorF (E : Nat → Option Rs) (tks : List (List Nat)) (n : Nat) : Option Rs :=
  match atomF E tks (n + negs (tks.drop n)) with
  | some (.ok t m) => some (.ok (wrapN (negs (tks.drop n)) t) m)
  | o => o
def loopF (nx : Nat → Option Rs) (tks : List (List Nat)) (sg : List Nat) (o : Op) : Nat → Tr → Nat → Option Rs
  | 0, _, _ => none
  | f + 1, t, n =>
    if tks[n]? = some sg then
      match nx (n + 1) with
      | some (.ok u m) => loopF nx tks sg o f (.bin o t u) m
      | x => x
    else some (.ok t n)
/-- k: the levels that are left; 0: a factor -/
def sgL : Nat → List Nat | 0 => [38] | 1 => [94] | _ => [124]
def opL : Nat → Op | 0 => .and | 1 => .xor | _ => .or
def exprF (E : Nat → Option Rs) (tks : List (List Nat)) : Nat → Nat → Option Rs
  | 0, n => factorF E tks n
  | k + 1, n =>
    match exprF E tks k n with
    | some (.ok t m) => loopF (exprF E tks k) tks (sgL k) (opL k) (tks.length + 1) t m
    | x => x
def parseF (tks : List (List Nat)) : Nat → Nat → Option Rs
  | 0, _ => none
  | d + 1, n => exprF (parseF tks d) tks 3 n
/-- what is read ends behind its begin, within the tokens -/
def Bdd (tks : List (List Nat)) (n : Nat) : Rs → Prop
  | .ok _ m => n < m ∧ m ≤ tks.length
  | .er m => m ≤ tks.length
def BdF (tks : List (List Nat)) (f : Nat → Option Rs) : Prop := ∀ n r, n ≤ tks.length → f n = some r → Bdd tks n r
theorem some_lt {α : Type} {l : List α} {n : Nat} {x : α} (h : l[n]? = some x) : n < l.length := (List.getElem?_eq_some_iff.mp h).1
theorem negs_le : ∀ l : List (List Nat), negs l ≤ l.length
  | [] => Nat.zero_le _
  | T :: r => by
    have := negs_le r
    show (if T = [33] then negs r + 1 else 0) ≤ r.length + 1
    split <;> omega
theorem atom_bd {E : Nat → Option Rs} {tks : List (List Nat)} (h : BdF tks E) : BdF tks (atomF E tks) := by
  intro n r hn e
  unfold atomF at e
  cases hg : tks[n]? with
  | none => rw [hg] at e; cases e; exact hn
  | some T =>
    have hlt := some_lt hg
    rw [hg] at e
    dsimp only at e
    split at e
    · split at e
      · rename_i t m em
        have b := h _ _ (by omega) em
        have b' : n + 1 < m ∧ m ≤ tks.length := b
        split at e
        · rename_i h41
          cases e
          exact ⟨by omega, some_lt h41⟩
        · cases e; exact b'.2
      · rename_i o ho
        cases r with
        | er m =>
          have b := h _ _ (by omega) e
          exact b
        | ok t m => exact absurd e (ho t m)
    · split at e
      · cases e; exact ⟨by omega, hlt⟩
      · split at e
        · cases e; exact ⟨by omega, hlt⟩
        · split at e
          · cases e; exact ⟨by omega, hlt⟩
          · cases e; exact hn
theorem factor_bd {E : Nat → Option Rs} {tks : List (List Nat)} (h : BdF tks E) : BdF tks (factorF E tks) := by
  intro n r hn e
  have hl : n + negs (tks.drop n) ≤ tks.length := by
    have := negs_le (tks.drop n)
    rw [List.length_drop] at this
    omega
  unfold factorF at e
  split at e
  · rename_i t m em
    cases e
    have b : n + negs (tks.drop n) < m ∧ m ≤ tks.length := atom_bd h _ _ hl em
    exact ⟨by omega, b.2⟩
  · rename_i o ho
    cases r with
    | er m => exact atom_bd h (n + negs (tks.drop n)) _ hl e
    | ok t m => exact absurd e (ho t m)
theorem loop_bd {nx : Nat → Option Rs} {tks : List (List Nat)} {sg : List Nat} {o : Op} (h : BdF tks nx) : ∀ (f : Nat) (t : Tr) (n : Nat) (r : Rs), n ≤ tks.length → loopF nx tks sg o f t n = some r → (∀ u m, r = .ok u m → n ≤ m) ∧ (match r with | .ok _ m => m ≤ tks.length | .er m => m ≤ tks.length)
  | 0, _, _, _, _, e => by cases e
  | f + 1, t, n, r, hn, e => by
    unfold loopF at e
    split at e
    · rename_i hs
      have hlt := some_lt hs
      split at e
      · rename_i u m em
        have b : n + 1 < m ∧ m ≤ tks.length := h _ _ (by omega) em
        obtain ⟨c1, c2⟩ := loop_bd h f _ m r b.2 e
        exact ⟨fun u' m' z => by have := c1 u' m' z; omega, c2⟩
      · rename_i x hx
        cases r with
        | er m => exact ⟨fun _ _ z => (by cases z), h (n + 1) _ (by omega) e⟩
        | ok t' m => exact absurd e (hx t' m)
    · cases e
      exact ⟨fun u m z => (by cases z; exact Nat.le_refl _), hn⟩
theorem expr_bd {E : Nat → Option Rs} {tks : List (List Nat)} (h : BdF tks E) : ∀ k, BdF tks (exprF E tks k)
  | 0 => factor_bd h
  | k + 1 => by
    intro n r hn e
    unfold exprF at e
    split at e
    · rename_i t m em
      have b : n < m ∧ m ≤ tks.length := expr_bd h k _ _ hn em
      obtain ⟨c1, c2⟩ := loop_bd (expr_bd h k) _ _ _ _ b.2 e
      cases r with
      | er m' => exact c2
      | ok t' m' => exact ⟨by have := c1 t' m' rfl; omega, c2⟩
    · rename_i x hx
      cases r with
      | er m => exact expr_bd h k _ _ hn e
      | ok t' m => exact absurd e (hx t' m)
theorem parse_bd (tks : List (List Nat)) : ∀ d, BdF tks (parseF tks d)
  | 0 => fun _ _ _ e => by cases e
  | d + 1 => expr_bd (parse_bd tks d) 3
/-! ## trees beside a reader that moves -/
theorem TreeH.kr {C : Addr} {H H' : Hp} {r dx : Addr} {fs : List (Str × V)} (k : Kr r H H') (hr : H r = some (.ins C dx fs)) {v : V} {t : Tr} (h : TreeH H v t) : TreeH H' v t :=
  h.te fun b xs e => k b _ (fun z => by rw [z, hr] at e; cases e) e
/-- the tokens that are asked for -/
def TksOk (tks : List (List Nat)) : Prop := tks.length ≤ 50000 ∧ ∀ T ∈ tks, T ≠ [] ∧ T.length ≤ 50000
/-- a def that reads at the reader as f says -/
def Reads (K : PySem.W.Frag) (C B : Addr) (f : List (List Nat) → Nat → Option Rs) (r : Addr) (H : Hp) (Q : VK) (E : XK) : Prop :=
  ∃ (tks : List (List Nat)) (n : Nat) (res : Rs), Rd C H r tks n ∧ n ≤ tks.length ∧ TksOk tks ∧ f tks n = some res ∧
    (∀ t m v H', res = .ok t m → Kr r H H' → Rd C H' r tks m → TreeH H' v t → Q v H') ∧ (∀ m H1 d, res = .er m → Kr r H H1 → H1 d = none → E (.ref B) (some d) (upd H1 d (.xd [("at", .int m)])))
def spAtom (K : PySem.W.Frag) (C B : Addr) (f : List (List Nat) → Nat → Option Rs) : Sp := fun vs H Q E => ∃ r : Addr, vs = [.ref r] ∧ Reads K C B f r H Q E
def spExpr (K : PySem.W.Frag) (C B : Addr) (k : Nat) (f : List (List Nat) → Nat → Option Rs) : Sp := fun vs H Q E => ∃ r : Addr, vs = [.ref r, .int ((3 - k : Nat) : Int)] ∧ Reads K C B f r H Q E
end G
namespace G
open PySem PySem.Spec PyProof.Rows L2 Evl TL
/-- the reader's methods, as they may be called -/
structure Rdr (P : Program) (w : World) (K : PySem.W.Frag) (mg : Str → Option Value) (base : Heap) (C B : Addr) : Prop where
  cl : Cls K C
  ahead : ∃ f fd, Meth K C "ahead" f ∧ FnOk P w K mg base CX0 1 f fd ["self"] (spAhead C) ∧ Binds K fd ["self"] []
  take_if : ∃ f fd, Meth K C "take_if" f ∧ FnOk P w K mg base CX0 2 f fd ["self", "token"] (spTakeIf C) ∧ Binds K fd ["self", "token"] []
  take : ∃ f fd, Meth K C "take" f ∧ FnOk P w K mg base (L2.CX P w) 3 f fd ["self", "token"] (spTake C B) ∧ Binds K fd ["self", "token"] []
  take_name : ∃ f fd, Meth K C "take_name" f ∧ FnOk P w K mg base (L2.CX P w) 3 f fd ["self"] (spTakeName C B) ∧ Binds K fd ["self"] []
  take_bit : ∃ f fd, Meth K C "take_bit" f ∧ FnOk P w K mg base (L2.CX P w) 4 f fd ["self"] (spTakeBit C B) ∧ Binds K fd ["self"] []
section
variable {P : Program} {w : World} {K : PySem.W.Frag} {mg : Str → Option Value} {base : Heap}
/-- _expression by its address -/
structure ExprC (P : Program) (w : World) (K : PySem.W.Frag) (mg : Str → Option Value) (base : Heap) (C B f : Addr) (fd : FuncData) : Prop where
  g : mg "_expression" = some (.ref f)
  k : PySem.W.keepIn K (.ref f) = true
  b : Binds K fd ["reader", "level"] []
  bd : ∃ ds, Vals [.int 0] ds ∧ Binds K fd ["reader", "level"] ds
theorem sc_atom : FnScope ["reader", "tree", "token"] ["reader"] (defScope s_atom) := ⟨rfl, rfl, rfl, by decide +kernel, rfl, by decide +kernel, by decide +kernel⟩
theorem ok_atom {C B fx : Addr} {dx0 : FuncData} {x : Nat} {g : List (List Nat) → Nat → Option Rs} (hg : ∀ tks, BdF tks (g tks)) (hx5 : 5 ≤ x) (D : Dfd K mg "_atom" s_atom ["reader"]) (R : Rdr P w K mg base C B) (X : ExprC P w K mg base C B fx dx0) (G_expression : FnOk P w K mg base (L2.CX P w) x fx dx0 ["reader", "level"] (spExpr K C B 3 g)) :
    HasX P w K mg base (x + 1) "_atom" ["reader"] (spAtom K C B fun tks => atomF (g tks) tks) := by
  obtain ⟨f1, d1, M_TokenReader_ahead, G_TokenReader_ahead, b_TokenReader_ahead⟩ := R.ahead
  obtain ⟨f2, d2, M_TokenReader_take_if, G_TokenReader_take_if, b_TokenReader_take_if⟩ := R.take_if
  obtain ⟨f3, d3, M_TokenReader_take, G_TokenReader_take, b_TokenReader_take⟩ := R.take
  obtain ⟨f4, d4, M_TokenReader_take_name, G_TokenReader_take_name, b_TokenReader_take_name⟩ := R.take_name
  obtain ⟨f5, d5, M_TokenReader_take_bit, G_TokenReader_take_bit, b_TokenReader_take_bit⟩ := R.take_bit
  have c_TokenReader := R.cl
  have g_expression := X.g
  have k_expression := X.k
  obtain ⟨ds, dv_expression, bd_expression⟩ := X.bd
  obtain ⟨f, fd, F, gf, bf⟩ := D
  refine ⟨f, fd, F.okX sc_atom (fun vs H Q E h => ?_) (fun cdv A outer s H vs Q E hr h => ?_), gf, F.kp, bf⟩
  · obtain ⟨r, rfl, _⟩ := h
    rfl
  · obtain ⟨r, rfl, tks, n, res, hR, hn, hok, hres, q1, q2⟩ := h
    refine ⟨_, (pss_cons (ps_if (pt_val (pe_meth (pv 0) c_TokenReader M_TokenReader_take_if G_TokenReader_take_if (hr.mono (by omega)) b_TokenReader_take_if .nil pass0 (pa_cons pe_str pa_nil)))
      (pss_cons (ps_set (i := 1) sc_atom.nd rfl (.inl rfl) (pe_call G_expression (hr.mono (by omega)) (by rfl) g_expression k_expression bd_expression dv_expression (passes_call (takes_of rfl rfl rfl rfl) fun _ _ _ _ h => h) (pa_cons (pv 0) pa_nil)))
      (pss_cons (ps_expr (pe_meth (pv 0) c_TokenReader M_TokenReader_take G_TokenReader_take (hr.mono (by omega)) b_TokenReader_take .nil (passes_call (takes_of rfl rfl rfl rfl) fun _ _ _ _ h => h) (pa_cons pe_str pa_nil)))
      (pss_one (ps_ret (pv 1)))))
      pss_nil)
    (pss_cons (ps_set (i := 2) sc_atom.nd rfl (.inl rfl) (pe_meth0 (pv 0) c_TokenReader M_TokenReader_ahead G_TokenReader_ahead (hr.mono (by omega)) b_TokenReader_ahead .nil pass0))
    (pss_cut (ps_if (PW.pt (pw_or (pt_cmpR op_eq (pv 2) pe_str (nomark _)) (pw_or1 (pt_cmpR op_eq (pv 2) pe_str (nomark _)))))
      (pss_one (ps_ret (pe_tup (pa_cons pe_str (pa_cons (pe_meth0 (pv 0) c_TokenReader M_TokenReader_take_bit G_TokenReader_take_bit (hr.mono (by omega)) b_TokenReader_take_bit .nil (passes_call (takes_of rfl rfl rfl rfl) fun _ _ _ _ h => h)) pa_nil)))))
      pss_nil)
    (pss_one (ps_ret (pe_tup (pa_cons pe_str (pa_cons (pe_meth0 (pv 0) c_TokenReader M_TokenReader_take_name G_TokenReader_take_name (hr.mono (by omega)) b_TokenReader_take_name .nil (passes_call (takes_of rfl rfl rfl rfl) fun _ _ _ _ h => h)) pa_nil)))))))), ?_⟩
    obtain ⟨dx, tl, h1, h2⟩ := id hR.ob
    have hl5 := hok.1
    have hres : atomF (g tks) tks n = some res := hres
    unfold atomF at hres
    refine ⟨_, rfl, r, dx, _, rfl, h1, rdF_no _ _ rfl rfl, r, tks, n, [40], rfl, hR, by simp, fun h0 H' k' R' => ⟨_, rfl, iteT ?_⟩, fun h0 => ⟨_, rfl, iteF ?_⟩⟩
    · rw [h0] at hres
      dsimp only at hres
      rw [if_pos rfl] at hres
      have hlt := some_lt h0
      cases hgx : g tks (n + 1) with
      | none => rw [hgx] at hres; cases hres
      | some r1 =>
        rw [hgx] at hres
        have bd1 := hg tks _ _ (by omega) hgx
        refine ⟨_, rfl, r, rfl, tks, n + 1, r1, R', by omega, hok, hgx, fun t m v H2 e k2 R2 T2 => ?_, fun m H1 d e k2 nd => ?_⟩
        · subst e
          have bd1' : n + 1 < m ∧ m ≤ tks.length := bd1
          dsimp only at hres
          obtain ⟨dx2, tl2, g1, g2⟩ := id R2.ob
          refine ⟨_, rfl, r, dx2, _, rfl, g1, rdF_no _ _ rfl rfl, r, tks, m, [41], rfl, R2, by omega, by simp, fun h41 H3 k3 R3 => ?_, fun h41 d nd => ?_⟩
          · rw [if_pos h41] at hres
            exact ⟨_, rfl, q1 t (m + 1) v H3 (Option.some.inj hres).symm ((k'.trans k2).trans k3) R3 (T2.kr k3 g1)⟩
          · rw [if_neg h41] at hres
            exact q2 m H2 d (Option.some.inj hres).symm (k'.trans k2) nd
        · subst e
          exact q2 m H1 d (Option.some.inj hres).symm (k'.trans k2) nd
    · refine ⟨_, rfl, r, dx, _, rfl, h1, rdF_no _ _ rfl rfl, r, tks, n, rfl, hR, fun σ H' => H' = H ∧ tks[n]? ≠ some [48] ∧ tks[n]? ≠ some [49] ∧ σ = [some (.ref r), none, some (.str (mk (ahd tks n)))], ?_, ?_⟩
      · have e1 : decide (V.str (mk (ahd tks n)) = V.str "0") = decide (ahd tks n = [48]) := decV_mk _ [48]
        have e2 : decide (V.str (mk (ahd tks n)) = V.str "1") = decide (ahd tks n = [49]) := decV_mk _ [49]
        have bit : ∀ b : Bool, tks[n]? = some (if b = true then [49] else [48]) → ∀ a H', Kr r H H' → Rd C H' r tks (n + 1) → H' a = none → Q (.ref a) (upd H' a (.tup [.str "const", .bl b])) := fun b hb a H' k' R' na => by
          have hr1 : res = .ok (.const b) (n + 1) := by
            rw [hb] at hres
            cases b <;> exact (Option.some.inj hres).symm
          exact q1 _ _ _ _ hr1 (k'.trans (Kr.of (Ex.new na))) (R'.ex (Ex.new na)) ⟨a, rfl, upd_same⟩
        refine ⟨_, rfl, rfl, _, rfl, ?_⟩
        rw [e1]
        by_cases c0 : tks[n]? = some [48]
        · rw [decide_eq_true ((ahd_is (by simp)).mpr c0)]
          exact iteT (iteT ⟨_, rfl, r, dx, _, rfl, h1, rdF_no _ _ rfl rfl, r, tks, n, rfl, hR, by omega, false, c0, fun H' k' R' => ⟨(by show 2 ≤ sizeLine; decide), fun a na => bit false c0 a H' k' R' na⟩⟩)
        · rw [decide_eq_false fun z => c0 ((ahd_is (by simp)).mp z)]
          refine iteF ⟨_, rfl, rfl, _, rfl, ?_⟩
          rw [e2]
          by_cases c1 : tks[n]? = some [49]
          · rw [decide_eq_true ((ahd_is (by simp)).mpr c1)]
            exact iteT ⟨_, rfl, r, dx, _, rfl, h1, rdF_no _ _ rfl rfl, r, tks, n, rfl, hR, by omega, true, c1, fun H' k' R' => ⟨(by show 2 ≤ sizeLine; decide), fun a na => bit true c1 a H' k' R' na⟩⟩
          · rw [decide_eq_false fun z => c1 ((ahd_is (by simp)).mp z)]
            exact iteF ⟨rfl, c0, c1, rfl⟩
      · rintro σ H' ⟨rfl, c0, c1, rfl⟩
        refine ⟨_, rfl, r, dx, _, rfl, h1, rdF_no _ _ rfl rfl, r, tks, n, rfl, hR, by omega, hok.2, fun T hT hnm H2 k2 R2 => ⟨(by show 2 ≤ sizeLine; decide), fun a na => ?_⟩, fun hno H1 d E1 nd => ?_⟩
        · rw [hT] at hres c0 c1 h0
          dsimp only at hres
          rw [if_neg (fun z => h0 (congrArg some z)), if_neg (fun z => c0 (congrArg some z)), if_neg (fun z => c1 (congrArg some z)), if_pos hnm] at hres
          exact q1 _ _ _ _ (Option.some.inj hres).symm (k2.trans (Kr.of (Ex.new na))) (R2.ex (Ex.new na)) ⟨a, rfl, upd_same⟩
        · refine q2 n H1 d ?_ (Kr.of E1) nd
          cases hT : tks[n]? with
          | none => rw [hT] at hres; exact (Option.some.inj hres).symm
          | some T =>
            rw [hT] at hres c0 c1 h0
            dsimp only at hres
            rw [if_neg (fun z => h0 (congrArg some z)), if_neg (fun z => c0 (congrArg some z)), if_neg (fun z => c1 (congrArg some z)), if_neg (by rw [hno T hT]; decide)] at hres
            exact (Option.some.inj hres).symm
end
end G
namespace G
open PySem PySem.Spec PyProof.Rows L2 Evl TL
theorem negs_hit {tks : List (List Nat)} {n : Nat} (h : tks[n]? = some [33]) : negs (tks.drop n) = negs (tks.drop (n + 1)) + 1 := by
  obtain ⟨hn, e⟩ := List.getElem?_eq_some_iff.mp h
  rw [List.drop_eq_getElem_cons hn, e]
  show (if ([33] : List Nat) = [33] then _ else 0) = _
  rw [if_pos rfl]
theorem negs_miss {tks : List (List Nat)} {n : Nat} (h : tks[n]? ≠ some [33]) : negs (tks.drop n) = 0 := by
  by_cases hn : n < tks.length
  · rw [List.drop_eq_getElem_cons hn]
    show (if tks[n] = [33] then _ else 0) = 0
    rw [if_neg fun z => h (by rw [List.getElem?_eq_getElem hn, z])]
  · rw [List.drop_eq_nil_of_le (by omega)]; rfl
section
variable {P : Program} {w : World} {K : PySem.W.Frag} {mg : Str → Option Value} {base : Heap}
structure TxtPz (mg : Str → Option Value) : Prop where
  range : mg "range" = none
  len : mg "len" = none
theorem sc_factor : FnScope ["reader", "negations", "tree", "_"] ["reader"] (defScope s_factor) := ⟨rfl, rfl, rfl, by decide +kernel, rfl, by decide +kernel, by decide +kernel⟩
theorem ok_factor {C B : Addr} {y : Nat} {g : List (List Nat) → Nat → Option Rs} (hg : ∀ tks, BdF tks (g tks)) (hy : 5 ≤ y) (T : TxtPz mg) (D : Dfd K mg "_factor" s_factor ["reader"]) (R : Rdr P w K mg base C B) (C1 : HasX P w K mg base y "_atom" ["reader"] (spAtom K C B fun tks => atomF (g tks) tks)) :
    HasX P w K mg base (y + 1) "_factor" ["reader"] (spAtom K C B fun tks => factorF (g tks) tks) := by
  obtain ⟨f2, d2, M_TokenReader_take_if, G_TokenReader_take_if, b_TokenReader_take_if⟩ := R.take_if
  have c_TokenReader := R.cl
  obtain ⟨f_atom, d_atom, G_atom, g_atom, k_atom, b_atom⟩ := C1
  obtain ⟨f, fd, F, gf, bf⟩ := D
  refine ⟨f, fd, F.okX sc_factor (fun vs H Q E h => ?_) (fun cdv A outer s H vs Q E hr h => ?_), gf, F.kp, bf⟩
  · obtain ⟨r, rfl, _⟩ := h
    rfl
  · obtain ⟨r, rfl, tks, n, res, hR, hn, hok, hres, q1, q2⟩ := h
    refine ⟨_, (pss_cons (ps_set (i := 1) sc_factor.nd rfl (.inl rfl) pe_int)
    (pss_cons (ps_while (passes_of rfl) (pt_val (pe_meth (pv 0) c_TokenReader M_TokenReader_take_if G_TokenReader_take_if (hr.mono (by omega)) b_TokenReader_take_if .nil pass0 (pa_cons pe_str pa_nil)))
      (pss_one (ps_aug (i := 1) sc_factor.nd rfl (.inl rfl) pe_int ip_add)))
    (pss_cons (ps_set (i := 2) sc_factor.nd rfl (.inl rfl) (pe_call G_atom (hr.mono (by omega)) (by rfl) g_atom k_atom b_atom .nil (passes_call (takes_of rfl rfl rfl rfl) fun _ _ _ _ h => h) (pa_cons (pv 0) pa_nil)))
    (pss_cons (ps_for (passes_of rfl) rfl (pi_range1 rfl T.range (pa_cons (pv 1) pa_nil)) (pg_name (i := 3) sc_factor.nd rfl (.inl rfl))
      (pss_one (ps_set (i := 2) sc_factor.nd rfl (.inl rfl) (pe_tup (pa_cons pe_str (pa_cons (pv 2) pa_nil))))))
    (pss_one (ps_ret (pv 2))))))), ?_⟩
    have hl5 := hok.1
    have hres : factorF (g tks) tks n = some res := hres
    unfold factorF at hres
    refine ⟨fun m σ H' => ∃ j : Nat, Kr r H H' ∧ Rd C H' r tks (n + j) ∧ negs (tks.drop n) = j + negs (tks.drop (n + j)) ∧ n + j ≤ tks.length ∧ m = tks.length - (n + j) ∧ σ = [some (.ref r), some (.int (j : Nat)), none, none], ⟨_, 0, Kr.refl, hR, by rw [Nat.zero_add]; rfl, hn, rfl, rfl⟩, ?_⟩
    rintro m σ H1 ⟨j, k1, R1, hj, hjn, rfl, rfl⟩
    obtain ⟨dx, tl, h1, h2⟩ := id R1.ob
    refine ⟨_, rfl, r, dx, _, rfl, h1, rdF_no _ _ rfl rfl, r, tks, n + j, [33], rfl, R1, by simp, fun h0 H2 k2 R2 => ⟨_, rfl, iteT ?_⟩, fun h0 => ⟨_, rfl, iteF ?_⟩⟩
    · have hlt := some_lt h0
      refine ⟨fun σ' H'' => H'' = H2 ∧ σ' = [some (.ref r), some (.int ((j + 1 : Nat) : Int)), none, none], ?_, ?_⟩
      · rintro σ' H'' ⟨rfl, rfl⟩
        exact ⟨_, by omega, j + 1, k1.trans k2, R2, by rw [hj, negs_hit h0, show n + (j + 1) = n + j + 1 by omega]; omega, by omega, rfl, rfl⟩
      · exact ⟨_, rfl, _, _, rfl, rfl, rfl, rfl⟩
    · rw [negs_miss h0, Nat.add_zero] at hj
      rw [hj] at hres
      cases hat : atomF (g tks) tks (n + j) with
      | none => rw [hat] at hres; cases hres
      | some r1 =>
        rw [hat] at hres
        refine ⟨_, rfl, r, rfl, tks, n + j, r1, R1, hjn, hok, hat, fun t m v H2 e k2 R2 T2 => ?_, fun m H2 d e k2 nd => ?_⟩
        · subst e
          have hr1 : res = .ok (wrapN j t) m := (Option.some.inj hres).symm
          refine ⟨_, rfl, _, rfl, by omega, by omega, for_range (n := ((j : Nat) : Int).toNat) (fun i σ H' => Kr r H H' ∧ Rd C H' r tks m ∧ ∃ (v' : V) (z : Option V), TreeH H' v' (wrapN i t) ∧ σ = [some (.ref r), some (.int (j : Nat)), some v', z]) ⟨k1.trans k2, R2, v, _, T2, rfl⟩ ?_ ?_⟩
          · rintro i σ H3 hi ⟨k3, R3, v', z, T3, rfl⟩
            refine ⟨_, rfl, (by show 2 ≤ sizeLine; decide), fun a na => ⟨k3.trans (Kr.of (Ex.new na)), R3.ex (Ex.new na), .ref a, _, ⟨a, v', rfl, upd_same, T3.ex (Ex.new na)⟩, rfl⟩⟩
          · rintro σ H3 ⟨k3, R3, v', z, T3, rfl⟩
            rw [Int.toNat_natCast] at T3
            exact ⟨_, rfl, q1 _ _ _ _ hr1 k3 R3 T3⟩
        · subst e
          exact q2 m H2 d (Option.some.inj hres).symm (k1.trans k2) nd
end
end G
namespace G
open PySem PySem.Spec PyProof.Rows L2 Evl TL
/-- the binary operators, as they stand at the top -/
structure BinT (K : PySem.W.Frag) (mg : Str → Option Value) : Prop where
  ex : ∃ (a b0 b1 b2 : Addr), mg "BINARY" = some (.ref a) ∧ ∀ H, SqT K H a [.ref b0, .ref b1, .ref b2] ∧ SqT K H b0 [.str "|", .str "or"] ∧ SqT K H b1 [.str "^", .str "xor"] ∧ SqT K H b2 [.str "&", .str "and"]
theorem binT_at {K : PySem.W.Frag} {b0 b1 b2 : Addr} {H : Hp} (h0 : SqT K H b0 [.str "|", .str "or"]) (h1 : SqT K H b1 [.str "^", .str "xor"]) (h2 : SqT K H b2 [.str "&", .str "and"]) {k : Nat} (hk : k ≤ 2) :
    ∃ b, ([.ref b0, .ref b1, .ref b2] : List V)[3 - (k + 1)]? = some (.ref b) ∧ SqT K H b [.str (mk (sgL k)), .str (opL k).s] := by
  match k, hk with
  | 0, _ => exact ⟨b2, rfl, h2⟩
  | 1, _ => exact ⟨b1, rfl, h1⟩
  | 2, _ => exact ⟨b0, rfl, h0⟩
  | k + 3, h => omega
theorem sgL_ne (k : Nat) : sgL k ≠ [] := by
  unfold sgL
  split <;> simp
section
variable {P : Program} {w : World} {K : PySem.W.Frag} {mg : Str → Option Value} {base : Heap}
theorem fn_false {f : Addr} {fd : FuncData} {ps : List Str} {k : Nat} : FnOk P w K mg base (L2.CX P w) k f fd ps (fun _ _ _ _ => False) := ⟨fun _ _ _ _ h => h.elim, fun _ _ _ _ _ _ _ _ _ _ _ _ _ h => h.elim⟩
theorem sc_expression : FnScope ["reader", "level", "sign", "kind", "tree"] ["reader", "level"] (defScope s_expression) := ⟨rfl, rfl, rfl, by decide +kernel, rfl, by decide +kernel, by decide +kernel⟩
theorem ok_expr0 {C B fx : Addr} {dx0 : FuncData} {z : Nat} {g : List (List Nat) → Nat → Option Rs} (hz : 5 ≤ z) (T : TxtPz mg) (BT : BinT K mg) (F : FunD K "_expression" "_expression" (defArgs s_expression) (defBody s_expression) (defScope s_expression) [.int 0] [] fx dx0) (R : Rdr P w K mg base C B) (X : ExprC P w K mg base C B fx dx0) (C1 : HasX P w K mg base z "_factor" ["reader"] (spAtom K C B g)) :
    FnOk P w K mg base (L2.CX P w) (z + 1) fx dx0 ["reader", "level"] (spExpr K C B 0 g) := by
  obtain ⟨f2, d2, M_TokenReader_take_if, G_TokenReader_take_if, b_TokenReader_take_if⟩ := R.take_if
  have c_TokenReader := R.cl
  obtain ⟨f_factor, d_factor, G_factor, g_factor, k_factor, b_factor⟩ := C1
  have g_expression := X.g
  have k_expression := X.k
  have b_expression := X.b
  have G_expression : FnOk P w K mg base (L2.CX P w) z fx dx0 ["reader", "level"] (fun _ _ _ _ => False) := fn_false
  obtain ⟨aB, b0, b1, b2, g_BINARY, hB⟩ := BT.ex
  refine F.ok (CX := L2.CX P w) sc_expression (fun vs H Q E h => ?_) (fun cdv A outer s H vs Q E hr h => ?_)
  · obtain ⟨r, rfl, _⟩ := h
    rfl
  · obtain ⟨r, rfl, tks, n, res, hR, hn, hok, hres, q1, q2⟩ := h
    refine ⟨_, (pss_cons (ps_if (pt_cmpR op_eq (pv 1) (pe_callB call_len_seq (by rfl) T.len (by decide +kernel) (pa_cons (gRef rfl g_BINARY) pa_nil)) (nomark _))
      (pss_one (ps_ret (pe_call G_factor (hr.mono (by omega)) (by rfl) g_factor k_factor b_factor .nil (passes_call (takes_of rfl rfl rfl rfl) fun _ _ _ _ h => h) (pa_cons (pv 0) pa_nil))))
      pss_nil)
    (pss_cons (ps_asg (pe_ix ix_tup (gRef rfl g_BINARY) (pv 1) (fun _ _ => rfl)) (pg_tup rfl (pgs_cons (pg_name (i := 2) sc_expression.nd rfl (.inl rfl)) (pgs_cons (pg_name (i := 3) sc_expression.nd rfl (.inl rfl)) pgs_nil))))
    (pss_cons (ps_set (i := 4) sc_expression.nd rfl (.inl rfl) (pe_call G_expression (hr.mono (by omega)) (by rfl) g_expression k_expression b_expression .nil (passes_call (takes_of rfl rfl rfl rfl) fun _ _ _ _ h => h) (pa_cons (pv 0) (pa_cons (pe_op op_add (pv 1) pe_int) pa_nil))))
    (pss_cons (ps_while (passes_of rfl) (pt_val (pe_meth (pv 0) c_TokenReader M_TokenReader_take_if G_TokenReader_take_if (hr.mono (by omega)) b_TokenReader_take_if .nil pass0 (pa_cons (pv 2) pa_nil)))
      (pss_one (ps_set (i := 4) sc_expression.nd rfl (.inl rfl) (pe_tup (pa_cons (pv 3) (pa_cons (pv 4) (pa_cons (pe_call G_expression (hr.mono (by omega)) (by rfl) g_expression k_expression b_expression .nil (passes_call (takes_of rfl rfl rfl rfl) fun _ _ _ _ h => h) (pa_cons (pv 0) (pa_cons (pe_op op_add (pv 1) pe_int) pa_nil))) pa_nil)))))))
    (pss_one (ps_ret (pv 4))))))), ?_⟩
    refine ⟨_, rfl, aB, _, rfl, .inr (hB H).1, rfl, _, rfl, iteT ?_⟩
    exact ⟨_, rfl, r, rfl, tks, n, res, hR, hn, hok, hres, q1, q2⟩
theorem ok_exprS {C B fx : Addr} {dx0 : FuncData} {x k : Nat} {g0 g : List (List Nat) → Nat → Option Rs} (hk : k ≤ 2) (hx : 5 ≤ x) (hg : ∀ tks, BdF tks (g tks)) (T : TxtPz mg) (BT : BinT K mg) (F : FunD K "_expression" "_expression" (defArgs s_expression) (defBody s_expression) (defScope s_expression) [.int 0] [] fx dx0) (R : Rdr P w K mg base C B) (X : ExprC P w K mg base C B fx dx0)
    (C1 : HasX P w K mg base x "_factor" ["reader"] (spAtom K C B g0)) (G_expression : FnOk P w K mg base (L2.CX P w) x fx dx0 ["reader", "level"] (spExpr K C B k g)) :
    FnOk P w K mg base (L2.CX P w) (x + 1) fx dx0 ["reader", "level"] (spExpr K C B (k + 1) fun tks n => match g tks n with
      | some (.ok t m) => loopF (g tks) tks (sgL k) (opL k) (tks.length + 1) t m
      | r => r) := by
  obtain ⟨f2, d2, M_TokenReader_take_if, G_TokenReader_take_if, b_TokenReader_take_if⟩ := R.take_if
  have c_TokenReader := R.cl
  obtain ⟨f_factor, d_factor, G_factor, g_factor, k_factor, b_factor⟩ := C1
  have g_expression := X.g
  have k_expression := X.k
  have b_expression := X.b
  obtain ⟨aB, b0, b1, b2, g_BINARY, hB⟩ := BT.ex
  refine F.ok (CX := L2.CX P w) sc_expression (fun vs H Q E h => ?_) (fun cdv A outer s H vs Q E hr h => ?_)
  · obtain ⟨r, rfl, _⟩ := h
    rfl
  · obtain ⟨r, rfl, tks, n, res, hR, hn, hok, hres, q1, q2⟩ := h
    refine ⟨_, (pss_cons (ps_if (pt_cmpR op_eq (pv 1) (pe_callB call_len_seq (by rfl) T.len (by decide +kernel) (pa_cons (gRef rfl g_BINARY) pa_nil)) (nomark _))
      (pss_one (ps_ret (pe_call G_factor (hr.mono (by omega)) (by rfl) g_factor k_factor b_factor .nil (passes_call (takes_of rfl rfl rfl rfl) fun _ _ _ _ h => h) (pa_cons (pv 0) pa_nil))))
      pss_nil)
    (pss_cons (ps_asg (pe_ix ix_tup (gRef rfl g_BINARY) (pv 1) (fun _ _ => rfl)) (pg_tup rfl (pgs_cons (pg_name (i := 2) sc_expression.nd rfl (.inl rfl)) (pgs_cons (pg_name (i := 3) sc_expression.nd rfl (.inl rfl)) pgs_nil))))
    (pss_cons (ps_set (i := 4) sc_expression.nd rfl (.inl rfl) (pe_call G_expression (hr.mono (by omega)) (by rfl) g_expression k_expression b_expression .nil (passes_call (takes_of rfl rfl rfl rfl) fun _ _ _ _ h => h) (pa_cons (pv 0) (pa_cons (pe_op op_add (pv 1) pe_int) pa_nil))))
    (pss_cons (ps_while (passes_of rfl) (pt_val (pe_meth (pv 0) c_TokenReader M_TokenReader_take_if G_TokenReader_take_if (hr.mono (by omega)) b_TokenReader_take_if .nil pass0 (pa_cons (pv 2) pa_nil)))
      (pss_one (ps_set (i := 4) sc_expression.nd rfl (.inl rfl) (pe_tup (pa_cons (pv 3) (pa_cons (pv 4) (pa_cons (pe_call G_expression (hr.mono (by omega)) (by rfl) g_expression k_expression b_expression .nil (passes_call (takes_of rfl rfl rfl rfl) fun _ _ _ _ h => h) (pa_cons (pv 0) (pa_cons (pe_op op_add (pv 1) pe_int) pa_nil))) pa_nil)))))))
    (pss_one (ps_ret (pv 4))))))), ?_⟩
    have hl5 := hok.1
    have elv : ((3 - (k + 1) : Nat) : Int) + 1 = ((3 - k : Nat) : Int) := by omega
    obtain ⟨bb, hbi, hbs⟩ := binT_at (hB H).2.1 (hB H).2.2.1 (hB H).2.2.2 hk
    refine ⟨_, rfl, aB, _, rfl, .inr (hB H).1, rfl, _, rfl, iteN (decide_eq_false fun z => ?_) ?_⟩
    · have := V.int.inj z
      have : ((3 - (k + 1) : Nat) : Int) = 3 := this
      omega
    refine ⟨_, rfl, _, _, _, _, rfl, rfl, (hB H).1, atI_nat hbi, bb, _, rfl, hbs, rfl, _, _, rfl, _, _, rfl, rfl, ?_⟩
    have hres : (match g tks n with
      | some (.ok t m) => loopF (g tks) tks (sgL k) (opL k) (tks.length + 1) t m
      | r => r) = some res := hres
    have elr : ([.ref r, .int (((3 - (k + 1) : Nat) : Int) + 1)] : List V) ++ [] = [.ref r, .int ((3 - k : Nat) : Int)] := by rw [elv]; rfl
    cases hgx : g tks n with
    | none => rw [hgx] at hres; cases hres
    | some r1 =>
      rw [hgx] at hres
      have bd1 := hg tks _ _ hn hgx
      refine ⟨_, rfl, _, rfl, _, _, rfl, rfl, r, elr, tks, n, r1, hR, hn, hok, hgx, fun t m v H1 e k1 R1 T1 => ?_, fun m H1 d e k1 nd => ?_⟩
      · subst e
        have bd1' : n < m ∧ m ≤ tks.length := bd1
        have hres : loopF (g tks) tks (sgL k) (opL k) (tks.length + 1) t m = some res := hres
        refine ⟨fun μ σ H' => ∃ (t' : Tr) (m' fu : Nat) (v' : V), Kr r H H' ∧ Rd C H' r tks m' ∧ TreeH H' v' t' ∧ m' ≤ tks.length ∧ loopF (g tks) tks (sgL k) (opL k) fu t' m' = some res ∧ μ = tks.length - m' ∧
          σ = [some (.ref r), some (.int ((3 - (k + 1) : Nat) : Int)), some (.str (mk (sgL k))), some (.str (opL k).s), some v'], ⟨_, t, m, _, v, k1, R1, T1, bd1'.2, hres, rfl, rfl⟩, ?_⟩
        rintro μ σ H2 ⟨t', m', fu, v', k2, R2, T2, hm2, hlp, rfl, rfl⟩
        obtain ⟨dx, tl, h1, h2⟩ := id R2.ob
        cases fu with
        | zero => cases hlp
        | succ fu =>
          unfold loopF at hlp
          refine ⟨_, rfl, r, dx, _, rfl, h1, rdF_no _ _ rfl rfl, _, rfl, r, tks, m', sgL k, rfl, R2, sgL_ne k, fun h0 H3 k3 R3 => ⟨_, rfl, iteT ?_⟩, fun h0 => ⟨_, rfl, iteF ?_⟩⟩
          · rw [if_pos h0] at hlp
            have hlt := some_lt h0
            obtain ⟨dx3, tl3, h13, h23⟩ := id R3.ob
            have T3 := T2.kr k3 h1
            cases hg2 : g tks (m' + 1) with
            | none => rw [hg2] at hlp; cases hlp
            | some r2 =>
              rw [hg2] at hlp
              have bd2 := hg tks _ _ (by omega) hg2
              refine ⟨fun σ' H'' => ∃ (u : Tr) (m2 : Nat) (v2 : V), r2 = .ok u m2 ∧ Kr r H H'' ∧ Rd C H'' r tks m2 ∧ TreeH H'' v2 (.bin (opL k) t' u) ∧ σ' = [some (.ref r), some (.int ((3 - (k + 1) : Nat) : Int)), some (.str (mk (sgL k))), some (.str (opL k).s), some v2], ?_, ?_⟩
              · rintro σ' H'' ⟨u, m2, v2, e2, k4, R4, T4, rfl⟩
                subst e2
                have bd2' : m' + 1 < m2 ∧ m2 ≤ tks.length := bd2
                exact ⟨_, by omega, .bin (opL k) t' u, m2, fu, v2, k4, R4, T4, bd2'.2, hlp, rfl, rfl⟩
              · refine ⟨_, rfl, _, rfl, _, rfl, _, rfl, _, _, rfl, rfl, r, elr, tks, m' + 1, r2, R3, by omega, hok, hg2, fun u m2 v2 H4 e2 k4 R4 T4 => ⟨(by show 3 ≤ sizeLine; decide), fun a na => ?_⟩, fun m2 H4 d e2 k4 nd => ?_⟩
                · exact ⟨u, m2, .ref a, e2, ((k2.trans k3).trans k4).trans (Kr.of (Ex.new na)), R4.ex (Ex.new na), ⟨a, v', v2, rfl, upd_same, (T3.kr k4 h13).ex (Ex.new na), T4.ex (Ex.new na)⟩, rfl⟩
                · subst e2
                  exact q2 m2 H4 d (Option.some.inj hlp).symm ((k2.trans k3).trans k4) nd
          · rw [if_neg h0] at hlp
            exact ⟨_, rfl, q1 t' m' v' H2 (Option.some.inj hlp).symm k2 R2 T2⟩
      · subst e
        exact q2 m H1 d (Option.some.inj hres).symm k1 nd
end
end G
namespace G
open PySem PySem.Spec PyProof.Rows L2 Evl TL
section
variable {P : Program} {w : World} {K : PySem.W.Frag} {mg : Str → Option Value} {base : Heap}
theorem HasX.mono {j k : Nat} {x : Str} {ps : List Str} {sp : Sp} (C : HasX P w K mg base j x ps sp) (h : j ≤ k) : HasX P w K mg base k x ps sp := by
  obtain ⟨f, fd, F, r⟩ := C
  exact ⟨f, fd, F.mono h, r⟩
/-- _expression, to a depth of brackets -/
theorem ok_parse {C B fx : Addr} {dx0 : FuncData} (T : TxtPz mg) (BT : BinT K mg) (F : FunD K "_expression" "_expression" (defArgs s_expression) (defBody s_expression) (defScope s_expression) [.int 0] [] fx dx0) (R : Rdr P w K mg base C B) (X : ExprC P w K mg base C B fx dx0) (DA : Dfd K mg "_atom" s_atom ["reader"]) (DF : Dfd K mg "_factor" s_factor ["reader"]) :
    ∀ d, FnOk P w K mg base (L2.CX P w) (5 + 6 * d) fx dx0 ["reader", "level"] (spExpr K C B 3 fun tks => parseF tks d)
  | 0 => fn_false.imp fun vs H Q E h => by
    obtain ⟨r, rfl, tks, n, res, hR, hn, hok, hres, q1, q2⟩ := h
    cases hres
  | d + 1 => by
    have ih := ok_parse T BT F R X DA DF d
    have hg := fun tks => parse_bd tks d
    have ha := ok_atom (x := 5 + 6 * d) hg (by omega) DA R X ih
    have hf := ok_factor (y := 5 + 6 * d + 1) hg (by omega) T DF R ha
    have e0 := ok_expr0 (z := 5 + 6 * d + 2) (by omega) T BT F R X hf
    have e1 := ok_exprS (x := 5 + 6 * d + 3) (k := 0) (by omega) (by omega) (fun tks => factor_bd (hg tks)) T BT F R X (hf.mono (by omega)) e0
    have e2 := ok_exprS (x := 5 + 6 * d + 4) (k := 1) (g := fun tks => exprF (parseF tks d) tks 1) (by omega) (by omega) (fun tks => expr_bd (hg tks) 1) T BT F R X (hf.mono (by omega)) e1
    have e3 := ok_exprS (x := 5 + 6 * d + 5) (k := 2) (g := fun tks => exprF (parseF tks d) tks 2) (by omega) (by omega) (fun tks => expr_bd (hg tks) 2) T BT F R X (hf.mono (by omega)) e2
    have e : 5 + 6 * (d + 1) = 5 + 6 * d + 5 + 1 := by omega
    rw [e]
    exact e3
end
end G
namespace G
open PySem PySem.Spec PyProof.Rows L2 Evl TL
/-- whether brackets and negations stay within their limits: o brackets are open, n negations stand right ahead -/
def brkF : List (List Nat) → Int → Nat → Bool
  | [], _, _ => true
  | T :: r, o, n =>
    let o' := if T = [40] then o + 1 else if T = [41] then o - 1 else o
    let n' := if T = [33] then n + 1 else 0
    if 20 < o' ∨ 20 < n' then false else brkF r o' n'
structure TxtBk (mg : Str → Option Value) : Prop where
  br : ∃ t, mg "MOST_BRACKETS" = some (.int 20 t)
  ng : ∃ t, mg "MOST_NEGATIONS" = some (.int 20 t)
section
variable {P : Program} {w : World} {K : PySem.W.Frag} {mg : Str → Option Value} {base : Heap}
def spBrk (D : Addr) : Sp := fun vs H Q E => ∃ (l : Addr) (tks : List (List Nat)), vs = [.ref l] ∧ H l = some (.lst (strsV tks)) ∧ (brkF tks 0 0 = true → Q .non H) ∧ (brkF tks 0 0 = false → E (.ref D) none H)
theorem sc_check_brackets : FnScope ["tokens", "opened", "negations", "token"] ["tokens"] (defScope s_check_brackets) := ⟨rfl, rfl, rfl, by decide +kernel, rfl, by decide +kernel, by decide +kernel⟩
theorem ok_check_brackets {D0 : Addr} (D : Dfd K mg "_check_brackets" s_check_brackets ["tokens"]) (UD : ExcT K mg "TooDeep" D0) (T : TxtBk mg) : HasX P w K mg base 1 "_check_brackets" ["tokens"] (spBrk D0) := by
  obtain ⟨t1, g_MOST_BRACKETS⟩ := T.br
  obtain ⟨t2, g_MOST_NEGATIONS⟩ := T.ng
  obtain ⟨f, fd, F, gf, bf⟩ := D
  refine ⟨f, fd, F.okX sc_check_brackets (fun vs H Q E h => ?_) (fun cdv A outer s H vs Q E hr h => ?_), gf, F.kp, bf⟩
  · obtain ⟨_, _, rfl, _⟩ := h
    rfl
  · obtain ⟨l, tks, rfl, hl, q1, q2⟩ := h
    refine ⟨_, (pss_cons (ps_set (i := 1) sc_check_brackets.nd rfl (.inl rfl) pe_int)
    (pss_cons (ps_set (i := 2) sc_check_brackets.nd rfl (.inl rfl) pe_int)
    (pss_one (ps_for (passes_of rfl) rfl (pi_list (pv 0)) (pg_name (i := 3) sc_check_brackets.nd rfl (.inl rfl))
      (pss_cut (ps_if (pt_cmpR op_eq (pv 3) pe_str (nomark _))
        (pss_one (ps_aug (i := 1) sc_check_brackets.nd rfl (.inl rfl) pe_int ip_add))
        (pss_one (ps_if (pt_cmpR op_eq (pv 3) pe_str (nomark _))
          (pss_one (ps_aug (i := 1) sc_check_brackets.nd rfl (.inl rfl) pe_int ip_sub))
          pss_nil)))
      (pss_cons (ps_set (i := 2) sc_check_brackets.nd rfl (.inl rfl) (pe_ifExp (pt_cmpR op_eq (pv 3) pe_str (nomark _)) (pe_op op_add (pv 2) pe_int) pe_int))
      (pss_one (ps_if (PW.pt (pw_or (pt_cmpR op_gt (pv 1) (gInt rfl g_MOST_BRACKETS) (nomark _)) (pw_or1 (pt_cmpR op_gt (pv 2) (gInt rfl g_MOST_NEGATIONS) (nomark _)))))
        (pss_one (ps_raise rfl (takes_of rfl rfl rfl rfl) (pmk_ownA PySem.F.excBase_ValueError UD.xP UD.gC UD.kC (raises_own UD.bC UD.tC) rfl (pa_cons pe_str pa_nil))))
        pss_nil)))))))), ?_⟩
    refine ⟨_, rfl, l, rfl, ⟨_, SqL.of hl⟩, for_list (K := K) (a := l) (xs := strsV tks)
      (fun i σ H' => H' = H ∧ ∃ (o : Int) (n : Nat) (z : Option V), brkF tks 0 0 = brkF (tks.drop i) o n ∧ σ = [some (.ref l), some (.int o), some (.int (n : Nat)), z]) ⟨rfl, 0, 0, _, rfl, rfl⟩ (fun j σ H' _ g => by rw [g.1]; exact SqL.of hl) ?_ ?_⟩
    · rintro i y σ H' hy ⟨rfl, o, n, z, hb, rfl⟩
      unfold strsV at hy
      rw [List.getElem?_map] at hy
      obtain ⟨U, hU, rfl⟩ := Option.map_eq_some_iff.mp hy
      obtain ⟨hi, eU⟩ := List.getElem?_eq_some_iff.mp hU
      rw [List.drop_eq_getElem_cons hi, eU] at hb
      have dec : ∀ c : Nat, decide (V.str (mk U) = V.str (mk [c])) = decide (U = [c]) := fun c => decV_mk U [c]
      refine ⟨fun σ H'' => H'' = H' ∧ σ = [some (.ref l), some (.int (if U = [40] then o + 1 else if U = [41] then o - 1 else o)), some (.int (n : Nat)), some (.str (mk U))], ?_, ?_⟩
      · refine ⟨_, rfl, rfl, _, rfl, ?_⟩
        have d1 : decide (V.str (mk U) = V.str "(") = decide (U = [40]) := dec 40
        rw [d1]
        by_cases c1 : U = [40]
        · rw [decide_eq_true c1, if_pos c1]
          exact iteT ⟨_, rfl, _, _, rfl, rfl, rfl, rfl⟩
        · rw [decide_eq_false c1, if_neg c1]
          refine iteF ⟨_, rfl, rfl, _, rfl, ?_⟩
          have d2 : decide (V.str (mk U) = V.str ")") = decide (U = [41]) := dec 41
          rw [d2]
          by_cases c2 : U = [41]
          · rw [decide_eq_true c2, if_pos c2]
            exact iteT ⟨_, rfl, _, _, rfl, rfl, rfl, rfl⟩
          · rw [decide_eq_false c2, if_neg c2]
            exact iteF ⟨rfl, rfl⟩
      · rintro σ H'' ⟨rfl, rfl⟩
        have hb : brkF tks 0 0 = (if 20 < (if U = [40] then o + 1 else if U = [41] then o - 1 else o) ∨ 20 < (if U = [33] then n + 1 else 0) then false else brkF (tks.drop (i + 1)) (if U = [40] then o + 1 else if U = [41] then o - 1 else o) (if U = [33] then n + 1 else 0)) := hb
        generalize (if U = [40] then o + 1 else if U = [41] then o - 1 else o) = o' at *
        have d3 : decide (V.str (mk U) = V.str "!") = decide (U = [33]) := dec 33
        refine ⟨_, rfl, rfl, _, rfl, ?_⟩
        rw [d3]
        by_cases c3 : U = [33]
        · rw [decide_eq_true c3]
          rw [if_pos c3] at hb
          refine iteY rfl ⟨_, rfl, _, _, rfl, rfl, ?_⟩
          refine ⟨_, rfl, _, _, rfl, rfl, _, rfl, ite2 (fun c4 => ?_) (fun c4 => ?_)⟩
          · rw [if_pos (.inl (of_decide_eq_true c4))] at hb
            exact iteT ⟨(by show 1 ≤ sizeLine; decide), q2 hb⟩
          refine ⟨_, rfl, _, _, rfl, rfl, _, rfl, ite2 (fun c5 => ?_) (fun c5 => ?_)⟩
          · have : (20 : Int) < (n : Int) + 1 := of_decide_eq_true c5
            rw [if_pos (.inr (by omega))] at hb
            exact ⟨(by show 1 ≤ sizeLine; decide), q2 hb⟩
          · have h4 : ¬ (20 : Int) < o' := fun z => c4 (decide_eq_true z)
            have h5 : ¬ (20 : Int) < (n : Int) + 1 := fun z => c5 (decide_eq_true z)
            rw [if_neg (by omega)] at hb
            exact ⟨rfl, o', n + 1, _, hb, rfl⟩
        · rw [decide_eq_false c3]
          rw [if_neg c3] at hb
          refine iteN rfl ?_
          refine ⟨_, rfl, _, _, rfl, rfl, _, rfl, ite2 (fun c4 => ?_) (fun c4 => ?_)⟩
          · rw [if_pos (.inl (of_decide_eq_true c4))] at hb
            exact iteT ⟨(by show 1 ≤ sizeLine; decide), q2 hb⟩
          refine ⟨_, rfl, _, _, rfl, rfl, _, rfl, ite2 (fun c5 => ?_) (fun c5 => ?_)⟩
          · have : (20 : Int) < 0 := of_decide_eq_true c5
            omega
          · have h4 : ¬ (20 : Int) < o' := fun z => c4 (decide_eq_true z)
            rw [if_neg (by omega)] at hb
            exact ⟨rfl, o', 0, _, hb, rfl⟩
    · rintro σ H' ⟨rfl, o, n, z, hb, rfl⟩
      rw [strsV_len, List.drop_length] at hb
      exact q1 hb
end
end G
namespace G
open PySem PySem.Spec PyProof.Rows L2 Evl TL
/-! ## where no token can be taken -/
def bads : List Nat := [34, 36, 39, 42, 43, 47, 60, 62, 63, 64, 91, 92, 93, 126, 45, 46, 65, 66, 90]
def BadTok (W : List Nat) : Prop := (W ≠ [] ∧ (∀ c ∈ W, isRun c = true) ∧ isWord W = false ∧ isNum W = false) ∨ ∃ c, W = [c] ∧ c ∈ bads
theorem bads_facts : ∀ c ∈ bads, isRun c = false ∧ c ≠ 32 ∧ c ≠ 10 ∧ c ≠ 35 := by decide +kernel
theorem bads_sign : ∀ c ∈ bads, ∀ u ∈ sgns, pre (tl u) [c, 32] = false := by decide +kernel
theorem bad_ne {W : List Nat} (h : BadTok W) : W ≠ [] := by
  rcases h with h | ⟨c, rfl, _⟩
  · exact h.1
  · exact List.cons_ne_nil _ _
theorem bad_head {W : List Nat} {c : Nat} {r : List Nat} (h : BadTok W) (e : W = c :: r) : c ≠ 32 ∧ c ≠ 10 ∧ c ≠ 35 := by
  rcases h with h | ⟨d, rfl, hd⟩
  · have hcr := h.2.1 c (by rw [e]; exact List.mem_cons_self ..)
    refine ⟨fun h => ?_, fun h => ?_, fun h => ?_⟩
    · rw [h, run_not.1] at hcr; cases hcr
    · rw [h, run_not.2.1] at hcr; cases hcr
    · rw [h, run_not.2.2] at hcr; cases hcr
  · injection e with e1 _
    subst e1
    exact (bads_facts _ hd).2
/-- what follows a bad piece: nothing, or a blank -/
def Tail32 (S : List Nat) : Prop := S = [] ∨ ∃ R, S = 32 :: R
theorem bad_sign0 {W R : List Nat} (h : BadTok W) {u : Str} (hu : u ∈ sgns) : pre (tl u) (W ++ 32 :: R) = false := by
  cases hp : pre (tl u) (W ++ 32 :: R) with
  | false => rfl
  | true =>
    obtain ⟨r, e⟩ := pre_iff.mp hp
    obtain ⟨f1, f2, _, _, _, f6⟩ := sgn_facts u hu
    rcases h with h | ⟨c, rfl, hc⟩
    · obtain ⟨c, q, rfl⟩ := List.exists_cons_of_ne_nil h.1
      cases hq : tl u with
      | nil => exact absurd hq f1
      | cons a b =>
        rw [hq] at e f2
        have : c = a := by injection e
        have hcr := h.2.1 c (List.mem_cons_self ..)
        rw [this] at hcr
        have f2' : isRun a = false := f2
        rw [f2'] at hcr; cases hcr
    · have := bads_sign c hc u hu
      have h2 : pre (tl u) [c, 32] = true := pre_iff.mpr ⟨r.take (2 - (tl u).length), by
        have e2 := congrArg (List.take 2) e
        rw [List.take_append (l₁ := tl u), List.take_of_length_le f6] at e2
        exact e2⟩
      rw [h2] at this; cases this
theorem bad_sign {W S : List Nat} (h : BadTok W) (hS : Tail32 S) {u : Str} (hu : u ∈ sgns) : pre (tl u) (W ++ S) = false := by
  rcases hS with rfl | ⟨R, rfl⟩
  · cases hp : pre (tl u) (W ++ []) with
    | false => rfl
    | true =>
      obtain ⟨r, e⟩ := pre_iff.mp hp
      have : pre (tl u) (W ++ 32 :: []) = true := pre_iff.mpr ⟨r ++ [32], by rw [← List.append_assoc, ← e, List.append_nil]⟩
      rw [bad_sign0 h hu] at this; cases this
  · exact bad_sign0 h hu
section
variable {P : Program} {w : World} {K : PySem.W.Frag} {mg : Str → Option Value} {base : Heap}
/-- the token at a place, or the error -/
def spTokenAtB (B : Addr) : Sp := fun vs H Q E => ∃ (x : Str) (i : Nat), vs = [.str x, .int i] ∧ x.length ≤ 50000 ∧ i ≤ x.length ∧
  ((∃ T S, (tl x).drop i = T ++ S ∧ ((RunTok T ∧ NoRun S) ∨ SgnTok T) ∧ ∀ H', Ex H H' → Q (.str (mk T)) H') ∨
   (∃ W R, (tl x).drop i = W ++ R ∧ Tail32 R ∧ BadTok W ∧ ∀ H1 d, Ex H H1 → H1 d = none → E (.ref B) (some d) (upd H1 d (.xd [("at", .int i)]))))
theorem ok_token_atB {B fB : Addr} {dB : FuncData} (OB : Own1 P w K mg base "BadToken" "at" B fB dB okAt) (D : Dfd K mg "_token_at" s_token_at ["text", "at"]) (T : TxtK K mg) (C1 : Has P w K mg base 1 "_run_end" ["text", "at"] spRunEnd) (C2 : Has P w K mg base 1 "is_word" ["token"] spIsWord) (C3 : Has P w K mg base 1 "is_numeral" ["token"] spIsNum) :
    HasX P w K mg base 3 "_token_at" ["text", "at"] (spTokenAtB B) := by
  obtain ⟨f_run_end, d_run_end, G_run_end, g_run_end, k_run_end, b_run_end⟩ := C1
  obtain ⟨f_is_word, d_is_word, G_is_word, g_is_word, k_is_word, b_is_word⟩ := C2
  obtain ⟨f_is_numeral, d_is_numeral, G_is_numeral, g_is_numeral, k_is_numeral, b_is_numeral⟩ := C3
  obtain ⟨aS, g_SIGNS, hSg⟩ := T.SIG
  obtain ⟨f, fd, F, gf, bf⟩ := D
  refine ⟨f, fd, F.okX sc_token_at (fun vs H Q E h => ?_) (fun cdv A outer s H vs Q E hr h => ?_), gf, F.kp, bf⟩
  · obtain ⟨_, _, rfl, _⟩ := h
    rfl
  · obtain ⟨x, i, rfl, hlen, hix, hcase⟩ := h
    have hs : x.length ≤ sizeLine := sz_of (by omega)
    refine ⟨_, (pss_cons (ps_set (i := 2) sc_token_at.nd rfl (.inl rfl) (pe_slice sl_str (pv 0) (po_some (pv 1)) (po_some (pe_call G_run_end (hr.mono (by omega)) (by rfl) g_run_end k_run_end b_run_end .nil pass0 (pa_cons (pv 0) (pa_cons (pv 1) pa_nil))))))
    (pss_cut (ps_if (PW.pt (pw_and (pt_truth (pv 2) (by intro _; rfl)) (pw_and1 (PW.pt (pw_or (pt_val (pe_call G_is_word (hr.mono (by omega)) (by rfl) g_is_word k_is_word b_is_word .nil pass0 (pa_cons (pv 2) pa_nil))) (pw_or1 (pt_val (pe_call G_is_numeral (hr.mono (by omega)) (by rfl) g_is_numeral k_is_numeral b_is_numeral .nil pass0 (pa_cons (pv 2) pa_nil)))))))))
      (pss_one (ps_ret (pv 2)))
      pss_nil)
    (pss_cons (ps_for (passes_of rfl) rfl (pi_tup (gRef rfl g_SIGNS)) (pg_name (i := 3) sc_token_at.nd rfl (.inl rfl))
      (pss_one (ps_if (pt_val (pe_bm PySem.F.plainAttrs_str PySem.F.slot_str_startswith PySem.F.type_str_startswith mt_startswith3 (pv 0) (pa_cons (pv 3) (pa_cons (pv 1) pa_nil))))
        (pss_one (ps_ret (pv 3)))
        pss_nil)))
    (pss_one (ps_raise rfl (takes_of rfl rfl rfl rfl) (pmk_own1 OB (hr.mono (by omega)) rfl (pa_cons (pv 1) pa_nil))))))), ?_⟩
    refine ⟨_, rfl, _, rfl, _, rfl, _, rfl, _, rfl, x, i, rfl, hix, hlen, fun e he => ⟨_, rfl, x, rfl, hs, ?_⟩⟩
    have hcut : cutS x (some (i : Int)) (some (e : Int)) = mk (((tl x).drop i).take (e - i)) := cut_nat he.1 (by rw [len_tl]; exact he.2.1)
    rw [hcut]
    rcases hcase with ⟨T, S, hd, hT, q⟩ | ⟨W, R, hd, hR, hW, q⟩
    case inr =>
      have hl : x.length = i + (W.length + R.length) := by
        have := congrArg List.length hd
        rw [List.length_drop, List.length_append, ← len_tl] at this
        omega
      have hns : NoRun R := by
        rcases hR with rfl | ⟨R', rfl⟩
        · exact fun d q z => nomatch z
        · exact fun d q z => by injection z with z1 _; rw [← z1]; exact run_not.1
      have hV : ∃ U : List Nat, ((tl x).drop i).take (e - i) = U ∧ (U = [] ∨ (U ≠ [] ∧ isWord U = false ∧ isNum U = false ∧ U.length ≤ 50000)) := by
        rcases hW with ⟨w1, w2, w3, w4⟩ | ⟨c, rfl, hc⟩
        · have ee := runTo_eq he hd w2 hns (by rw [← len_tl]; exact hix)
          exact ⟨W, by rw [hd, ee, show i + W.length - i = W.length by omega, List.take_left' rfl], .inr ⟨w1, w3, w4, by omega⟩⟩
        · refine ⟨[], ?_, .inl rfl⟩
          have ee : e = i := by
            by_cases c1 : i < e
            · have hc2 : (tl x)[i]? = some c := by
                have := List.getElem?_drop (xs := tl x) (i := i) (j := 0)
                rw [hd, Nat.add_zero] at this
                rw [← this]; rfl
              have := he.2.2.1 i (Nat.le_refl _) c1 c hc2
              rw [(bads_facts c hc).1] at this; cases this
            · have := he.1; omega
          rw [ee, Nat.sub_self, List.take_zero]
      obtain ⟨U, eV, hV⟩ := hV
      rw [eV]
      refine ⟨fun σ H' => σ = [some (.str x), some (.int i), some (.str (mk U)), none] ∧ Ex H H', ?_, ?_⟩
      · rcases hV with rfl | ⟨v1, v2, v3, v4⟩
        · exact ⟨_, rfl, false, ⟨by rw [mk_len]; exact Nat.zero_le _, rfl⟩, iteF (iteF ⟨rfl, Ex.refl _⟩)⟩
        · have h0 : ((mk U).length : Int) != 0 := by
            have : 0 < U.length := List.length_pos_iff.mpr v1
            exact bne_iff_ne.mpr (by rw [mk_len]; omega)
          refine ⟨_, rfl, true, ⟨by rw [mk_len]; exact sz_of (by omega), h0.symm⟩, iteT ⟨_, rfl, U, rfl, v1, v4, fun H1 e1 => ⟨_, rfl, ?_⟩⟩⟩
          rw [v2]
          refine iteF ⟨_, rfl, U, rfl, v1, v4, fun H2 e2 => ⟨_, rfl, ?_⟩⟩
          rw [v3]
          exact iteF ⟨rfl, e1.trans e2⟩
      · rintro σ H' ⟨rfl, EH⟩
        refine ⟨aS, rfl, ⟨_, hSg H'⟩, for_tup (K := K) (a := aS) (xs := sgns.map V.str) (fun j σ H2 => H2 = H' ∧ ∃ z : Option V, σ = [some (.str x), some (.int i), some (.str (mk U)), z])
          ⟨rfl, none, rfl⟩ (fun _ _ H2 _ _ => hSg H2) ?_ ?_⟩
        · rintro j y σ H2 hy ⟨rfl, z, rfl⟩
          rw [List.getElem?_map] at hy
          cases hj : sgns[j]? with
          | none => rw [hj] at hy; cases hy
          | some u =>
            rw [hj] at hy
            have ey : V.str u = y := Option.some.inj hy
            subst ey
            have hu : u ∈ sgns := List.mem_of_getElem? hj
            refine ⟨_, rfl, rfl, _, rfl, _, rfl, x, u, (i : Int), rfl, rfl, _, rfl, ?_⟩
            rw [starts_at (sgn_facts u hu).1, hd, bad_sign hW hR hu]
            exact iteF ⟨rfl, _, rfl⟩
        · rintro σ H2 ⟨rfl, z, rfl⟩
          exact ⟨_, rfl, mk1 (fun a na => ⟨i, rfl, by omega⟩) fun d nd => q H2 d EH nd⟩
    have hl : x.length = i + (T.length + S.length) := by
      have := congrArg List.length hd
      rw [List.length_drop, List.length_append, ← len_tl] at this
      omega
    rcases hT with ⟨hrun, hS⟩ | hsg
    · -- a run
      have ee := runTo_eq he hd hrun.2.1 hS (by rw [← len_tl]; exact hix)
      have et : ((tl x).drop i).take (e - i) = T := by rw [hd, ee, show i + T.length - i = T.length by omega, List.take_left' rfl]
      rw [et]
      refine ⟨fun _ _ => False, ?_, fun _ _ z => z.elim⟩
      have hTl : T.length ≤ 50000 := by omega
      have h0 : ((mk T).length : Int) != 0 := by
        have : 0 < T.length := List.length_pos_iff.mpr hrun.1
        exact bne_iff_ne.mpr (by rw [mk_len]; omega)
      refine ⟨_, rfl, true, ⟨by rw [mk_len]; exact sz_of (by omega), h0.symm⟩, iteT ⟨_, rfl, T, rfl, hrun.1, hTl, fun H1 e1 => ⟨_, rfl, ?_⟩⟩⟩
      cases hw : isWord T with
      | true => exact iteT (iteT ⟨_, rfl, q H1 e1⟩)
      | false =>
        refine iteF ⟨_, rfl, T, rfl, hrun.1, hTl, fun H2 e2 => ⟨_, rfl, ?_⟩⟩
        have hn : isNum T = true := by
          rcases hrun.2.2 with z | z
          · rw [hw] at z; cases z
          · exact z
        rw [hn]
        exact iteT ⟨_, rfl, q H2 (e1.trans e2)⟩
    · -- a sign
      obtain ⟨hne, hnr, _, _, _, _⟩ := sgn_of hsg
      obtain ⟨c, r, rfl⟩ := List.exists_cons_of_ne_nil hne
      have ee : e = i := by
        by_cases c1 : i < e
        · have hc : (tl x)[i]? = some c := by
            have := List.getElem?_drop (xs := tl x) (i := i) (j := 0)
            rw [hd, Nat.add_zero] at this
            rw [← this]; rfl
          have := he.2.2.1 i (Nat.le_refl _) c1 c hc
          have hnr' : isRun c = false := hnr
          rw [hnr'] at this; cases this
        · have := he.1; omega
      rw [ee, Nat.sub_self, List.take_zero]
      refine ⟨fun σ H' => σ = [some (.str x), some (.int i), some (.str (mk [])), none] ∧ H' = H, ?_, ?_⟩
      · exact ⟨_, rfl, false, ⟨by rw [mk_len]; exact Nat.zero_le _, rfl⟩, iteF (iteF ⟨rfl, rfl⟩)⟩
      · rintro σ H' ⟨rfl, rfl⟩
        refine ⟨aS, rfl, ⟨_, hSg H'⟩, for_tup (K := K) (a := aS) (xs := sgns.map V.str) (fun j σ H2 => H2 = H' ∧ (∀ k, k < j → sgns[k]? ≠ some (mk (c :: r))) ∧ ∃ z : Option V, σ = [some (.str x), some (.int i), some (.str (mk [])), z])
          ⟨rfl, fun k hk => by omega, none, rfl⟩ (fun _ _ H2 _ _ => hSg H2) ?_ ?_⟩
        · rintro j y σ H2 hy ⟨rfl, hno, z, rfl⟩
          rw [List.getElem?_map] at hy
          cases hj : sgns[j]? with
          | none => rw [hj] at hy; cases hy
          | some u =>
            rw [hj] at hy
            have ey : V.str u = y := Option.some.inj hy
            subst ey
            have hu : u ∈ sgns := List.mem_of_getElem? hj
            refine ⟨_, rfl, rfl, _, rfl, _, rfl, x, u, (i : Int), rfl, rfl, _, rfl, ?_⟩
            rw [starts_at (sgn_facts u hu).1, hd]
            by_cases hc : u = mk (c :: r)
            · have hp : pre (tl u) (c :: r ++ S) = true := pre_iff.mpr ⟨S, by rw [hc]; rfl⟩
              rw [hp, hc]
              exact iteT ⟨_, rfl, q H2 (Ex.refl _)⟩
            · have hp : pre (tl u) (c :: r ++ S) = false := by
                cases hq : pre (tl u) (c :: r ++ S) with
                | false => rfl
                | true =>
                  obtain ⟨r2, e2⟩ := pre_iff.mp hq
                  have hsg' : mk (c :: r) ∈ sgns := hsg
                  rcases Nat.le_total (tl u).length (c :: r).length with l1 | l1
                  · have : pre (tl u) (tl (mk (c :: r))) = true := pre_iff.mpr ⟨(c :: r).drop (tl u).length, by
                      have := congrArg (List.take (c :: r).length) e2
                      rw [List.take_left' rfl, List.take_append, List.take_of_length_le l1] at this
                      show c :: r = _
                      have h4 := congrArg (List.drop (tl u).length) this
                      rw [List.drop_left' rfl] at h4
                      rw [h4, ← this]⟩
                    rw [sgn_apart u hu _ hsg' hc] at this; cases this
                  · have : pre (tl (mk (c :: r))) (tl u) = true := pre_iff.mpr ⟨(tl u).drop (c :: r).length, by
                      have := congrArg (List.take (tl u).length) e2.symm
                      rw [List.take_left' rfl, List.take_append, List.take_of_length_le l1] at this
                      have h4 := congrArg (List.drop (c :: r).length) this
                      rw [List.drop_left' rfl] at h4
                      show tl u = c :: r ++ _
                      rw [h4, ← this]⟩
                    rw [sgn_apart _ hsg' u hu (fun z => hc z.symm)] at this; cases this
              rw [hp]
              refine iteF ⟨rfl, fun k hk => ?_, _, rfl⟩
              by_cases ek : k = j
              · subst ek; rw [hj]; exact fun z => hc (Option.some.inj z)
              · exact hno k (by omega)
        · rintro σ H2 ⟨rfl, hno, z, rfl⟩
          have hsg' : mk (c :: r) ∈ sgns := hsg
          obtain ⟨k, hk, he'⟩ := List.getElem_of_mem hsg'
          exact absurd (List.getElem?_eq_some_iff.mpr ⟨hk, he'⟩) (hno k (by rw [List.length_map]; exact hk))
end
end G
namespace G
open PySem PySem.Spec PyProof.Rows L2 Evl TL
/-- S: tokens and blanks, and n signs behind its begin a place where no token can be taken -/
inductive LxB : List Nat → Nat → Prop where
  | bad {W R : List Nat} (h : BadTok W) (hr : Tail32 R) : LxB (W ++ R) 0
  | sp {c : Nat} {S : List Nat} {n : Nat} (h : c = 32 ∨ c = 10) (r : LxB S n) : LxB (c :: S) (1 + n)
  | com {b S : List Nat} {n : Nat} (h : 10 ∉ b) (r : LxB (10 :: S) n) : LxB (35 :: b ++ 10 :: S) ((35 :: b).length + n)
  | run {T S : List Nat} {n : Nat} (h : RunTok T) (hs : NoRun S) (r : LxB S n) : LxB (T ++ S) (T.length + n)
  | sgn {T S : List Nat} {n : Nat} (h : SgnTok T) (r : LxB S n) : LxB (T ++ S) (T.length + n)
section
variable {P : Program} {w : World} {K : PySem.W.Frag} {mg : Str → Option Value} {base : Heap}
def spTokenizeB (B : Addr) : Sp := fun vs H Q E => ∃ (x : Str) (n : Nat), vs = [.str x] ∧ x.length ≤ 50000 ∧ LxB (tl x) n ∧ ∀ H1 d, Ex H H1 → H1 d = none → E (.ref B) (some d) (upd H1 d (.xd [("at", .int n)]))
theorem fn_tokenizeB {B : Addr} {f : Addr} {fd : FuncData} (F : Fun K "tokenize" "tokenize" s_tokenize f fd) (T : TxtK K mg) (C1 : Has P w K mg base 1 "_line_end" ["text", "at"] spLineEnd) (C2 : HasX P w K mg base 3 "_token_at" ["text", "at"] (spTokenAtB B)) : FnOk P w K mg base (L2.CX P w) 4 f fd ["text"] (spTokenizeB B) := by
  obtain ⟨f_line_end, d_line_end, G_line_end, g_line_end, k_line_end, b_line_end⟩ := C1
  obtain ⟨f_token_at, d_token_at, G_token_at, g_token_at, k_token_at, b_token_at⟩ := C2
  refine F.okX sc_tokenize (fun vs H Q E h => ?_) (fun cdv A outer s H vs Q E hr h => ?_)
  · obtain ⟨_, _, rfl, _⟩ := h
    rfl
  · obtain ⟨x, n, rfl, hlen, hL, q⟩ := h
    have hs : x.length ≤ sizeLine := sz_of (by omega)
    refine ⟨_, (pss_cons (ps_set (i := 1) sc_tokenize.nd rfl (.inl rfl) (pe_lst pa_nil))
    (pss_cons (ps_set (i := 2) sc_tokenize.nd rfl (.inl rfl) pe_int)
    (pss_cons (ps_while (passes_of rfl) (pt_cmpR op_lt (pv 2) (pe_callB call_len_str (by rfl) T.len (by decide +kernel) (pa_cons (pv 0) pa_nil)) (nomark _))
      (pss_one (ps_if (PW.pt (pw_or (pt_cmpR op_eq (pe_ix ix_str (pv 0) (pv 2) (fun _ _ => rfl)) pe_str (nomark _)) (pw_or1 (pt_cmpR op_eq (pe_ix ix_str (pv 0) (pv 2) (fun _ _ => rfl)) pe_str (nomark _)))))
        (pss_one (ps_aug (i := 2) sc_tokenize.nd rfl (.inl rfl) pe_int ip_add))
        (pss_one (ps_if (pt_cmpR op_eq (pe_ix ix_str (pv 0) (pv 2) (fun _ _ => rfl)) pe_str (nomark _))
          (pss_one (ps_set (i := 2) sc_tokenize.nd rfl (.inl rfl) (pe_call G_line_end (hr.mono (by omega)) (by rfl) g_line_end k_line_end b_line_end .nil pass0 (pa_cons (pv 0) (pa_cons (pv 2) pa_nil)))))
          (pss_cons (ps_set (i := 3) sc_tokenize.nd rfl (.inl rfl) (pe_call G_token_at (hr.mono (by omega)) (by rfl) g_token_at k_token_at b_token_at .nil (passes_call (takes_of rfl rfl rfl rfl) fun _ _ _ _ h => h) (pa_cons (pv 0) (pa_cons (pv 2) pa_nil))))
          (pss_cons (ps_expr (pe_bm PySem.F.plainAttrs_list PySem.F.slot_list_append PySem.F.type_list_append mt_append (pv 1) (pa_cons (pv 3) pa_nil)))
          (pss_one (ps_aug (i := 2) sc_tokenize.nd rfl (.inl rfl) (pe_callB call_len_str (by rfl) T.len (by decide +kernel) (pa_cons (pv 3) pa_nil)) ip_add)))))))))
    (pss_one (ps_ret (pv 1)))))), ?_⟩
    refine ⟨Nat.zero_le _, fun o no => ⟨fun m σ H' => Ex H H' ∧ ∃ (i : Nat) (S : List Nat) (us : List (List Nat)) (k : Nat) (z : Option V), i ≤ x.length ∧ (tl x).drop i = S ∧ LxB S k ∧ i + k = n ∧ us.length ≤ i ∧ m = x.length - i ∧ H' o = some (.lst (strsV us)) ∧ σ = [some (.str x), some (.ref o), some (.int i), z],
      ⟨_, Ex.new no, 0, tl x, [], n, none, Nat.zero_le _, rfl, hL, Nat.zero_add _, Nat.le_refl _, rfl, upd_same, rfl⟩, ?_⟩⟩
    rintro m σ H1 ⟨e1, i, S, us, k, z, hi, hd, hS, hts, hul, rfl, ho, rfl⟩
    have hl : x.length = i + S.length := by
      have := congrArg List.length hd
      rw [List.length_drop, ← len_tl] at this
      omega
    have hc0 : ∀ c r, S = c :: r → (tl x)[i]? = some c := fun c r e => by
      have := List.getElem?_drop (xs := tl x) (i := i) (j := 0)
      rw [hd, e, Nat.add_zero] at this
      rw [← this]; rfl
    have dec1 : ∀ c d : Nat, decide (V.str (⟨#[c]⟩ : Str) = V.str (mk [d])) = decide (c = d) := fun c d => by
      show decide (V.str (mk [c]) = V.str (mk [d])) = _
      rw [decV_mk]; by_cases h : c = d <;> simp [h]
    refine ⟨_, rfl, _, rfl, x, rfl, hs, _, _, rfl, rfl, _, rfl, ?_⟩
    cases hS with
    | @bad W R hW hR =>
      obtain ⟨c, r, rfl⟩ := List.exists_cons_of_ne_nil (bad_ne hW)
      obtain ⟨n32, n10, n35⟩ := bad_head hW rfl
      have hcx := hc0 c (r ++ R) rfl
      rw [List.length_append] at hl
      have hpos : 0 < (c :: r).length := Nat.succ_pos _
      rw [decide_eq_true (by omega)]
      refine iteT ⟨fun σ H' => False, fun _ _ z => z.elim, ?_⟩
      refine ⟨_, rfl, _, rfl, _, _, c, rfl, rfl, hs, atI_nat hcx, rfl, _, rfl, ?_⟩
      have d32 : decide (V.str (⟨#[c]⟩ : Str) = V.str " ") = false := (dec1 c 32).trans (decide_eq_false n32)
      have d10 : decide (V.str (⟨#[c]⟩ : Str) = V.str "\n") = false := (dec1 c 10).trans (decide_eq_false n10)
      have d35 : decide (V.str (⟨#[c]⟩ : Str) = V.str "#") = false := (dec1 c 35).trans (decide_eq_false n35)
      rw [d32]
      refine iteF ⟨_, rfl, _, rfl, _, _, c, rfl, rfl, hs, atI_nat hcx, rfl, _, rfl, ?_⟩
      rw [d10]
      refine iteF ⟨_, rfl, _, rfl, _, _, c, rfl, rfl, hs, atI_nat hcx, rfl, _, rfl, ?_⟩
      rw [d35]
      refine iteF ⟨_, rfl, _, rfl, x, i, rfl, hlen, hi,   .inr ⟨c :: r, R, hd, hR, hW, fun H2 d e2 nd => ?_⟩⟩
      have := q H2 d (e1.trans e2) nd
      rw [← hts, Nat.add_zero] at this
      exact this
    | @sp c S' k' hc hr' =>
      rw [List.length_cons] at hl
      have hcx := hc0 c S' rfl
      rw [decide_eq_true (by omega)]
      refine iteT ⟨fun σ H' => H' = H1 ∧ σ = [some (.str x), some (.ref o), some (.int ((i + 1 : Nat) : Int)), z], ?_, ?_⟩
      · rintro σ' H' ⟨rfl, rfl⟩
        refine ⟨x.length - (i + 1), by omega, e1, i + 1, S', us, k', z, by omega, ?_, hr', by omega, by omega, rfl, ho, rfl⟩
        rw [← List.drop_drop, hd]; rfl
      · refine ⟨_, rfl, _, rfl, _, _, c, rfl, rfl, hs, atI_nat hcx, rfl, _, rfl, ?_⟩
        have d32 : decide (V.str (⟨#[c]⟩ : Str) = V.str " ") = decide (c = 32) := dec1 c 32
        rw [d32]
        rcases hc with rfl | rfl
        · exact iteT (iteT ⟨_, rfl, _, _, rfl, rfl, rfl, rfl⟩)
        · refine iteF ⟨_, rfl, _, rfl, _, _, 10, rfl, rfl, hs, atI_nat hcx, rfl, _, rfl, ?_⟩
          have d10 : decide (V.str (⟨#[10]⟩ : Str) = V.str "\n") = decide (10 = 10) := dec1 10 10
          rw [d10]
          exact iteT ⟨_, rfl, _, _, rfl, rfl, rfl, rfl⟩
    | @com b S' k' hb hr' =>
      have hcx := hc0 35 (b ++ 10 :: S') rfl
      rw [List.cons_append, List.length_cons, List.length_append] at hl
      rw [decide_eq_true (by omega)]
      refine iteT ⟨fun σ H' => H' = H1 ∧ σ = [some (.str x), some (.ref o), some (.int ((i + (35 :: b).length : Nat) : Int)), z], ?_, ?_⟩
      · rintro σ' H' ⟨rfl, rfl⟩
        refine ⟨x.length - (i + (35 :: b).length), by rw [List.length_cons]; omega, e1, i + (35 :: b).length, 10 :: S', us, k', z, by rw [List.length_cons]; omega, ?_, hr', by omega, by omega, rfl, ho, rfl⟩
        rw [← List.drop_drop, hd, List.drop_left' rfl]
      · refine ⟨_, rfl, _, rfl, _, _, 35, rfl, rfl, hs, atI_nat hcx, rfl, _, rfl, ?_⟩
        have d32 : decide (V.str (⟨#[35]⟩ : Str) = V.str " ") = decide (35 = 32) := dec1 35 32
        rw [d32]
        refine iteF ⟨_, rfl, _, rfl, _, _, 35, rfl, rfl, hs, atI_nat hcx, rfl, _, rfl, ?_⟩
        have d10 : decide (V.str (⟨#[35]⟩ : Str) = V.str "\n") = decide (35 = 10) := dec1 35 10
        rw [d10]
        refine iteF ⟨_, rfl, _, rfl, _, _, 35, rfl, rfl, hs, atI_nat hcx, rfl, _, rfl, ?_⟩
        have d35 : decide (V.str (⟨#[35]⟩ : Str) = V.str "#") = decide (35 = 35) := dec1 35 35
        rw [d35]
        refine iteT ⟨_, rfl, _, rfl, x, i, 35 :: b, 10 :: S', rfl, hlen, hi, hd, ?_, .inr ⟨_, rfl⟩, rfl, rfl⟩
        intro h10
        rcases List.mem_cons.mp h10 with h | h
        · omega
        · exact hb h
    | @run T S' k' hT hn hr' =>
      obtain ⟨c, r, rfl⟩ := List.exists_cons_of_ne_nil hT.1
      have hcr : isRun c = true := hT.2.1 c (List.mem_cons_self ..)
      have n32 : c ≠ 32 := fun h => by rw [h, run_not.1] at hcr; cases hcr
      have n10 : c ≠ 10 := fun h => by rw [h, run_not.2.1] at hcr; cases hcr
      have n35 : c ≠ 35 := fun h => by rw [h, run_not.2.2] at hcr; cases hcr
      have hcx := hc0 c (r ++ S') rfl
      rw [List.length_append] at hl
      have hpos : 0 < (c :: r).length := Nat.succ_pos _
      rw [decide_eq_true (by omega)]
      refine iteT ⟨fun σ H' => Ex H H' ∧ H' o = some (.lst (strsV (us ++ [c :: r]))) ∧ ∃ z, σ = [some (.str x), some (.ref o), some (.int ((i + (c :: r).length : Nat) : Int)), z], ?_, ?_⟩
      · rintro σ' H' ⟨e2, ho2, z2, rfl⟩
        refine ⟨x.length - (i + (c :: r).length), by omega, e2, i + (c :: r).length, S', us ++ [c :: r], k', z2, by omega, ?_, hr', by omega, by rw [List.length_append]; simp only [List.length_cons, List.length_nil]; omega, rfl, ho2, rfl⟩
        rw [← List.drop_drop, hd, List.drop_left' rfl]
      · refine ⟨_, rfl, _, rfl, _, _, c, rfl, rfl, hs, atI_nat hcx, rfl, _, rfl, ?_⟩
        have d32 : decide (V.str (⟨#[c]⟩ : Str) = V.str " ") = false := (dec1 c 32).trans (decide_eq_false n32)
        have d10 : decide (V.str (⟨#[c]⟩ : Str) = V.str "\n") = false := (dec1 c 10).trans (decide_eq_false n10)
        have d35 : decide (V.str (⟨#[c]⟩ : Str) = V.str "#") = false := (dec1 c 35).trans (decide_eq_false n35)
        rw [d32]
        refine iteF ⟨_, rfl, _, rfl, _, _, c, rfl, rfl, hs, atI_nat hcx, rfl, _, rfl, ?_⟩
        rw [d10]
        refine iteF ⟨_, rfl, _, rfl, _, _, c, rfl, rfl, hs, atI_nat hcx, rfl, _, rfl, ?_⟩
        rw [d35]
        refine iteF ⟨_, rfl, _, rfl, x, i, rfl, hlen, hi, .inl ⟨c :: r, S', hd, .inl ⟨hT, hn⟩, fun H2 e2 => ?_⟩⟩
        have ho2 := e2 _ _ ho
        refine ⟨_, rfl, .inl ⟨rfl, _, SqL.of ho2⟩, _, rfl, o, _, _, rfl, rfl, ho2, ?_, ?_⟩
        · exact sz_lt (by unfold strsV; rw [List.length_map]; omega)
        · refine ⟨_, rfl, _, rfl, _, rfl, ?_, _, _, rfl, rfl, (e1.trans e2).mut no, ?_, some (.str (mk (c :: r))), ?_⟩
          · rw [mk_len]; exact sz_of (by omega)
          · rw [upd_same, strsV_add]
          · rw [mk_len]; rfl
    | @sgn T S' k' hT hr' =>
      obtain ⟨hne, hnr, n32, n10, n35, h2⟩ := sgn_of hT
      obtain ⟨c, r, rfl⟩ := List.exists_cons_of_ne_nil hne
      have hcx := hc0 c (r ++ S') rfl
      rw [List.length_append] at hl
      have hpos : 0 < (c :: r).length := Nat.succ_pos _
      rw [decide_eq_true (by omega)]
      refine iteT ⟨fun σ H' => Ex H H' ∧ H' o = some (.lst (strsV (us ++ [c :: r]))) ∧ ∃ z, σ = [some (.str x), some (.ref o), some (.int ((i + (c :: r).length : Nat) : Int)), z], ?_, ?_⟩
      · rintro σ' H' ⟨e2, ho2, z2, rfl⟩
        refine ⟨x.length - (i + (c :: r).length), by omega, e2, i + (c :: r).length, S', us ++ [c :: r], k', z2, by omega, ?_, hr', by omega, by rw [List.length_append]; simp only [List.length_cons, List.length_nil]; omega, rfl, ho2, rfl⟩
        rw [← List.drop_drop, hd, List.drop_left' rfl]
      · refine ⟨_, rfl, _, rfl, _, _, c, rfl, rfl, hs, atI_nat hcx, rfl, _, rfl, ?_⟩
        have d32 : decide (V.str (⟨#[c]⟩ : Str) = V.str " ") = false := (dec1 c 32).trans (decide_eq_false n32)
        have d10 : decide (V.str (⟨#[c]⟩ : Str) = V.str "\n") = false := (dec1 c 10).trans (decide_eq_false n10)
        have d35 : decide (V.str (⟨#[c]⟩ : Str) = V.str "#") = false := (dec1 c 35).trans (decide_eq_false n35)
        rw [d32]
        refine iteF ⟨_, rfl, _, rfl, _, _, c, rfl, rfl, hs, atI_nat hcx, rfl, _, rfl, ?_⟩
        rw [d10]
        refine iteF ⟨_, rfl, _, rfl, _, _, c, rfl, rfl, hs, atI_nat hcx, rfl, _, rfl, ?_⟩
        rw [d35]
        refine iteF ⟨_, rfl, _, rfl, x, i, rfl, hlen, hi, .inl ⟨c :: r, S', hd, .inr hT, fun H2 e2 => ?_⟩⟩
        have ho2 := e2 _ _ ho
        refine ⟨_, rfl, .inl ⟨rfl, _, SqL.of ho2⟩, _, rfl, o, _, _, rfl, rfl, ho2, ?_, ?_⟩
        · exact sz_lt (by unfold strsV; rw [List.length_map]; omega)
        · refine ⟨_, rfl, _, rfl, _, rfl, ?_, _, _, rfl, rfl, (e1.trans e2).mut no, ?_, some (.str (mk (c :: r))), ?_⟩
          · rw [mk_len]; exact sz_of (by omega)
          · rw [upd_same, strsV_add]
          · rw [mk_len]; rfl
end
end G
namespace G
open PySem PySem.Spec PyProof.Rows L2 Evl TL
/-! ## a text parsed -/
inductive Out where
  | tree (t : Tr) | syn (n : Nat) | deep
def outF (d : Nat) (tks : List (List Nat)) : Option Out :=
  if brkF tks 0 0 = true then
    match parseF tks d 0 with
    | none => none
    | some (.er n) => some (.syn n)
    | some (.ok t m) => if m < tks.length then some (.syn m) else if 20 < t.ht then some .deep else some (.tree t)
  else some .deep
theorem lx_toks {S : List Nat} {ts : List (List Nat)} (h : Lx S ts) : ts.length ≤ S.length ∧ ∀ T ∈ ts, T ≠ [] ∧ T.length ≤ S.length := by
  induction h with
  | nil => exact ⟨Nat.le_refl _, fun T h => by cases h⟩
  | sp _ _ ih => exact ⟨by rw [List.length_cons]; omega, fun T hT => ⟨(ih.2 T hT).1, by have := (ih.2 T hT).2; rw [List.length_cons]; omega⟩⟩
  | com _ _ _ ih => exact ⟨by rw [List.length_append, List.length_cons]; omega, fun T hT => ⟨(ih.2 T hT).1, by have := (ih.2 T hT).2; rw [List.length_append]; omega⟩⟩
  | @run U S ts h _ _ ih =>
    have h1 : 0 < U.length := List.length_pos_iff.mpr h.1
    refine ⟨by rw [List.length_append, List.length_cons]; omega, fun T hT => ?_⟩
    rcases List.mem_cons.mp hT with rfl | hT
    · exact ⟨h.1, by rw [List.length_append]; omega⟩
    · exact ⟨(ih.2 T hT).1, by have := (ih.2 T hT).2; rw [List.length_append]; omega⟩
  | @sgn U S ts h _ ih =>
    have h0 := (sgn_of h).1
    have h1 : 0 < U.length := List.length_pos_iff.mpr h0
    refine ⟨by rw [List.length_append, List.length_cons]; omega, fun T hT => ?_⟩
    rcases List.mem_cons.mp hT with rfl | hT
    · exact ⟨h0, by rw [List.length_append]; omega⟩
    · exact ⟨(ih.2 T hT).1, by have := (ih.2 T hT).2; rw [List.length_append]; omega⟩
section
variable {P : Program} {w : World} {K : PySem.W.Frag} {mg : Str → Option Value} {base : Heap}
/-- the error of a bad token -/
def BadE (B : Addr) : Sp := fun vs H _ E => ∃ (x : Str) (n : Nat), vs = [.str x] ∧ x.length ≤ 50000 ∧ LxB (tl x) n ∧ ∀ H1 d, Ex H H1 → H1 d = none → E (.ref B) (some d) (upd H1 d (.xd [("at", .int n)]))
theorem FnOk.liftX {k : Nat} {f : Addr} {fd : FuncData} {ps : List Str} {sp : Sp} (F : FnOk P w K mg base CX0 k f fd ps sp) : FnOk P w K mg base (L2.CX P w) k f fd ps sp :=
  ⟨F.len, fun A outer s H args us vs Q E hr he hb hv h => codeAny_mono (F.run A outer s H args us vs Q E hr he hb hv h) fun r s' q => by
    rcases r with e | t
    · exact q.elim
    · cases t <;> exact q⟩
def spTokE (B : Addr) : Sp := fun vs H Q E => spTokenize vs H Q E ∨ BadE B vs H Q E
theorem ok_tokE {BT : Addr} (D : Dfd K mg "tokenize" s_tokenize ["text"]) (C1 : ∀ f fd, Fun K "tokenize" "tokenize" s_tokenize f fd → FnOk P w K mg base (L2.CX P w) 4 f fd ["text"] spTokenize) (C2 : ∀ f fd, Fun K "tokenize" "tokenize" s_tokenize f fd → FnOk P w K mg base (L2.CX P w) 4 f fd ["text"] (spTokenizeB BT)) : HasX P w K mg base 4 "tokenize" ["text"] (spTokE BT) := by
  obtain ⟨f, fd, F, gf, bf⟩ := D
  refine ⟨f, fd, ⟨fun vs H Q E h => ?_, fun A outer s H args us vs Q E hr he hb hv h => ?_⟩, gf, F.kp, bf⟩
  · rcases h with h | h
    · exact (C1 f fd F).len vs H Q E h
    · exact (C2 f fd F).len vs H Q E h
  · rcases h with h | h
    · exact (C1 f fd F).run A outer s H args us vs Q E hr he hb hv h
    · exact (C2 f fd F).run A outer s H args us vs Q E hr he hb hv h
def spReader0 (C D : Addr) : Sp := fun vs H Q E => ∃ (x : Str) (tks : List (List Nat)), vs = [.str x] ∧ x.length ≤ 50000 ∧ Lx (tl x) tks ∧ (brkF tks 0 0 = true → ∀ r H', Ex H H' → H r = none → Rd C H' r tks 0 → Q (.ref r) H') ∧ (brkF tks 0 0 = false → ∀ H', Ex H H' → E (.ref D) none H')
def spReader (C D B : Addr) : Sp := fun vs H Q E => spReader0 C D vs H Q E ∨ BadE B vs H Q E
theorem sc_reader : FnScope ["text", "tokens"] ["text"] (defScope s_reader) := ⟨rfl, rfl, rfl, by decide +kernel, rfl, by decide +kernel, by decide +kernel⟩
theorem ok_reader {C D0 BT : Addr} (D : Dfd K mg "_reader" s_reader ["text"]) (C1 : HasX P w K mg base 4 "tokenize" ["text"] (spTokE BT)) (C2 : HasX P w K mg base 1 "_check_brackets" ["tokens"] (spBrk D0)) (g_TokenReader : mg "TokenReader" = some (.ref C)) {fi : Addr} {di : FuncData} (Mk_TokenReader : Mk K C fi)
    (G_TokenReader_init : FnOk P w K mg base CX0 1 fi di ["self", "tokens"] (spRInit C)) (b_TokenReader_init : Binds K di ["self", "tokens"] []) : HasX P w K mg base 5 "_reader" ["text"] (spReader C D0 BT) := by
  obtain ⟨f_tokenize, d_tokenize, G_tokenize, g_tokenize, k_tokenize, b_tokenize⟩ := C1
  obtain ⟨f_check_brackets, d_check_brackets, G_check_brackets, g_check_brackets, k_check_brackets, b_check_brackets⟩ := C2
  obtain ⟨f, fd, F, gf, bf⟩ := D
  refine ⟨f, fd, F.okX sc_reader (fun vs H Q E h => ?_) (fun cdv A outer s H vs Q E hr h => ?_), gf, F.kp, bf⟩
  · rcases h with ⟨_, _, rfl, _⟩ | ⟨_, _, rfl, _⟩ <;> rfl
  · refine ⟨_, (pss_cons (ps_set (i := 1) sc_reader.nd rfl (.inl rfl) (pe_call G_tokenize (hr.mono (by omega)) (by rfl) g_tokenize k_tokenize b_tokenize .nil (passes_call (takes_of rfl rfl rfl rfl) fun _ _ _ _ h => h) (pa_cons (pv 0) pa_nil)))
    (pss_cons (ps_expr (pe_call G_check_brackets (hr.mono (by omega)) (by rfl) g_check_brackets k_check_brackets b_check_brackets .nil (passes_call (takes_of rfl rfl rfl rfl) fun _ _ _ _ h => h) (pa_cons (pv 1) pa_nil)))
    (pss_one (ps_ret (pe_make Mk_TokenReader G_TokenReader_init (hr.mono (by omega)) (by rfl) g_TokenReader b_TokenReader_init .nil pass0 (pa_cons (pv 1) pa_nil)))))), ?_⟩
    rcases h with ⟨x, tks, rfl, hl, hx, q1, q2⟩ | ⟨x, n, rfl, hl, hx, q⟩
    case inr => exact ⟨_, rfl, .inr ⟨x, n, rfl, hl, hx, q⟩⟩
    refine ⟨_, rfl, .inl ⟨x, tks, rfl, hl, hx, fun p H1 np E1 h1 => ⟨_, rfl, p, tks, rfl, h1, fun hb => ?_, fun hb => q2 hb H1 E1⟩⟩⟩
    refine ⟨_, rfl, fun r dx nr nd hne => ?_⟩
    have ep : p ≠ r := fun z => by rw [z, nr] at h1; cases h1
    have ed : p ≠ dx := fun z => by rw [z, nd] at h1; cases h1
    refine ⟨r, p, dx, tks, rfl, upd_same, by rw [upd_ne ep, upd_ne ed]; exact h1, fun H2 k2 R2 => ⟨rfl, ?_⟩⟩
    refine q1 hb r H2 (E1.trans fun b o h => ?_) ?_ R2
    · have b1 : b ≠ r := fun z => by rw [z, nr] at h; cases h
      have b2 : b ≠ dx := fun z => by rw [z, nd] at h; cases h
      exact k2 b o b1 (by rw [upd_ne b1, upd_ne b2]; exact h)
    · cases hq : H r with
      | none => rfl
      | some o => rw [E1 _ _ hq] at nr; cases nr
def spChkH (D : Addr) : Sp := fun vs H Q E => ∃ (v : V) (t : Tr), vs = [v] ∧ TreeAt K H v t ∧ t.post.length ≤ 10000 ∧ (t.ht ≤ 20 → ∀ H', Ex H H' → Q .non H') ∧ (20 < t.ht → ∀ H', Ex H H' → E (.ref D) none H')
def spParse0 (B D : Addr) (d : Nat) : Sp := fun vs H Q E => ∃ (x : Str) (tks : List (List Nat)) (out : Out), vs = [.str x] ∧ x.length ≤ 50000 ∧ Lx (tl x) tks ∧ outF d tks = some out ∧ (brkF tks 0 0 = true → ∀ t m, parseF tks d 0 = some (.ok t m) → t.post.length ≤ 10000) ∧
  (∀ t v H', out = .tree t → Ex H H' → TreeH H' v t → Q v H') ∧ (∀ n H1 dd, out = .syn n → Ex H H1 → H1 dd = none → E (.ref B) (some dd) (upd H1 dd (.xd [("at", .int n)]))) ∧ (out = .deep → ∀ H1, Ex H H1 → E (.ref D) none H1)
def spParse (B D BT : Addr) (d : Nat) : Sp := fun vs H Q E => spParse0 B D d vs H Q E ∨ BadE BT vs H Q E
theorem sc_parse_expression : FnScope ["text", "reader", "tree"] ["text"] (defScope s_parse_expression) := ⟨rfl, rfl, rfl, by decide +kernel, rfl, by decide +kernel, by decide +kernel⟩
theorem ok_parse_expression {C B D0 BT fx : Addr} {dx0 : FuncData} {d h : Nat} (hh : h ≤ 5 + 6 * d) (D : Dfd K mg "parse_expression" s_parse_expression ["text"]) (C1 : HasX P w K mg base 5 "_reader" ["text"] (spReader C D0 BT)) (X : ExprC P w K mg base C B fx dx0) (G_expression : FnOk P w K mg base (L2.CX P w) (5 + 6 * d) fx dx0 ["reader", "level"] (spExpr K C B 3 fun tks => parseF tks d))
    (c_TokenReader : Cls K C) {fe : Addr} {de : FuncData} (M_TokenReader_take_end : Meth K C "take_end" fe) (G_TokenReader_take_end : FnOk P w K mg base (L2.CX P w) 3 fe de ["self"] (spTakeEnd C B)) (b_TokenReader_take_end : Binds K de ["self"] []) (C2 : HasX P w K mg base h "_check_height" ["tree"] (spChkH (K := K) D0)) :
    HasX P w K mg base (5 + 6 * d + 1) "parse_expression" ["text"] (spParse B D0 BT d) := by
  obtain ⟨f_reader, d_reader, G_reader, g_reader, k_reader, b_reader⟩ := C1
  obtain ⟨f_check_height, d_check_height, G_check_height, g_check_height, k_check_height, b_check_height⟩ := C2
  have g_expression := X.g
  have k_expression := X.k
  obtain ⟨ds, dv_expression, bd_expression⟩ := X.bd
  obtain ⟨f, fd, F, gf, bf⟩ := D
  refine ⟨f, fd, F.okX sc_parse_expression (fun vs H Q E h => ?_) (fun cdv A outer s H vs Q E hr h => ?_), gf, F.kp, bf⟩
  · rcases h with ⟨_, _, _, rfl, _⟩ | ⟨_, _, rfl, _⟩ <;> rfl
  · refine ⟨_, (pss_cons (ps_set (i := 1) sc_parse_expression.nd rfl (.inl rfl) (pe_call G_reader (hr.mono (by omega)) (by rfl) g_reader k_reader b_reader .nil (passes_call (takes_of rfl rfl rfl rfl) fun _ _ _ _ h => h) (pa_cons (pv 0) pa_nil)))
    (pss_cons (ps_set (i := 2) sc_parse_expression.nd rfl (.inl rfl) (pe_call G_expression (hr.mono (by omega)) (by rfl) g_expression k_expression bd_expression dv_expression (passes_call (takes_of rfl rfl rfl rfl) fun _ _ _ _ h => h) (pa_cons (pv 1) pa_nil)))
    (pss_cons (ps_expr (pe_meth0 (pv 1) c_TokenReader M_TokenReader_take_end G_TokenReader_take_end (hr.mono (by omega)) b_TokenReader_take_end .nil (passes_call (takes_of rfl rfl rfl rfl) fun _ _ _ _ h => h)))
    (pss_cons (ps_expr (pe_call G_check_height (hr.mono (by omega)) (by rfl) g_check_height k_check_height b_check_height .nil (passes_call (takes_of rfl rfl rfl rfl) fun _ _ _ _ h => h) (pa_cons (pv 2) pa_nil)))
    (pss_one (ps_ret (pv 2))))))), ?_⟩
    rcases h with ⟨x, tks, out, rfl, hl, hx, ho, hp, q1, q2, q3⟩ | ⟨x, n, rfl, hl, hx, q⟩
    case inr => exact ⟨_, rfl, .inr ⟨x, n, rfl, hl, hx, q⟩⟩
    obtain ⟨lt, lok⟩ := lx_toks hx
    rw [← len_tl] at lt lok
    have hok : TksOk tks := ⟨by omega, fun T hT => ⟨(lok T hT).1, by have := (lok T hT).2; omega⟩⟩
    unfold outF at ho
    refine ⟨_, rfl, .inl ⟨x, tks, rfl, hl, hx, fun hb r H1 E1 nr R1 => ?_, fun hb H1 E1 => q3 (by rw [if_neg (by rw [hb]; decide)] at ho; exact (Option.some.inj ho).symm) H1 E1⟩⟩
    rw [if_pos hb] at ho
    have ex : ∀ {H2 : Hp}, Kr r H1 H2 → Ex H H2 := fun {H2} k b o hbo => k b o (fun z => by rw [z, nr] at hbo; cases hbo) (E1 b o hbo)
    cases hpf : parseF tks d 0 with
    | none => rw [hpf] at ho; cases ho
    | some res =>
      rw [hpf] at ho
      refine ⟨_, rfl, r, rfl, tks, 0, res, R1, Nat.zero_le _, hok, hpf, fun t m v H2 e k2 R2 T2 => ?_, fun m H2 dd e k2 nd => ?_⟩
      · subst e
        dsimp only at ho
        have bd : 0 < m ∧ m ≤ tks.length := parse_bd tks d _ _ (Nat.zero_le _) hpf
        have hl5 := hok.1
        obtain ⟨dx2, tl2, g1, g2⟩ := id R2.ob
        refine ⟨_, rfl, r, dx2, _, rfl, g1, rdF_no _ _ rfl rfl, r, tks, m, rfl, R2, by omega, fun hm => ?_, fun hm dd nd => ?_⟩
        · rw [if_neg (by omega)] at ho
          refine ⟨_, rfl, v, t, rfl, T2.at_, hp hb t m hpf, fun h20 H3 E3 => ⟨_, rfl, ?_⟩, fun h20 H3 E3 => ?_⟩
          · rw [if_neg (by omega)] at ho
            exact q1 t v H3 (Option.some.inj ho).symm ((ex k2).trans E3) (T2.ex E3)
          · rw [if_pos h20] at ho
            exact q3 (Option.some.inj ho).symm H3 ((ex k2).trans E3)
        · rw [if_pos hm] at ho
          exact q2 m H2 dd (Option.some.inj ho).symm (ex k2) nd
      · subst e
        exact q2 m H2 dd (Option.some.inj ho).symm (ex k2) nd
end
end G
namespace G
open PySem PySem.Spec PyProof.Rows L2 Evl TL
/-! ## how high a tree is -/
def hts (S : List Tr) : List Int := S.map fun u => (u.ht : Int)
theorem hts_app (S T : List Tr) : hts (S ++ T) = hts S ++ hts T := List.map_append
theorem hts_len (S : List Tr) : ((hts S).map V.int).length = S.length := by unfold hts; rw [List.length_map, List.length_map]
theorem ht_mx (τ : Tr) : ∃ m : Int, m + 1 = (τ.ht : Int) ∧ (hts τ.parts = [] → m = 0) ∧ ∀ n r, hts τ.parts = n :: r → r.foldl max n = m := by
  cases τ with
  | name x => exact ⟨0, rfl, fun _ => rfl, fun n r h => (by cases h)⟩
  | const b => exact ⟨0, rfl, fun _ => rfl, fun n r h => (by cases h)⟩
  | neg t => exact ⟨(t.ht : Int), rfl, (fun h => by cases h), (fun n r h => by cases h; rfl)⟩
  | bin o a b =>
    refine ⟨((max a.ht b.ht : Nat) : Int), rfl, (fun h => by cases h), fun n r h => ?_⟩
    have h : [(a.ht : Int), (b.ht : Int)] = n :: r := h
    injection h with h1 h2
    subst h1 h2
    show max (a.ht : Int) (b.ht : Int) = _
    omega
theorem rMaxDf_of {K : PySem.W.Frag} {H : Hp} {Q : VK} {a : Addr} {ns : List Int} {m d : Int} (hs : SqL K H a (ns.map V.int)) (h0 : ns = [] → m = d) (h1 : ∀ n r, ns = n :: r → r.foldl max n = m) (q : Q (.int m) H) : rMaxDf K [.ref a] [.int d] H Q :=
  ⟨a, ns, d, rfl, rfl, hs, fun e => by rw [← h0 e]; exact q, fun n r e => by rw [h1 n r e]; exact q⟩
structure TxtHt (mg : Str → Option Value) : Prop where
  len : mg "len" = none
  max : mg "max" = none
section
variable {P : Program} {w : World} {K : PySem.W.Frag} {mg : Str → Option Value} {base : Heap}
def spHt : Sp := fun vs H Q _ => ∃ (v : V) (t : Tr), vs = [v] ∧ TreeAt K H v t ∧ t.post.length ≤ 10000 ∧ ∀ H', Ex H H' → Q (.int (t.ht : Nat)) H'
theorem sc_height : FnScope ["tree", "heights", "part", "many", "tallest"] ["tree"] (defScope s_height) := ⟨rfl, rfl, rfl, by decide +kernel, rfl, by decide +kernel, by decide +kernel⟩
theorem ok_height (D : Dfd K mg "height" s_height ["tree"]) (T : TxtHt mg) (C1 : Has P w K mg base 1 "operands" ["tree"] (spOps (K := K))) (C2 : Has P w K mg base 2 "postorder" ["tree"] (spPost (K := K))) : Has P w K mg base 3 "height" ["tree"] (spHt (K := K)) := by
  obtain ⟨f_operands, d_operands, G_operands, g_operands, k_operands, b_operands⟩ := C1
  obtain ⟨f_postorder, d_postorder, G_postorder, g_postorder, k_postorder, b_postorder⟩ := C2
  refine D.has fun f fd F => F.ok sc_height (fun vs H Q E h => ?_) (fun cdv A outer s H vs Q E hr h => ?_)
  · obtain ⟨v, t, rfl, _⟩ := h
    rfl
  · obtain ⟨v, t, rfl, ht, htl, q⟩ := h
    refine ⟨_, (pss_cons (ps_set (i := 1) sc_height.nd rfl (.inl rfl) (pe_lst pa_nil))
    (pss_cons (ps_for PassesOwn.never rfl (pi_list (pe_call G_postorder (hr.mono (by omega)) (by rfl) g_postorder k_postorder b_postorder .nil pass0 (pa_cons (pv 0) pa_nil))) (pg_name (i := 2) sc_height.nd rfl (.inl rfl))
      (pss_cons (ps_set (i := 3) sc_height.nd rfl (.inl rfl) (pe_callB call_len_seq (by rfl) T.len (by decide +kernel) (pa_cons (pe_call G_operands (hr.mono (by omega)) (by rfl) g_operands k_operands b_operands .nil pass0 (pa_cons (pv 2) pa_nil)) pa_nil)))
      (pss_cons (ps_set (i := 4) sc_height.nd rfl (.inl rfl) (pe_callBK (cr_maxDf rfl (Nat.lt_of_le_of_lt (Nat.add_le_add_right (Nat.le_add_right _ _) _) hr.un)) (by rfl) T.max (by decide +kernel) (pa_cons (pe_slice sl_list (pv 1) (po_some (pe_op op_sub (pe_callB call_len_seq (by rfl) T.len (by decide +kernel) (pa_cons (pv 1) pa_nil)) (pv 3))) po_none) pa_nil) (pk_cons pe_int pk_nil)))
      (pss_cons (ps_delSl (pv 1) (po_some (pe_op op_sub (pe_callB call_len_seq (by rfl) T.len (by decide +kernel) (pa_cons (pv 1) pa_nil)) (pv 3))))
      (pss_one (ps_expr (pe_bm PySem.F.plainAttrs_list PySem.F.slot_list_append PySem.F.type_list_append mt_append (pv 1) (pa_cons (pe_op op_add (pv 4) pe_int) pa_nil))))))))
    (pss_one (ps_ret (pe_ix ix_list (pv 1) pe_int (fun _ _ => rfl)))))), ?_⟩
    refine ⟨(by show 0 ≤ sizeLine; decide), fun M nM => ⟨_, rfl, v, t, H, rfl, Ex.new nM, ht, htl, fun L zs H2 E2 nL hL aZ => ⟨_, rfl, ⟨_, SqL.of hL⟩, ?_⟩⟩⟩
    have E3 : Ex H H2 := (Ex.new nM).trans E2
    have hM2 : H2 M = some (.lst []) := E2 _ _ upd_same
    have hML : M ≠ L := fun z => by rw [← z, upd_same] at nL; cases nL
    refine for_list (K := K) (a := L) (xs := zs)
      (fun j σ H' => Ex H H' ∧ ∃ (S : List Tr) (y2 y3 y4 : Option V), Good t S (t.post.drop j) ∧ H' L = some (.lst zs) ∧ H' M = some (.lst ((hts S).map V.int)) ∧ S.length ≤ j ∧ σ = [some v, some (.ref M), y2, y3, y4])
      ⟨E3, [], _, _, _, good_all t, hL, hM2, Nat.le_refl _, rfl⟩ (fun j σ H' _ g => let ⟨_, _, _, _, _, _, h, _⟩ := g; SqL.of h) ?_ ?_
    · rintro j z σ H3 hz ⟨E4, S, y2, y3, y4, hG, hL3, hM3, hSl, rfl⟩
      have hj : j < t.post.length := by rw [← aZ.1]; exact (List.getElem?_eq_some_iff.mp hz).1
      obtain ⟨τ, hτ⟩ : ∃ τ, t.post[j]? = some τ := ⟨_, List.getElem?_eq_getElem hj⟩
      have hdr : t.post.drop j = τ :: t.post.drop (j + 1) := by
        rw [List.drop_eq_getElem_cons hj]
        rw [List.getElem?_eq_getElem hj] at hτ
        rw [Option.some.inj hτ]
      rw [hdr] at hG
      obtain ⟨S', rfl, hG'⟩ := hG
      have hTz := aZ.2 j z τ hz hτ
      obtain ⟨m, hm1, hm2, hm3⟩ := ht_mx τ
      have hpl : (S' ++ τ.parts).length = S'.length + τ.parts.length := List.length_append
      refine ⟨_, rfl, z, τ, H, rfl, E4, hTz, fun p zs' H4 E5 hs hA => ⟨p, _, rfl, .inr hs, ?_⟩⟩
      have hzl : zs'.length = τ.parts.length := hA.1
      have hM4 := E5 _ _ hM3
      have hL4 := E5 _ _ hL3
      have hsub : (((hts (S' ++ τ.parts)).map V.int).length : Int) - (zs'.length : Int) = ((S'.length : Nat) : Int) := by rw [hts_len, hpl, hzl]; omega
      have ecut : cutV ((hts (S' ++ τ.parts)).map V.int) (some ((((hts (S' ++ τ.parts)).map V.int).length : Int) - (zs'.length : Int))) none = (hts τ.parts).map V.int := by
        rw [hsub, cutV_tail (by rw [hts_len, hpl]; omega), hts_app, List.map_append]
        exact List.drop_left' (by rw [hts_len])
      refine ⟨_, rfl, _, rfl, M, _, rfl, .inl (SqL.of hM4), _, rfl, _, _, rfl, rfl, _, rfl, M, _, rfl, SqL.of hM4, fun Sl nSl => ?_⟩
      rw [ecut]
      have hM5 : (upd H4 Sl (.lst ((hts τ.parts).map V.int))) M = some (.lst ((hts (S' ++ τ.parts)).map V.int)) := Ex.new nSl _ _ hM4
      have hL5 : (upd H4 Sl (.lst ((hts τ.parts).map V.int))) L = some (.lst zs) := Ex.new nSl _ _ hL4
      have E6 : Ex H (upd H4 Sl (.lst ((hts τ.parts).map V.int))) := (E4.trans E5).trans (Ex.new nSl)
      have hSl5 : (upd H4 Sl (.lst ((hts τ.parts).map V.int))) Sl = some (.lst ((hts τ.parts).map V.int)) := upd_same
      generalize upd H4 Sl (.lst ((hts τ.parts).map V.int)) = H5 at *
      have etk : ((hts (S' ++ τ.parts)).map V.int).take S'.length = (hts S').map V.int := by
        rw [hts_app, List.map_append]
        exact List.take_left' (hts_len S')
      refine ⟨Sl, hts τ.parts, 0, rfl, rfl, SqL.of hSl5, fun h0 => ?_, fun n r h => ?_⟩
      · obtain rfl := hm2 h0
        refine ⟨_, rfl, _, rfl, M, _, rfl, .inl (SqL.of hM5), _, rfl, _, _, rfl, rfl, _, rfl, M, _, S'.length, rfl, congrArg some hsub, hM5, by rw [hts_len, hpl]; omega, ?_⟩
        rw [etk]
        have hM6 : (upd H5 M (.lst ((hts S').map V.int))) M = some (.lst ((hts S').map V.int)) := upd_same
        refine ⟨_, rfl, .inl ⟨rfl, _, SqL.of hM6⟩, _, rfl, _, _, rfl, rfl, M, _, _, rfl, rfl, hM6, ?_, ?_⟩
        · rw [hpl] at hSl
          exact sz_lt (by rw [hts_len]; omega)
        · refine ⟨?_, S' ++ [τ], _, _, _, hG', ?_, ?_, ?_, rfl⟩
          · exact (E6.mut nM).mut nM
          · rw [upd_ne (fun z => hML z.symm), upd_ne (fun z => hML z.symm)]; exact hL5
          · rw [upd_same, hts_app, List.map_append]; exact congrArg (fun q => some (HO.lst ((hts S').map V.int ++ [q]))) (congrArg V.int hm1)
          · rw [List.length_append]; rw [hpl] at hSl; show _ + 1 ≤ _; omega
      · have := hm3 n r h
        subst this
        refine ⟨_, rfl, _, rfl, M, _, rfl, .inl (SqL.of hM5), _, rfl, _, _, rfl, rfl, _, rfl, M, _, S'.length, rfl, congrArg some hsub, hM5, by rw [hts_len, hpl]; omega, ?_⟩
        rw [etk]
        have hM6 : (upd H5 M (.lst ((hts S').map V.int))) M = some (.lst ((hts S').map V.int)) := upd_same
        refine ⟨_, rfl, .inl ⟨rfl, _, SqL.of hM6⟩, _, rfl, _, _, rfl, rfl, M, _, _, rfl, rfl, hM6, ?_, ?_⟩
        · rw [hpl] at hSl
          exact sz_lt (by rw [hts_len]; omega)
        · refine ⟨?_, S' ++ [τ], _, _, _, hG', ?_, ?_, ?_, rfl⟩
          · exact (E6.mut nM).mut nM
          · rw [upd_ne (fun z => hML z.symm), upd_ne (fun z => hML z.symm)]; exact hL5
          · rw [upd_same, hts_app, List.map_append]; exact congrArg (fun q => some (HO.lst ((hts S').map V.int ++ [q]))) (congrArg V.int hm1)
          · rw [List.length_append]; rw [hpl] at hSl; show _ + 1 ≤ _; omega
    · rintro σ H3 ⟨E4, S, y2, y3, y4, hG, hL3, hM3, hSl, rfl⟩
      rw [aZ.1, List.drop_length] at hG
      obtain rfl : S = [t] := hG
      refine ⟨_, rfl, _, _, _, _, rfl, rfl, SqL.of hM3, atI_nat (j := 0) rfl, q H3 E4⟩
end
end G
namespace G
open PySem PySem.Spec PyProof.Rows L2 Evl TL
section
variable {P : Program} {w : World} {K : PySem.W.Frag} {mg : Str → Option Value} {base : Heap}
theorem sc_check_height : FnScope ["tree"] ["tree"] (defScope s_check_height) := ⟨rfl, rfl, rfl, by decide +kernel, rfl, by decide +kernel, by decide +kernel⟩
theorem ok_check_height {D0 : Addr} (D : Dfd K mg "_check_height" s_check_height ["tree"]) (UD : ExcT K mg "TooDeep" D0) (TM : ∃ t, mg "MOST_HEIGHT" = some (.int 20 t)) (C1 : Has P w K mg base 3 "height" ["tree"] (spHt (K := K))) : HasX P w K mg base 4 "_check_height" ["tree"] (spChkH (K := K) D0) := by
  obtain ⟨f_height, d_height, G_height, g_height, k_height, b_height⟩ := C1
  obtain ⟨tm, g_MOST_HEIGHT⟩ := TM
  obtain ⟨f, fd, F, gf, bf⟩ := D
  refine ⟨f, fd, F.okX sc_check_height (fun vs H Q E h => ?_) (fun cdv A outer s H vs Q E hr h => ?_), gf, F.kp, bf⟩
  · obtain ⟨_, _, rfl, _⟩ := h
    rfl
  · obtain ⟨v, t, rfl, ht, hl, q1, q2⟩ := h
    refine ⟨_, (pss_one (ps_if (pt_cmpR op_gt (pe_call G_height (hr.mono (by omega)) (by rfl) g_height k_height b_height .nil pass0 (pa_cons (pv 0) pa_nil)) (gInt rfl g_MOST_HEIGHT) (nomark _))
      (pss_one (ps_raise rfl (takes_of rfl rfl rfl rfl) (pmk_ownA PySem.F.excBase_ValueError UD.xP UD.gC UD.kC (raises_own UD.bC UD.tC) rfl (pa_cons pe_str pa_nil))))
      pss_nil)), ?_⟩
    refine ⟨_, rfl, v, t, rfl, ht, hl, fun H1 E1 => ⟨_, _, rfl, rfl, _, rfl, ite2 (fun c => ?_) (fun c => ?_)⟩⟩
    · have : (20 : Int) < (t.ht : Int) := of_decide_eq_true c
      exact ⟨(by show 1 ≤ sizeLine; decide), q2 (by omega) H1 E1⟩
    · have : ¬ (20 : Int) < (t.ht : Int) := fun z => c (decide_eq_true z)
      exact q1 (by omega) H1 E1
end
end G
namespace G
open PySem PySem.Spec PyProof.Rows L2 Evl TL
/-! ## what is written is read -/
/-- d: how deep brackets go; 0: an atom; k + 1: with k levels of operators -/
inductive Wr : Nat → Nat → Tr → List (List Nat) → Prop where
  | name {d : Nat} {x : List Nat} (h : isName x = true) : Wr d 0 (.name (mk x)) [x]
  | const {d : Nat} (b : Bool) : Wr d 0 (.const b) [if b = true then [49] else [48]]
  | box {d : Nat} {t : Tr} {ts : List (List Nat)} (h : Wr d 4 t ts) : Wr (d + 1) 0 t ([40] :: (ts ++ [[41]]))
  | neg {d : Nat} {t : Tr} {ts : List (List Nat)} (h : Wr d 1 t ts) : Wr d 1 (.neg t) ([33] :: ts)
  | up {d lv : Nat} {t : Tr} {ts : List (List Nat)} (h : Wr d lv t ts) : Wr d (lv + 1) t ts
  | bin {d k : Nat} {l r : Tr} {a b : List (List Nat)} (hk : k ≤ 2) (hl : Wr d (k + 2) l a) (hr : Wr d (k + 1) r b) : Wr d (k + 2) (.bin (opL k) l r) (a ++ sgL k :: b)
/-- no sign of a lower level stands ahead -/
def Stop (k : Nat) (rest : List (List Nat)) : Prop := ∀ j, j < k → rest.head? ≠ some (sgL j)
theorem sgL_apart {k j : Nat} (hk : k ≤ 2) (h : j < k) : sgL k ≠ sgL j := by
  match k, hk, j, h with
  | 1, _, 0, _ => decide
  | 2, _, 0, _ => decide
  | 2, _, 1, _ => decide
theorem sgL_names : ∀ j, j < 3 → isName (sgL j) = false ∧ sgL j ≠ [41] := by
  intro j hj
  match j, hj with
  | 0, _ => decide +kernel
  | 1, _ => decide +kernel
  | 2, _ => decide +kernel
theorem name_not : isName [40] = false ∧ isName [48] = false ∧ isName [49] = false ∧ isName [33] = false := by decide +kernel
theorem drop_at {α : Type} {l r : List α} {n : Nat} {x : α} (h : l.drop n = x :: r) : l[n]? = some x := by
  have := List.getElem?_drop (xs := l) (i := n) (j := 0)
  rw [h, Nat.add_zero] at this
  rw [← this]; rfl
theorem drop_more {α : Type} {l a b : List α} {n : Nat} (h : l.drop n = a ++ b) : l.drop (n + a.length) = b := by
  rw [← List.drop_drop, h, List.drop_left' rfl]
structure Cl (tks : List (List Nat)) (d lv : Nat) (t : Tr) (ts : List (List Nat)) : Prop where
  atom : lv = 0 → ∀ n rest, tks.drop n = ts ++ rest → atomF (parseF tks d) tks n = some (.ok t (n + ts.length)) ∧ tks[n]? ≠ some [33]
  expr : ∀ k, lv = k + 1 → ∀ n rest, tks.drop n = ts ++ rest → Stop k rest → exprF (parseF tks d) tks k n = some (.ok t (n + ts.length))
  chain : ∀ k, lv = k + 2 → ∀ n rest, tks.drop n = ts ++ rest → Stop k rest → ∃ t0 m0 c, exprF (parseF tks d) tks k n = some (.ok t0 m0) ∧ c ≤ ts.length ∧
    ∀ f, loopF (exprF (parseF tks d) tks k) tks (sgL k) (opL k) (f + c) t0 m0 = loopF (exprF (parseF tks d) tks k) tks (sgL k) (opL k) f t (n + ts.length)
theorem expr_of_chain {tks : List (List Nat)} {d k : Nat} {t : Tr} {ts : List (List Nat)}
    (h : ∀ n rest, tks.drop n = ts ++ rest → Stop k rest → ∃ t0 m0 c, exprF (parseF tks d) tks k n = some (.ok t0 m0) ∧ c ≤ ts.length ∧
      ∀ f, loopF (exprF (parseF tks d) tks k) tks (sgL k) (opL k) (f + c) t0 m0 = loopF (exprF (parseF tks d) tks k) tks (sgL k) (opL k) f t (n + ts.length)) :
    ∀ n rest, tks.drop n = ts ++ rest → Stop (k + 1) rest → exprF (parseF tks d) tks (k + 1) n = some (.ok t (n + ts.length)) := by
  intro n rest hd hs
  obtain ⟨t0, m0, c, e0, hc, hl⟩ := h n rest hd fun j hj => hs j (by omega)
  have hlen : ts.length ≤ tks.length := by
    have := congrArg List.length hd
    rw [List.length_drop, List.length_append] at this
    omega
  show (match exprF (parseF tks d) tks k n with
    | some (.ok t m) => loopF (exprF (parseF tks d) tks k) tks (sgL k) (opL k) (tks.length + 1) t m
    | x => x) = _
  rw [e0]
  show loopF (exprF (parseF tks d) tks k) tks (sgL k) (opL k) (tks.length + 1) t0 m0 = _
  have ef : tks.length + 1 = (tks.length - c + 1) + c := by omega
  rw [ef, hl]
  have hn : ¬ tks[n + ts.length]? = some (sgL k) := fun z => by
    have hr := drop_more hd
    cases rest with
    | nil =>
      have : tks.length ≤ n + ts.length := by
        have := congrArg List.length hr
        rw [List.length_drop] at this
        have : tks.length - (n + ts.length) = 0 := this
        omega
      rw [List.getElem?_eq_none this] at z; cases z
    | cons x r =>
      rw [drop_at hr] at z
      exact hs k (by omega) z
  show (if tks[n + ts.length]? = some (sgL k) then _ else some (Rs.ok t (n + ts.length))) = _
  rw [if_neg hn]
theorem wr_cl (tks : List (List Nat)) {d lv : Nat} {t : Tr} {ts : List (List Nat)} (h : Wr d lv t ts) : Cl tks d lv t ts := by
  induction h with
  | @name d x hx =>
    refine ⟨fun _ n rest hd => ?_, (fun k e => by cases e), (fun k e => by cases e)⟩
    have hg := drop_at (x := x) (r := rest) hd
    have n1 : x ≠ [40] := fun z => by rw [z, name_not.1] at hx; cases hx
    have n2 : x ≠ [48] := fun z => by rw [z, name_not.2.1] at hx; cases hx
    have n3 : x ≠ [49] := fun z => by rw [z, name_not.2.2.1] at hx; cases hx
    have n4 : x ≠ [33] := fun z => by rw [z, name_not.2.2.2] at hx; cases hx
    refine ⟨?_, by rw [hg]; exact fun z => n4 (Option.some.inj z)⟩
    unfold atomF
    rw [hg]
    dsimp only
    rw [if_neg n1, if_neg n2, if_neg n3, if_pos hx]
    rfl
  | @const d b =>
    refine ⟨fun _ n rest hd => ?_, (fun k e => by cases e), (fun k e => by cases e)⟩
    have hg := drop_at (r := rest) hd
    cases b with
    | true =>
      refine ⟨?_, by rw [hg]; exact fun z => by cases z⟩
      unfold atomF
      rw [hg]; rfl
    | false =>
      refine ⟨?_, by rw [hg]; exact fun z => by cases z⟩
      unfold atomF
      rw [hg]; rfl
  | @box d t ts h ih =>
    refine ⟨fun _ n rest hd => ?_, (fun k e => by cases e), (fun k e => by cases e)⟩
    have hd0 : tks.drop n = [40] :: (ts ++ ([41] :: rest)) := by rw [hd]; simp
    have hg := drop_at hd0
    have hd1 : tks.drop (n + 1) = ts ++ ([41] :: rest) := by rw [← List.drop_drop, hd0]; rfl
    have he := ih.expr 3 rfl (n + 1) _ hd1 (fun j hj z => (sgL_names j hj).2 (Option.some.inj z).symm)
    have hg2 := drop_at (drop_more hd1)
    refine ⟨?_, by rw [hg]; exact fun z => by cases z⟩
    have he' : parseF tks (d + 1) (n + 1) = some (.ok t (n + 1 + ts.length)) := he
    unfold atomF
    rw [hg]
    dsimp only
    rw [if_pos rfl, he']
    dsimp only
    rw [if_pos hg2]
    have : n + 1 + ts.length + 1 = n + ([40] :: (ts ++ [[41]])).length := by rw [List.length_cons, List.length_append]; show _ = n + (ts.length + 1 + 1); omega
    rw [this]
  | @neg d t ts h ih =>
    refine ⟨(fun e => by cases e), fun k e n rest hd hs => ?_, (fun k e => by cases e)⟩
    obtain rfl : k = 0 := by omega
    have hg := drop_at (x := [33]) (r := ts ++ rest) hd
    have hd1 : tks.drop (n + 1) = ts ++ rest := by rw [← List.drop_drop, hd]; rfl
    have he : factorF (parseF tks d) tks (n + 1) = some (.ok t (n + 1 + ts.length)) := ih.expr 0 rfl (n + 1) rest hd1 hs
    show factorF (parseF tks d) tks n = _
    unfold factorF at he ⊢
    rw [negs_hit hg]
    rw [show n + (negs (tks.drop (n + 1)) + 1) = n + 1 + negs (tks.drop (n + 1)) by omega]
    cases ha : atomF (parseF tks d) tks (n + 1 + negs (tks.drop (n + 1))) with
    | none => rw [ha] at he; cases he
    | some r =>
      rw [ha] at he
      cases r with
      | er m => cases he
      | ok u m =>
        have he := Option.some.inj he
        injection he with h1 h2
        show some (Rs.ok (.neg (wrapN (negs (tks.drop (n + 1))) u)) m) = _
        rw [h1, h2, List.length_cons, show n + 1 + ts.length = n + (ts.length + 1) by omega]
  | @up d lv t ts h ih =>
    refine ⟨(fun e => by cases e), fun k e n rest hd hs => ?_, fun k e n rest hd hs => ?_⟩
    · obtain rfl : lv = k := by omega
      cases lv with
      | zero =>
        obtain ⟨h1, h2⟩ := ih.atom rfl n rest hd
        show factorF (parseF tks d) tks n = _
        unfold factorF
        rw [negs_miss h2, Nat.add_zero, h1]; rfl
      | succ k =>
        refine expr_of_chain (fun n rest hd hs => ?_) n rest hd hs
        exact ⟨t, _, 0, ih.expr k rfl n rest hd hs, Nat.zero_le _, fun f => rfl⟩
    · obtain rfl : lv = k + 1 := by omega
      exact ⟨t, _, 0, ih.expr k rfl n rest hd hs, Nat.zero_le _, fun f => rfl⟩
  | @bin d k l r a b hk hl hr ihl ihr =>
    have ch : ∀ n rest, tks.drop n = (a ++ sgL k :: b) ++ rest → Stop k rest → ∃ t0 m0 c, exprF (parseF tks d) tks k n = some (.ok t0 m0) ∧ c ≤ (a ++ sgL k :: b).length ∧
        ∀ f, loopF (exprF (parseF tks d) tks k) tks (sgL k) (opL k) (f + c) t0 m0 = loopF (exprF (parseF tks d) tks k) tks (sgL k) (opL k) f (.bin (opL k) l r) (n + (a ++ sgL k :: b).length) := by
      intro n rest hd hs
      have hd0 : tks.drop n = a ++ (sgL k :: (b ++ rest)) := by rw [hd]; simp
      obtain ⟨t0, m0, c, e0, hc, hl0⟩ := ihl.chain k rfl n _ hd0 (fun j hj z => sgL_apart hk hj (Option.some.inj z))
      have hdm := drop_more hd0
      have hg := drop_at hdm
      have hd1 : tks.drop (n + a.length + 1) = b ++ rest := by rw [← List.drop_drop, hdm]; rfl
      have her := ihr.expr k rfl _ rest hd1 hs
      refine ⟨t0, m0, c + 1, e0, by rw [List.length_append, List.length_cons]; omega, fun f => ?_⟩
      rw [show f + (c + 1) = (f + 1) + c by omega, hl0]
      show (if tks[n + a.length]? = some (sgL k) then (match exprF (parseF tks d) tks k (n + a.length + 1) with
        | some (.ok u m) => loopF (exprF (parseF tks d) tks k) tks (sgL k) (opL k) f (.bin (opL k) l u) m
        | x => x) else some (Rs.ok l (n + a.length))) = _
      rw [if_pos hg, her]
      show loopF _ tks (sgL k) (opL k) f (.bin (opL k) l r) (n + a.length + 1 + b.length) = _
      rw [List.length_append, List.length_cons, show n + a.length + 1 + b.length = n + (a.length + (b.length + 1)) by omega]
    refine ⟨(fun e => by cases e), fun k' e n rest hd hs => ?_, fun k' e n rest hd hs => ?_⟩
    · obtain rfl : k' = k + 1 := by omega
      exact expr_of_chain ch n rest hd hs
    · obtain rfl : k' = k := by omega
      exact ch n rest hd hs
/-- the whole text -/
theorem parse_wr {d : Nat} {t : Tr} {ts : List (List Nat)} (h : Wr d 4 t ts) : parseF ts (d + 1) 0 = some (.ok t ts.length) := by
  have := (wr_cl ts h).expr 3 rfl 0 [] (by simp) (fun j _ z => by cases z)
  rw [Nat.zero_add] at this
  exact this
end G
namespace G
open PySem PySem.Spec PyProof.Rows L2 Evl TL
theorem brk_step {T : List Nat} {r : List (List Nat)} {o : Int} {n : Nat} (h1 : T ≠ [40]) (h2 : T ≠ [41]) (h3 : T ≠ [33]) (ho : o ≤ 20) : brkF (T :: r) o n = brkF r o 0 := by
  show (if 20 < (if T = [40] then o + 1 else if T = [41] then o - 1 else o) ∨ 20 < (if T = [33] then n + 1 else 0) then false else brkF r (if T = [40] then o + 1 else if T = [41] then o - 1 else o) (if T = [33] then n + 1 else 0)) = _
  rw [if_neg h1, if_neg h2, if_neg h3, if_neg (by omega)]
theorem brk_open {r : List (List Nat)} {o : Int} {n : Nat} (ho : o + 1 ≤ 20) : brkF ([40] :: r) o n = brkF r (o + 1) 0 := by
  show (if 20 < o + 1 ∨ 20 < 0 then false else brkF r (o + 1) 0) = _
  rw [if_neg (by omega)]
theorem brk_shut {r : List (List Nat)} {o : Int} {n : Nat} (ho : o ≤ 20) : brkF ([41] :: r) o n = brkF r (o - 1) 0 := by
  show (if 20 < o - 1 ∨ 20 < 0 then false else brkF r (o - 1) 0) = _
  rw [if_neg (by omega)]
theorem brk_neg {r : List (List Nat)} {o : Int} {n : Nat} (ho : o ≤ 20) (hn : n + 1 ≤ 20) : brkF ([33] :: r) o n = brkF r o (n + 1) := by
  show (if 20 < o ∨ 20 < n + 1 then false else brkF r o (n + 1)) = _
  rw [if_neg (by omega)]
theorem ht_pos (t : Tr) : 1 ≤ t.ht := by
  cases t <;> simp [Tr.ht]
theorem sgL_plain {k : Nat} (hk : k ≤ 2) : sgL k ≠ [40] ∧ sgL k ≠ [41] ∧ sgL k ≠ [33] := by
  match k, hk with
  | 0, _ => decide
  | 1, _ => decide
  | 2, _ => decide
theorem par_not : isName [41] = false := by decide +kernel
/-- what is written keeps within the limits of brackets and negations -/
theorem brk_wr {d lv : Nat} {t : Tr} {ts : List (List Nat)} (h : Wr d lv t ts) : ∀ (rest : List (List Nat)) (o : Int) (n : Nat), o + d ≤ 20 → n + t.ht ≤ 20 → brkF (ts ++ rest) o n = brkF rest o 0 := by
  induction h with
  | @name d x hx =>
    intro rest o n ho hn
    refine brk_step (fun z => ?_) (fun z => ?_) (fun z => ?_) (by omega)
    · rw [z, name_not.1] at hx; cases hx
    · rw [z, par_not] at hx; cases hx
    · rw [z, name_not.2.2.2] at hx; cases hx
  | @const d b =>
    intro rest o n ho hn
    cases b
    · exact brk_step (by decide) (by decide) (by decide) (by omega)
    · exact brk_step (by decide) (by decide) (by decide) (by omega)
  | @box d t ts h ih =>
    intro rest o n ho hn
    have hp := ht_pos t
    have e : ([40] :: (ts ++ [[41]])) ++ rest = [40] :: (ts ++ ([41] :: rest)) := by simp
    rw [e, brk_open (by omega), ih _ _ _ (by omega) (by omega), brk_shut (by omega), show o + 1 - 1 = o by omega]
  | @neg d t ts h ih =>
    intro rest o n ho hn
    have hh : (Tr.neg t).ht = t.ht + 1 := rfl
    rw [hh] at hn
    rw [List.cons_append, brk_neg (by omega) (by omega)]
    exact ih _ _ _ ho (by omega)
  | up h ih => exact ih
  | @bin d k l r a b hk hl hr ihl ihr =>
    intro rest o n ho hn
    have hh : (Tr.bin (opL k) l r).ht = max l.ht r.ht + 1 := rfl
    rw [hh] at hn
    obtain ⟨s1, s2, s3⟩ := sgL_plain hk
    have e : (a ++ sgL k :: b) ++ rest = a ++ (sgL k :: (b ++ rest)) := by simp
    rw [e, ihl _ _ _ ho (by omega), brk_step s1 s2 s3 (by omega), ihr _ _ _ ho (by omega)]
/-- what is written is read, and no limit is met -/
theorem out_wr {d : Nat} {t : Tr} {ts : List (List Nat)} (h : Wr d 4 t ts) (hd : d ≤ 20) (ht : t.ht ≤ 20) : outF (d + 1) ts = some (.tree t) := by
  have hb : brkF ts 0 0 = true := by
    have := brk_wr h [] 0 0 (by omega) (by omega)
    rw [List.append_nil] at this
    rw [this]; rfl
  unfold outF
  rw [if_pos hb, parse_wr h]
  dsimp only
  rw [if_neg (by omega), if_neg (by omega)]
end G
namespace G
open PySem PySem.Spec PyProof.Rows L2 Evl TL
/-! ## trees written with as few brackets as may be -/
def lvO : Op → Nat | .or => 1 | .xor => 2 | .and => 3
def sgO : Op → List Nat | .or => [124] | .xor => [94] | .and => [38]
def lvT : Tr → Nat
  | .name _ => 5
  | .const _ => 5
  | .neg _ => 4
  | .bin o _ _ => lvO o
def wrapP (least : Nat) (t : Tr) (ts : List (List Nat)) : List (List Nat) := if lvT t < least then [40] :: (ts ++ [[41]]) else ts
def tokF : Tr → List (List Nat)
  | .name x => [tl x]
  | .const b => [if b = true then [49] else [48]]
  | .neg t => [33] :: wrapP 4 t (tokF t)
  | .bin o a b => wrapP (lvO o) a (tokF a) ++ sgO o :: wrapP (lvO o + 1) b (tokF b)
theorem lvT_pos (t : Tr) : 1 ≤ lvT t ∧ lvT t ≤ 5 := by
  cases t with
  | bin o a b => cases o <;> simp [lvT, lvO]
  | _ => simp [lvT]
theorem Wr.ups {d lv : Nat} {t : Tr} {ts : List (List Nat)} (h : Wr d lv t ts) : ∀ k, Wr d (lv + k) t ts
  | 0 => h
  | k + 1 => .up (h.ups k)
theorem Wr.deep {d lv : Nat} {t : Tr} {ts : List (List Nat)} (h : Wr d lv t ts) : ∀ {e}, d ≤ e → Wr e lv t ts := by
  induction h with
  | name h => exact fun _ => .name h
  | const b => exact fun _ => .const b
  | @box d t ts h ih =>
    intro e he
    obtain ⟨e', rfl⟩ : ∃ e', e = e' + 1 := ⟨e - 1, by omega⟩
    exact .box (ih (by omega))
  | neg h ih => exact fun he => .neg (ih he)
  | up h ih => exact fun he => .up (ih he)
  | bin hk hl hr ihl ihr => exact fun he => .bin hk (ihl he) (ihr he)
theorem opL_of (o : Op) : ∃ k, k ≤ 2 ∧ opL k = o ∧ sgL k = sgO o ∧ lvO o = 3 - k := by
  cases o with
  | and => exact ⟨0, by decide, rfl, rfl, rfl⟩
  | xor => exact ⟨1, by decide, rfl, rfl, rfl⟩
  | or => exact ⟨2, by decide, rfl, rfl, rfl⟩
/-- the names in a tree are names -/
def NamesOk (t : Tr) : Prop := ∀ x, Tr.name x ∈ t.post → isName (tl x) = true
theorem wrap_wr {d least : Nat} {t : Tr} {ts : List (List Nat)} (h : Wr d (5 - lvT t) t ts) (hl : 1 ≤ least) (hl5 : least ≤ 5) : Wr (d + 1) (5 - least) t (wrapP least t ts) := by
  have hp := lvT_pos t
  unfold wrapP
  by_cases c : lvT t < least
  · rw [if_pos c]
    have h4 : Wr d 4 t ts := by
      have := h.ups (lvT t - 1)
      rwa [show 5 - lvT t + (lvT t - 1) = 4 by omega] at this
    have := (Wr.box h4).ups (5 - least)
    rwa [Nat.zero_add] at this
  · rw [if_neg c]
    have := (h.deep (Nat.le_succ d)).ups (lvT t - least)
    rwa [show 5 - lvT t + (lvT t - least) = 5 - least by omega] at this
theorem tokF_wr : ∀ t : Tr, NamesOk t → Wr t.ht (5 - lvT t) t (tokF t)
  | .name x, h => by
    have hx := h x (by simp [Tr.post])
    have := Wr.name (d := 1) hx
    rwa [mk_tlS] at this
  | .const b, _ => .const b
  | .neg t, h => by
    have ih := tokF_wr t fun x hx => h x (by simp [Tr.post, hx])
    have := wrap_wr ih (least := 4) (by decide) (by decide)
    exact .neg this
  | .bin o a b, h => by
    have iha := tokF_wr a fun x hx => h x (by simp [Tr.post, hx])
    have ihb := tokF_wr b fun x hx => h x (by simp [Tr.post, hx])
    obtain ⟨k, hk, e1, e2, e3⟩ := opL_of o
    have wa := (wrap_wr iha (least := lvO o) (by omega) (by omega)).deep (e := max a.ht b.ht + 1) (by omega)
    have wb := (wrap_wr ihb (least := lvO o + 1) (by omega) (by omega)).deep (e := max a.ht b.ht + 1) (by omega)
    show Wr (max a.ht b.ht + 1) (5 - lvO o) (.bin o a b) (wrapP (lvO o) a (tokF a) ++ sgO o :: wrapP (lvO o + 1) b (tokF b))
    rw [← e1, ← e2] at *
    rw [show 5 - lvO (opL k) = k + 2 by omega] at *
    rw [show 5 - (lvO (opL k) + 1) = k + 1 by omega] at wb
    exact .bin hk wa wb
theorem tokF_wr4 {t : Tr} (h : NamesOk t) : Wr t.ht 4 t (tokF t) := by
  have hp := lvT_pos t
  have := (tokF_wr t h).ups (lvT t - 1)
  rwa [show 5 - lvT t + (lvT t - 1) = 4 by omega] at this
end G
namespace G
open PySem PySem.Spec PyProof.Rows L2 Evl TL
/-! ## laid texts -/
/-- P, ahead of any text of ts, is a text of us and then ts; e: P ends with a run -/
def Laid (X : List Nat) (us : List (List Nat)) (e : Bool) : Prop := ∀ S ts, Lx S ts → (e = true → NoRun S) → Lx (X ++ S) (us ++ ts)
def blanks : List Str := [" ", "\n", "  ", " # a = cell 1 ! \n", "\n\n ", "#\n"]
theorem norun_cons {c : Nat} {r : List Nat} (h : isRun c = false) : NoRun (c :: r) := fun d q e => by injection e with e1 _; rw [← e1]; exact h
theorem blank_ok : ∀ b ∈ blanks, ∃ c r, tl b = c :: r ∧ isRun c = false ∧ (tl b).length ≤ 20 := by
  intro b hb
  have h : ∀ b ∈ blanks, tl b ≠ [] ∧ isRun ((tl b).headD 0) = false ∧ (tl b).length ≤ 20 := by decide +kernel
  obtain ⟨h1, h2, h3⟩ := h b hb
  obtain ⟨c, r, e⟩ := List.exists_cons_of_ne_nil h1
  rw [e] at h2
  exact ⟨c, r, e, h2, h3⟩
theorem blank_lx {b : Str} (hb : b ∈ blanks) {S : List Nat} {ts : List (List Nat)} (r : Lx S ts) : Lx (tl b ++ S) ts := by
  have hm : b = " " ∨ b = "\n" ∨ b = "  " ∨ b = " # a = cell 1 ! \n" ∨ b = "\n\n " ∨ b = "#\n" := by
    unfold blanks at hb
    simpa using hb
  rcases hm with rfl | rfl | rfl | rfl | rfl | rfl
  · exact .sp (.inl rfl) r
  · exact .sp (.inr rfl) r
  · exact .sp (.inl rfl) (.sp (.inl rfl) r)
  · exact .sp (.inl rfl) (.com (b := tl (" a = cell 1 ! " : Str)) (S := 10 :: S) (by decide +kernel) (.inr ⟨_, rfl⟩) (.sp (.inr rfl) r))
  · exact .sp (.inr rfl) (.sp (.inr rfl) (.sp (.inl rfl) r))
  · exact .com (b := []) (S := 10 :: S) (by simp) (.inr ⟨_, rfl⟩) (.sp (.inr rfl) r)
/-- a blank: one of the six, or nothing -/
def Blank (B : List Nat) (needed : Bool) : Prop := mk B ∈ blanks ∨ (B = [] ∧ needed = false)
def endsRun (us : List (List Nat)) : Bool := match us.getLast? with
  | some T => isRun (T.headD 0)
  | none => false
def headRun (T : List Nat) : Bool := isRun (T.headD 0)
def TokOk (T : List Nat) : Prop := RunTok T ∨ SgnTok T
theorem tok_ne {T : List Nat} (h : TokOk T) : T ≠ [] := by
  rcases h with h | h
  · exact h.1
  · exact (sgn_of h).1
theorem laid_step {X B T : List Nat} {us : List (List Nat)} {needed : Bool} (h : Laid X us (endsRun us)) (hB : Blank B needed) (hT : TokOk T) (hn : needed = false → ¬ (headRun T = true ∧ endsRun us = true)) : Laid (X ++ B ++ T) (us ++ [T]) (endsRun (us ++ [T])) := by
  have ee : endsRun (us ++ [T]) = headRun T := by unfold endsRun headRun; rw [List.getLast?_append]; rfl
  rw [ee]
  intro S ts hS hne
  have h1 : Lx (T ++ S) (T :: ts) := by
    rcases hT with hr | hs
    · obtain ⟨c, r, rfl⟩ := List.exists_cons_of_ne_nil hr.1
      exact .run hr (hne (hr.2.1 c (List.mem_cons_self ..))) hS
    · exact .sgn hs hS
  have h2 : Lx (B ++ (T ++ S)) (T :: ts) := by
    rcases hB with hb | ⟨hb, _⟩
    · exact blank_lx hb h1
    · rw [hb]; exact h1
  have h3 := h _ _ h2 fun he => by
    rcases hB with hb | ⟨hb, hn'⟩
    · obtain ⟨c, r, e, hc, _⟩ := blank_ok _ hb
      have e' : B = c :: r := e
      rw [e']
      exact norun_cons hc
    · rw [hb]
      obtain ⟨c, r, rfl⟩ := List.exists_cons_of_ne_nil (tok_ne hT)
      refine norun_cons ?_
      cases hc : isRun c with
      | false => rfl
      | true => exact absurd ⟨hc, he⟩ (hn hn')
  have e1 : X ++ B ++ T ++ S = X ++ (B ++ (T ++ S)) := by simp only [List.append_assoc]
  rw [e1, List.append_assoc]
  exact h3
theorem laid_end {X B : List Nat} {us : List (List Nat)} (h : Laid X us (endsRun us)) (hB : Blank B false) : Lx (X ++ B) us := by
  have h0 : Lx B [] := by
    rcases hB with hb | ⟨hb, _⟩
    · have := blank_lx hb Lx.nil
      rw [List.append_nil] at this
      exact this
    · rw [hb]; exact .nil
  have := h B [] h0 fun he => by
    rcases hB with hb | ⟨hb, _⟩
    · obtain ⟨c, r, e, hc, _⟩ := blank_ok _ hb
      have e' : B = c :: r := e
      rw [e']
      exact norun_cons hc
    · rw [hb]; intro c r e; cases e
  rw [List.append_nil] at this
  exact this
/-! ## the drawn tokens -/
theorem kw_facts : ∀ k ∈ kwds, isWord (tl k) = true ∧ isName (tl k) = false ∧ isNum (tl k) = false ∧ (tl k).length ≤ 20 := by decide +kernel
theorem sg_names : ∀ s ∈ sgns, isName (tl s) = false ∧ isNum (tl s) = false := by decide +kernel
theorem kw_more : ∀ k ∈ kwds, k ++ "_" ∉ kwds ∧ isWord (tl (k ++ "_")) = true ∧ isNum (tl (k ++ "_")) = false ∧ (tl (k ++ "_")).length ≤ 13 := by decide +kernel
theorem let_not_dig : ∀ c ∈ tl sLET, c ∉ tl sDIG := by decide +kernel
theorem word_run {T : List Nat} (h : isWord T = true) : RunTok T := by
  cases T with
  | nil => cases h
  | cons c r =>
    have h' : (decide (c ∈ tl sLET) && (c :: r).all isRun) = true := h
    rw [Bool.and_eq_true, List.all_eq_true] at h'
    exact ⟨List.cons_ne_nil _ _, h'.2, .inl h⟩
theorem word_num {T : List Nat} (h : isWord T = true) : isNum T = false := by
  cases T with
  | nil => rfl
  | cons c r =>
    have h' : (decide (c ∈ tl sLET) && (c :: r).all isRun) = true := h
    rw [Bool.and_eq_true] at h'
    have hc := let_not_dig c (of_decide_eq_true h'.1)
    show (_ && (c :: r).all fun d => decide (d ∈ tl sDIG)) = false
    rw [List.all_cons, decide_eq_false hc, Bool.false_and, Bool.and_false]
theorem num_run {T : List Nat} (h : isNum T = true) : RunTok T := by
  cases T with
  | nil => cases h
  | cons c r =>
    have h' : (decide ((c :: r).length ≤ 9) && !(decide (c = 48) && !decide (c :: r = [48])) && (c :: r).all fun d => decide (d ∈ tl sDIG)) = true := h
    rw [Bool.and_eq_true, List.all_eq_true] at h'
    exact ⟨List.cons_ne_nil _ _, fun d hd => dig_run d (of_decide_eq_true (h'.2 d hd)), .inr h⟩
theorem num_name {T : List Nat} (h : isNum T = true) : isName T = false := by
  unfold isName
  cases hw : isWord T with
  | false => rfl
  | true => rw [word_num hw] at h; cases h
theorem dig_mem {d : Nat} (h1 : 48 ≤ d) (h2 : d ≤ 57) : d ∈ tl sDIG := by
  have : ∀ k, k < 10 → 48 + k ∈ tl sDIG := by decide +kernel
  have := this (d - 48) (by omega)
  rwa [show 48 + (d - 48) = d by omega] at this
/-- no number but 0 begins with 0 -/
theorem num_head : ∀ (n : Nat), 0 < n → ∃ c r, numL n = c :: r ∧ c ≠ 48 := by
  intro n
  induction n using Nat.strongRecOn with
  | _ n ih =>
    intro hn
    by_cases h : n < 10
    · exact ⟨48 + n, [], numL_lt h, by omega⟩
    · obtain ⟨c, r, e, hc⟩ := ih (n / 10) (by omega) (by omega)
      exact ⟨c, r ++ [48 + n % 10], by rw [numL_step (by omega), e]; rfl, hc⟩
theorem isNum_num {n : Nat} (h : n < 1000000000) : isNum (numL n) = true := by
  have hl : (numL n).length ≤ 9 := numL_len (by decide) h
  have hd : ∀ d ∈ numL n, d ∈ tl sDIG := fun d hd => by
    have := numL_digits n d hd
    exact dig_mem this.1 this.2
  by_cases h0 : n = 0
  · subst h0; decide +kernel
  · obtain ⟨c, r, e, hc⟩ := num_head n (by omega)
    rw [e] at hl hd ⊢
    show (decide ((c :: r).length ≤ 9) && !(decide (c = 48) && !decide (c :: r = [48])) && (c :: r).all fun d => decide (d ∈ tl sDIG)) = true
    rw [decide_eq_true hl, decide_eq_false hc, List.all_eq_true.mpr fun d hd' => decide_eq_true (hd d hd')]
    rfl
section
variable {P : Program} {w : World} {K : PySem.W.Frag} {mg : Str → Option Value} {base : Heap}
/-- a name -/
def spWord : Sp := fun vs H Q _ => ∃ (p a : Addr), vs = [.ref p] ∧ PoolOk p a H ∧ ∀ (T : List Nat) (H' : Hp), isWord T = true → mk T ∉ kwds → T.length ≤ 13 → Px p a H H' → Q (.str (mk T)) H'
theorem item_of {L : List Nat} {v : Nat} (h : v < L.length) : ∃ c, L[v]? = some c ∧ c ∈ L := ⟨L[v], List.getElem?_eq_getElem h, List.getElem_mem h⟩
theorem sc_law_word : FnScope ["pool", "heads", "rest", "word", "k"] ["pool"] (defScope s_law_word) := ⟨rfl, rfl, rfl, by decide +kernel, rfl, by decide +kernel, by decide +kernel⟩
theorem ok_law_word (D : Dfd K mg "_law_word" s_law_word ["pool"]) (T : TxtS mg) (C : Has P w K mg base 2 "_law_draw" ["pool", "many"] spDrawX) : Has P w K mg base 3 "_law_word" ["pool"] spWord := by
  obtain ⟨f_law_draw, d_law_draw, G_law_draw, g_law_draw, k_law_draw, b_law_draw⟩ := C
  refine D.has fun f fd F => F.ok sc_law_word (fun vs H Q E h => ?_) (fun cdv A outer s H vs Q E hr h => ?_)
  · obtain ⟨_, _, rfl, _⟩ := h
    rfl
  · obtain ⟨p, a, rfl, hp, q⟩ := h
    refine ⟨_, (pss_cons (ps_set (i := 1) sc_law_word.nd rfl (.inl rfl) pe_str)
    (pss_cons (ps_set (i := 2) sc_law_word.nd rfl (.inl rfl) pe_str)
    (pss_cons (ps_set (i := 3) sc_law_word.nd rfl (.inl rfl) (pe_ix ix_str (pv 1) (pe_call G_law_draw (hr.mono (by omega)) (by rfl) g_law_draw k_law_draw b_law_draw .nil pass0 (pa_cons (pv 0) (pa_cons pe_int pa_nil))) (fun _ _ => rfl)))
    (pss_cons (ps_for PassesOwn.never rfl (pi_range1 rfl T.range (pa_cons (pe_ix ix_list (pe_lst (pa_cons pe_int (pa_cons pe_int (pa_cons pe_int (pa_cons pe_int (pa_cons pe_int (pa_cons pe_int (pa_cons pe_int (pa_cons pe_int pa_nil))))))))) (pe_call G_law_draw (hr.mono (by omega)) (by rfl) g_law_draw k_law_draw b_law_draw .nil pass0 (pa_cons (pv 0) (pa_cons pe_int pa_nil))) (fun _ _ => rfl)) pa_nil)) (pg_name (i := 4) sc_law_word.nd rfl (.inl rfl))
      (pss_one (ps_set (i := 3) sc_law_word.nd rfl (.inl rfl) (pe_op op_add_str (pv 3) (pe_ix ix_str (pv 2) (pe_call G_law_draw (hr.mono (by omega)) (by rfl) g_law_draw k_law_draw b_law_draw .nil pass0 (pa_cons (pv 0) (pa_cons pe_int pa_nil))) (fun _ _ => rfl))))))
    (pss_cons (ps_if (pt_cmpR op_in_seq (pv 3) (pe_lst (pa_cons pe_str (pa_cons pe_str (pa_cons pe_str (pa_cons pe_str (pa_cons pe_str (pa_cons pe_str (pa_cons pe_str (pa_cons pe_str (pa_cons pe_str (pa_cons pe_str (pa_cons pe_str pa_nil)))))))))))) (by rfl))
      (pss_one (ps_set (i := 3) sc_law_word.nd rfl (.inl rfl) (pe_op op_add_str (pv 3) pe_str)))
      pss_nil)
    (pss_one (ps_ret (pv 3)))))))), ?_⟩
    have l26 : (tl sLET).length = 26 := by decide +kernel
    have l37 : (tl sRUN).length = 37 := by decide +kernel
    refine ⟨_, rfl, _, rfl, p, a, 26, rfl, by decide, by decide, hp, fun v H1 hv X1 _ => ?_⟩
    obtain ⟨c, hc, hm⟩ := item_of (L := tl sLET) (v := v) (by rw [l26]; omega)
    refine ⟨sLET, _, c, rfl, rfl, by decide, atI_nat hc, ?_⟩
    refine ⟨(by show 8 ≤ sizeLine; decide), fun l nl => ⟨_, rfl, p, a, 8, rfl, by decide, by decide, (X1.new nl).pool, fun v2 H2 hv2 X2 k2 => ?_⟩⟩
    have hl2 : H2 l = some (.lst [.int 0, .int 0, .int 1, .int 1, .int 2, .int 3, .int 5, .int 12]) := by rw [k2 _ (X1.pool.ne nl)]; exact upd_same
    have hit : ∃ n : Nat, ([.int 0, .int 0, .int 1, .int 1, .int 2, .int 3, .int 5, .int 12] : List V)[v2]? = some (.int (n : Int)) ∧ n ≤ 12 := by
      have h8 : v2 < 8 := by omega
      match v2, h8 with
      | 0, _ => exact ⟨0, rfl, by decide⟩
      | 1, _ => exact ⟨0, rfl, by decide⟩
      | 2, _ => exact ⟨1, rfl, by decide⟩
      | 3, _ => exact ⟨1, rfl, by decide⟩
      | 4, _ => exact ⟨2, rfl, by decide⟩
      | 5, _ => exact ⟨3, rfl, by decide⟩
      | 6, _ => exact ⟨5, rfl, by decide⟩
      | 7, _ => exact ⟨12, rfl, by decide⟩
      | n + 8, h => omega
    obtain ⟨n, hn, hn12⟩ := hit
    have X3 := (X1.new nl).trans X2
    refine ⟨_, _, _, _, rfl, rfl, SqL.of hl2, atI_nat hn, _, rfl, by omega, by omega, for_range (n := ((n : Nat) : Int).toNat)
      (fun i σ H' => Px p a H H' ∧ ∃ (W : List Nat) (z : Option V), isWord W = true ∧ W.length = i + 1 ∧ σ = [some (.ref p), some (.str sLET), some (.str sRUN), some (.str (mk W)), z]) ⟨X3, [c], _, ?_, rfl, rfl⟩ ?_ ?_⟩
    · show (decide (c ∈ tl sLET) && [c].all isRun) = true
      rw [decide_eq_true hm, List.all_cons, let_run c hm]; rfl
    · rintro i σ H3 hi ⟨X4, W, z, hW, hWl, rfl⟩
      refine ⟨_, rfl, _, rfl, _, rfl, p, a, 37, rfl, by decide, by decide, X4.pool, fun v3 H4 hv3 X5 _ => ?_⟩
      obtain ⟨d, hd, hdm⟩ := item_of (L := tl sRUN) (v := v3) (by rw [l37]; omega)
      refine ⟨sRUN, _, d, rfl, rfl, by decide, atI_nat hd, _, _, rfl, rfl, ?_, X4.trans X5, W ++ [d], some (.int (0 + (i : Int))), ?_, by rw [List.length_append, hWl]; rfl, ?_⟩
      · rw [mk_len]
        show _ + 1 ≤ sizeLine
        exact sz_of (by omega)
      · cases W with
        | nil => cases hW
        | cons c' r' =>
          have h' : (decide (c' ∈ tl sLET) && (c' :: r').all isRun) = true := hW
          rw [Bool.and_eq_true] at h'
          show (decide (c' ∈ tl sLET) && (c' :: r' ++ [d]).all isRun) = true
          rw [h'.1, List.all_append, h'.2]
          show (true && (true && (isRun d && true))) = true
          rw [show isRun d = true from decide_eq_true hdm]; rfl
      · rw [mk_one, mk_app]; rfl
    · rintro σ H3 ⟨X4, W, z, hW, hWl, rfl⟩
      have hWl' : W.length ≤ 13 := by omega
      refine ⟨_, rfl, (by show 11 ≤ sizeLine; decide), fun l2 nl2 => ⟨l2, kwds.map V.str, rfl, .inl (SqL.of upd_same), rfl, flat_map (fun _ => rfl) _, _, rfl, ?_⟩⟩
      show if (if false = true then !inV (.str (mk W)) (kwds.map V.str) else inV (.str (mk W)) (kwds.map V.str)) = true then _ else _
      rw [if_neg Bool.false_ne_true, inV_strs]
      by_cases hk : mk W ∈ kwds
      · rw [decide_eq_true hk]
        refine iteT ⟨_, rfl, _, _, rfl, rfl, ?_, _, rfl, ?_⟩
        · rw [mk_len]
          show W.length + 1 ≤ sizeLine
          exact sz_of (by omega)
        · obtain ⟨h1, h2, h3, h4⟩ := kw_more _ hk
          have e : mk W ++ ("_" : Str) = mk (W ++ [95]) := mk_app W [95]
          rw [e] at h1 h2 h4
          show Q (.str (mk W ++ ("_" : Str))) _
          rw [e]
          exact q _ _ h2 h1 h4 (X4.new nl2)
      · rw [decide_eq_false hk]
        exact iteF ⟨_, rfl, q _ _ hW hk (by omega) (X4.new nl2)⟩
end
end G
namespace G
open PySem PySem.Spec PyProof.Rows L2 Evl TL
/-! ## what is read of brackets, negations, chains -/
def Plain (T : List Nat) : Prop := T ≠ [40] ∧ T ≠ [41] ∧ T ≠ [33]
theorem name_plain {x : List Nat} (hx : isName x = true) : Plain x := by
  refine ⟨fun z => ?_, fun z => ?_, fun z => ?_⟩
  · rw [z, name_not.1] at hx; cases hx
  · rw [z, par_not] at hx; cases hx
  · rw [z, name_not.2.2.2] at hx; cases hx
theorem brk_plain : ∀ (ts : List (List Nat)) (o : Int) (n : Nat), o ≤ 20 → (∀ T ∈ ts, Plain T) → brkF ts o n = true
  | [], _, _, _, _ => rfl
  | T :: ts, o, n, ho, h => by
    obtain ⟨h1, h2, h3⟩ := h T (List.mem_cons_self ..)
    rw [brk_step h1 h2 h3 ho]
    exact brk_plain ts o 0 ho fun U hU => h U (List.mem_cons_of_mem _ hU)
theorem brk_many (r : List (List Nat)) : ∀ (k : Nat) (o : Int) (n : Nat), 20 < o + k → o ≤ 20 → brkF (List.replicate k [40] ++ r) o n = false
  | 0, o, n, h, ho => absurd h (by omega)
  | k + 1, o, n, h, ho => by
    rw [List.replicate_succ, List.cons_append]
    by_cases hc : o + 1 ≤ 20
    · rw [brk_open hc]; exact brk_many r k (o + 1) 0 (by omega) hc
    · show (if 20 < o + 1 ∨ 20 < 0 then false else _) = false
      rw [if_pos (by omega)]
theorem brk_negs (r : List (List Nat)) : ∀ (k : Nat) (o : Int) (n : Nat), o ≤ 20 → n + k ≤ 20 → brkF (List.replicate k [33] ++ r) o n = brkF r o (n + k)
  | 0, _, _, _, _ => rfl
  | k + 1, o, n, ho, h => by
    rw [List.replicate_succ, List.cons_append, brk_neg ho (by omega), brk_negs r k o (n + 1) ho (by omega), show n + 1 + k = n + (k + 1) by omega]
theorem brk_nots (r : List (List Nat)) : ∀ (k : Nat) (o : Int) (n : Nat), 20 < n + k → n ≤ 20 → o ≤ 20 → brkF (List.replicate k [33] ++ r) o n = false
  | 0, o, n, h, _, _ => absurd h (by omega)
  | k + 1, o, n, h, hn, ho => by
    rw [List.replicate_succ, List.cons_append]
    by_cases hc : n + 1 ≤ 20
    · rw [brk_neg ho hc]; exact brk_nots r k o (n + 1) (by omega) hc ho
    · show (if 20 < o ∨ 20 < n + 1 then false else _) = false
      rw [if_pos (by omega)]
def outC : Out → Int | .tree _ => -1 | .syn _ => 2 | .deep => 1
def OutOk (tks : List (List Nat)) (c : Int) : Prop := ∃ out, outF 21 tks = some out ∧ (brkF tks 0 0 = true → ∀ t m, parseF tks 21 0 = some (.ok t m) → t.post.length ≤ 10000) ∧ outC out = c
theorem out_deep {tks : List (List Nat)} (h : brkF tks 0 0 = false) : OutOk tks 1 := ⟨.deep, by unfold outF; rw [if_neg (by rw [h]; decide)], (fun z => by rw [h] at z; cases z), rfl⟩
theorem out_ok {t : Tr} {ts rest : List (List Nat)} (h : Wr 20 4 t ts) (hs : Stop 3 rest) : parseF (ts ++ rest) 21 0 = some (.ok t ts.length) := by
  have := (wr_cl (ts ++ rest) h).expr 3 rfl 0 rest (by simp) hs
  rw [Nat.zero_add] at this
  exact this
theorem out_more {t : Tr} {ts rest : List (List Nat)} (h : Wr 20 4 t ts) (hs : Stop 3 rest) (hb : brkF (ts ++ rest) 0 0 = true) (hp : t.post.length ≤ 10000) (hr : rest ≠ []) : OutOk (ts ++ rest) 2 := by
  have hq := out_ok h hs
  have hl : 0 < rest.length := List.length_pos_iff.mpr hr
  refine ⟨.syn ts.length, ?_, fun _ t' m e => ?_, rfl⟩
  · unfold outF
    rw [if_pos hb, hq]
    dsimp only
    rw [if_pos (by rw [List.length_append]; omega)]
  · rw [hq] at e; cases e; exact hp
theorem out_high {t : Tr} {ts : List (List Nat)} (h : Wr 20 4 t ts) (hb : brkF ts 0 0 = true) (hp : t.post.length ≤ 10000) (ht : 20 < t.ht) : OutOk ts 1 := by
  have hq := parse_wr h
  refine ⟨.deep, ?_, fun _ t' m e => ?_, rfl⟩
  · unfold outF
    rw [if_pos hb, hq]
    dsimp only
    rw [if_neg (by omega), if_pos ht]
  · rw [hq] at e; cases e; exact hp
theorem out_fine {t : Tr} {ts : List (List Nat)} (h : Wr 20 4 t ts) (hb : brkF ts 0 0 = true) (ht : t.ht ≤ 20) : outF 21 ts = some (.tree t) := by
  unfold outF
  rw [if_pos hb, parse_wr h]
  dsimp only
  rw [if_neg (by omega), if_neg (by omega)]
theorem out_tree {t : Tr} {ts : List (List Nat)} (h : Wr 20 4 t ts) (hb : brkF ts 0 0 = true) (hp : t.post.length ≤ 10000) (ht : t.ht ≤ 20) : OutOk ts (-1) :=
  ⟨.tree t, out_fine h hb ht, fun _ t' m e => by rw [parse_wr h] at e; cases e; exact hp, rfl⟩
theorem out_err {tks : List (List Nat)} {m : Nat} (hb : brkF tks 0 0 = true) (h : parseF tks 21 0 = some (.er m)) : OutOk tks 2 :=
  ⟨.syn m, by unfold outF; rw [if_pos hb, h], fun _ t' m' e => by (rw [h] at e; cases e), rfl⟩
theorem expr_end {tks : List (List Nat)} {E : Nat → Option Rs} : ∀ k, exprF E tks k tks.length = some (.er tks.length)
  | 0 => by
    show factorF E tks tks.length = _
    unfold factorF
    have e : negs (tks.drop tks.length) = 0 := by rw [List.drop_length]; rfl
    rw [e, Nat.add_zero]
    unfold atomF
    rw [List.getElem?_eq_none (Nat.le_refl _)]
  | k + 1 => by
    show (match exprF E tks k tks.length with
      | some (.ok t m) => loopF (exprF E tks k) tks (sgL k) (opL k) (tks.length + 1) t m
      | x => x) = _
    rw [expr_end k]
theorem expr_up {tks : List (List Nat)} {E : Nat → Option Rs} {k n m : Nat} (h : exprF E tks k n = some (.er m)) : ∀ j, exprF E tks (k + j) n = some (.er m)
  | 0 => h
  | j + 1 => by
    show (match exprF E tks (k + j) n with
      | some (.ok t m) => loopF (exprF E tks (k + j)) tks (sgL (k + j)) (opL (k + j)) (tks.length + 1) t m
      | x => x) = _
    rw [expr_up h j]
theorem chain_err {d k : Nat} {t : Tr} {ts : List (List Nat)} (hk : k ≤ 2) (h : Wr d (k + 2) t ts) : ∃ m, parseF (ts ++ [sgL k]) (d + 1) 0 = some (.er m) := by
  obtain ⟨t0, m0, c, e0, hc, hl⟩ := (wr_cl (ts ++ [sgL k]) h).chain k rfl 0 [sgL k] (by simp) (fun j hj z => sgL_apart hk hj (Option.some.inj z))
  refine ⟨ts.length + 1, ?_⟩
  have hlen : (ts ++ [sgL k]).length = ts.length + 1 := by rw [List.length_append]; rfl
  have hx : exprF (parseF (ts ++ [sgL k]) d) (ts ++ [sgL k]) (k + 1) 0 = some (.er (ts.length + 1)) := by
    show (match exprF (parseF (ts ++ [sgL k]) d) (ts ++ [sgL k]) k 0 with
      | some (.ok t m) => loopF (exprF (parseF (ts ++ [sgL k]) d) (ts ++ [sgL k]) k) (ts ++ [sgL k]) (sgL k) (opL k) ((ts ++ [sgL k]).length + 1) t m
      | x => x) = _
    rw [e0]
    show loopF (exprF (parseF (ts ++ [sgL k]) d) (ts ++ [sgL k]) k) (ts ++ [sgL k]) (sgL k) (opL k) ((ts ++ [sgL k]).length + 1) t0 m0 = _
    have ef : (ts ++ [sgL k]).length + 1 = (ts.length + 1 - c + 1) + c := by omega
    rw [ef, hl]
    have hg : (ts ++ [sgL k])[0 + ts.length]? = some (sgL k) := by rw [Nat.zero_add, List.getElem?_append_right (Nat.le_refl _), Nat.sub_self]; rfl
    show (if (ts ++ [sgL k])[0 + ts.length]? = some (sgL k) then (match exprF (parseF (ts ++ [sgL k]) d) (ts ++ [sgL k]) k (0 + ts.length + 1) with
        | some (.ok u m) => loopF (exprF (parseF (ts ++ [sgL k]) d) (ts ++ [sgL k]) k) (ts ++ [sgL k]) (sgL k) (opL k) (ts.length + 1 - c) (.bin (opL k) t u) m
        | x => x) else some (Rs.ok t (0 + ts.length))) = _
    rw [if_pos hg]
    have := expr_end (tks := ts ++ [sgL k]) (E := parseF (ts ++ [sgL k]) d) k
    rw [hlen] at this
    rw [Nat.zero_add, this]
  have := expr_up hx (2 - k)
  rw [show k + 1 + (2 - k) = 3 by omega] at this
  exact this
/-! the written forms -/
def bxT (n : Nat) (x : List Nat) : List (List Nat) := List.replicate n [40] ++ x :: List.replicate n [41]
theorem bxWr {x : List Nat} (hx : isName x = true) : ∀ n, Wr n 4 (.name (mk x)) (bxT n x)
  | 0 => (Wr.name hx).ups 4
  | n + 1 => by
    have h := (Wr.box (bxWr hx n)).ups 4
    have e : [40] :: (bxT n x ++ [[41]]) = bxT (n + 1) x := by
      unfold bxT
      rw [List.replicate_succ, List.replicate_succ' (n := n) (a := [41])]
      simp
    rw [e] at h
    exact h
def ntT (n : Nat) (x : List Nat) : List (List Nat) := List.replicate n [33] ++ [x]
theorem ntWr {x : List Nat} (hx : isName x = true) : ∀ n, Wr 0 1 (wrapN n (.name (mk x))) (ntT n x)
  | 0 => (Wr.name hx).up
  | n + 1 => .neg (ntWr hx n)
theorem wrap_ht (x : Str) : ∀ n, (wrapN n (.name x)).ht = n + 1
  | 0 => rfl
  | n + 1 => by show (wrapN n (.name x)).ht + 1 = _; rw [wrap_ht x n]
theorem wrap_post (x : Str) : ∀ n, (wrapN n (.name x)).post.length = n + 1
  | 0 => rfl
  | n + 1 => by
    show ((wrapN n (.name x)).post ++ [_]).length = _
    rw [List.length_append, wrap_post x n]; rfl
def chT (s : List Nat) (U : List (List Nat)) (n : Nat) : List (List Nat) := U ++ (List.replicate n (s :: U)).flatten
def chTr (o : Op) (t : Tr) : Nat → Tr | 0 => t | n + 1 => .bin o (chTr o t n) t
theorem chT_succ (s : List Nat) (U : List (List Nat)) (n : Nat) : chT s U (n + 1) = chT s U n ++ s :: U := by
  unfold chT
  rw [List.replicate_succ', List.flatten_append]
  simp
theorem chWr {d k : Nat} {t : Tr} {U : List (List Nat)} (hk : k ≤ 2) (h : Wr d 0 t U) : ∀ n, Wr d (k + 2) (chTr (opL k) t n) (chT (sgL k) U n)
  | 0 => by
    have e : chT (sgL k) U 0 = U := by unfold chT; simp
    rw [e]
    have := h.ups (k + 2)
    rw [Nat.zero_add] at this
    exact this
  | n + 1 => by
    rw [chT_succ]
    refine .bin hk (chWr hk h n) ?_
    have := h.ups (k + 1)
    rw [Nat.zero_add] at this
    exact this
theorem ch_ht (o : Op) (x : Str) : ∀ n, (chTr o (.name x) n).ht = n + 1
  | 0 => rfl
  | n + 1 => by show max (chTr o (.name x) n).ht 1 + 1 = _; rw [ch_ht o x n]; omega
theorem ch_post (o : Op) (x : Str) : ∀ n, (chTr o (.name x) n).post.length = 2 * n + 1
  | 0 => rfl
  | n + 1 => by
    show ((chTr o (.name x) n).post ++ [_] ++ [_]).length = _
    rw [List.length_append, List.length_append, ch_post o x n, List.length_singleton, List.length_singleton]; omega
theorem ch_plain {s x : List Nat} (hs : Plain s) (hx : Plain x) (n : Nat) : ∀ T ∈ chT s [x] n, Plain T := by
  intro T hT
  unfold chT at hT
  rcases List.mem_append.mp hT with z | z
  · rw [List.mem_singleton.mp z]; exact hx
  · obtain ⟨L, hL, hT⟩ := List.mem_flatten.mp z
    rw [List.eq_of_mem_replicate hL] at hT
    rcases List.mem_cons.mp hT with z | z
    · rw [z]; exact hs
    · rw [List.mem_singleton.mp z]; exact hx
theorem up4 {d k : Nat} {t : Tr} {ts : List (List Nat)} (hk : k ≤ 2) (h : Wr d (k + 2) t ts) (hd : d ≤ 20) : Wr 20 4 t ts := by
  have := (h.deep hd).ups (2 - k)
  rw [show k + 2 + (2 - k) = 4 by omega] at this
  exact this
end G
namespace G
open PySem PySem.Spec PyProof.Rows L2 Evl TL
/-! ## texts -/
theorem s_open : SgnTok [40] := by unfold SgnTok; decide +kernel
theorem s_shut : SgnTok [41] := by unfold SgnTok; decide +kernel
theorem s_not : SgnTok [33] := by unfold SgnTok; decide +kernel
theorem s_lv : ∀ k, SgnTok (sgL k)
  | 0 => by unfold SgnTok; decide +kernel
  | 1 => by unfold SgnTok; decide +kernel
  | _ + 2 => by show SgnTok [124]; unfold SgnTok; decide +kernel
def BadAt (S : List Nat) : Prop := ∃ n, LxB S n
theorem lx_reps {c : Nat} (hc : SgnTok [c]) {S : List Nat} {ts : List (List Nat)} (h : Lx S ts) : ∀ n, Lx (List.replicate n c ++ S) (List.replicate n [c] ++ ts)
  | 0 => h
  | n + 1 => by
    rw [List.replicate_succ, List.replicate_succ, List.cons_append, List.cons_append]
    exact .sgn (T := [c]) hc (lx_reps hc h n)
theorem bad_reps {c : Nat} (hc : SgnTok [c]) {S : List Nat} (h : BadAt S) : ∀ n, BadAt (List.replicate n c ++ S)
  | 0 => h
  | n + 1 => by
    obtain ⟨m, hm⟩ := bad_reps hc h n
    rw [List.replicate_succ, List.cons_append]
    exact ⟨_, .sgn (T := [c]) hc hm⟩
theorem norun_nil : NoRun [] := fun _ _ e => nomatch e
theorem sgn_norun {T S : List Nat} (h : SgnTok T) : NoRun (T ++ S) := by
  obtain ⟨hne, hnr, _⟩ := sgn_of h
  obtain ⟨c, r, rfl⟩ := List.exists_cons_of_ne_nil hne
  exact norun_cons hnr
/-- X, ahead of any text, is a text of U -/
def UnitX (X : List Nat) (U : List (List Nat)) : Prop := ∀ S ts, Lx S ts → NoRun S → Lx (X ++ S) (U ++ ts)
theorem unit_name {x : List Nat} (h : RunTok x) : UnitX x [x] := fun _ _ hS hn => .run h hn hS
theorem unit_box {x : List Nat} (h : RunTok x) : UnitX ([40] ++ x ++ [41]) [[40], x, [41]] := fun S ts hS hn => by
  have : Lx ([40] ++ (x ++ ([41] ++ S))) ([40] :: x :: [41] :: ts) := .sgn s_open (.run h (sgn_norun s_shut) (.sgn s_shut hS))
  have e : [40] ++ x ++ [41] ++ S = [40] ++ (x ++ ([41] ++ S)) := by simp
  rw [e]
  exact this
theorem lx_cat {X s : List Nat} {U : List (List Nat)} (hX : UnitX X U) (hs : SgnTok s) {E : List Nat} {ts : List (List Nat)} (hE : Lx E ts) (hn : NoRun E) :
    ∀ n, Lx ((List.replicate n (32 :: (s ++ 32 :: X))).flatten ++ E) ((List.replicate n (s :: U)).flatten ++ ts) ∧ NoRun ((List.replicate n (32 :: (s ++ 32 :: X))).flatten ++ E)
  | 0 => ⟨hE, hn⟩
  | n + 1 => by
    obtain ⟨h1, h2⟩ := lx_cat hX hs hE hn n
    rw [List.replicate_succ, List.flatten_cons, List.replicate_succ, List.flatten_cons]
    have h3 : Lx (32 :: (s ++ (32 :: (X ++ ((List.replicate n (32 :: (s ++ 32 :: X))).flatten ++ E))))) (s :: (U ++ ((List.replicate n (s :: U)).flatten ++ ts))) := .sp (.inl rfl) (.sgn hs (.sp (.inl rfl) (hX _ _ h1 h2)))
    have e1 : 32 :: (s ++ 32 :: X) ++ (List.replicate n (32 :: (s ++ 32 :: X))).flatten ++ E = 32 :: (s ++ (32 :: (X ++ ((List.replicate n (32 :: (s ++ 32 :: X))).flatten ++ E)))) := by simp
    have e2 : s :: U ++ (List.replicate n (s :: U)).flatten ++ ts = s :: (U ++ ((List.replicate n (s :: U)).flatten ++ ts)) := by simp
    rw [e1, e2]
    exact ⟨h3, norun_cons run_not.1⟩
theorem bad_cat {x s : List Nat} (hx : RunTok x) (hs : SgnTok s) {E : List Nat} (hE : BadAt E) (hn : NoRun E) :
    ∀ n, BadAt ((List.replicate n (32 :: (s ++ 32 :: x))).flatten ++ E) ∧ NoRun ((List.replicate n (32 :: (s ++ 32 :: x))).flatten ++ E)
  | 0 => ⟨hE, hn⟩
  | n + 1 => by
    obtain ⟨⟨m, h1⟩, h2⟩ := bad_cat hx hs hE hn n
    rw [List.replicate_succ, List.flatten_cons]
    have h3 := LxB.sp (c := 32) (.inl rfl) (.sgn hs (.sp (c := 32) (.inl rfl) (.run hx h2 h1)))
    have e1 : 32 :: (s ++ 32 :: x) ++ (List.replicate n (32 :: (s ++ 32 :: x))).flatten ++ E = 32 :: (s ++ (32 :: (x ++ ((List.replicate n (32 :: (s ++ 32 :: x))).flatten ++ E)))) := by simp
    rw [e1]
    exact ⟨⟨_, h3⟩, norun_cons run_not.1⟩
/-- a chain as a text -/
def catT (s X : List Nat) (n : Nat) : List Nat := X ++ (List.replicate n (32 :: (s ++ 32 :: X))).flatten
theorem lx_chain {X s : List Nat} {U : List (List Nat)} (hX : UnitX X U) (hs : SgnTok s) {E : List Nat} {ts : List (List Nat)} (hE : Lx E ts) (hn : NoRun E) (n : Nat) : Lx (catT s X n ++ E) (chT s U n ++ ts) := by
  obtain ⟨h1, h2⟩ := lx_cat hX hs hE hn n
  unfold catT chT
  rw [List.append_assoc, List.append_assoc]
  exact hX _ _ h1 h2
theorem bad_chain {x s : List Nat} (hx : RunTok x) (hs : SgnTok s) {E : List Nat} (hE : BadAt E) (hn : NoRun E) (n : Nat) : BadAt (catT s x n ++ E) := by
  obtain ⟨⟨m, h1⟩, h2⟩ := bad_cat hx hs hE hn n
  unfold catT
  rw [List.append_assoc]
  exact ⟨_, .run hx h2 h1⟩
theorem cat_len (s X : List Nat) : ∀ n, (catT s X n).length = X.length + n * (X.length + s.length + 2)
  | 0 => by unfold catT; simp
  | n + 1 => by
    have := cat_len s X n
    unfold catT at this ⊢
    rw [List.length_append] at this ⊢
    rw [List.replicate_succ, List.flatten_cons, List.length_append, List.length_cons, List.length_append, List.length_cons, Nat.succ_mul]
    omega
theorem joinL_fl (s : List Nat) : ∀ (x : List Nat) (xs : List (List Nat)), joinL s (x :: xs) = x ++ (xs.map (s ++ ·)).flatten
  | x, [] => by show x = _; simp
  | x, y :: xs => by
    show x ++ (s ++ joinL s (y :: xs)) = _
    rw [joinL_fl s y xs]; simp
theorem join_cat {s X : List Nat} {S x : Str} (hS : tl S = 32 :: (s ++ [32])) (hx : tl x = X) (n : Nat) : tl (Txt.join S (List.replicate (n + 1) x)) = catT s X n := by
  rw [join_eq, tl_join, List.replicate_succ, List.map_cons, joinL_fl, List.map_replicate, List.map_replicate, hS, hx]
  unfold catT
  have e : 32 :: (s ++ [32]) ++ X = 32 :: (s ++ 32 :: X) := by simp
  rw [e]
theorem tl_mul1 (c n : Nat) : tl (Txt.mul ⟨#[c]⟩ ((n : Nat) : Int)) = List.replicate n c := mul_one_list c n
def bad_z : BadAt [90] := ⟨_, .bad (W := [90]) (R := []) (.inr ⟨90, rfl, by decide⟩) (.inl rfl)⟩
def bad_q : BadAt [34] := ⟨_, .bad (W := [34]) (R := []) (.inr ⟨34, rfl, by decide⟩) (.inl rfl)⟩
/-- what is told of a text: 0 a bad token, 1 too deep, 2 bad syntax, -1 nothing -/
def ToldAt (x : Str) (c : Int) : Prop := x.length ≤ 50000 ∧ ((c = 0 ∧ BadAt (tl x)) ∨ ∃ tks, Lx (tl x) tks ∧ OutOk tks c)
/-- what isinstance says of an error of the class C -/
structure Tri (K : PySem.W.Frag) (C T D S N : Addr) (b0 b1 b2 : Bool) : Prop where
  isc : ExcC K C
  k0 : PySem.W.kitOne K (.ref C) (.ref T) = some b0
  k1 : PySem.W.kitOne K (.ref C) (.ref D) = some b1
  k2 : PySem.W.kitOne K (.ref C) (.ref S) = some b2
  hit : PySem.W.exmOne K (.ref C) (.ref N) = some true
section
variable {P : Program} {w : World} {K : PySem.W.Frag} {mg : Str → Option Value} {base : Heap}
def spTold : Sp := fun vs H Q _ => ∃ (x : Str) (c : Int), vs = [.str x] ∧ ToldAt x c ∧ ∀ H', Ex H H' → Q (.int c) H'
theorem sc_law_told : FnScope ["text", "e"] ["text"] (defScope s_law_told) := ⟨rfl, rfl, rfl, by decide +kernel, rfl, by decide +kernel, by decide +kernel⟩
theorem ok_law_told {BT DP BS S : Addr} (D : Dfd K mg "_law_told" s_law_told ["text"]) (T : TxtS mg) (g_BadToken : mg "BadToken" = some (.ref BT)) (g_TooDeep : mg "TooDeep" = some (.ref DP)) (g_BadSyntax : mg "BadSyntax" = some (.ref BS)) (gS : mg "SignoffError" = some (.ref S))
    (t0 : Tri K BT BT DP BS S true false false) (t1 : Tri K DP BT DP BS S false true false) (t2 : Tri K BS BT DP BS S false false true)
    (C1 : HasX P w K mg base 132 "parse_expression" ["text"] (spParse BS DP BT 21)) : Has P w K mg base 133 "_law_told" ["text"] spTold := by
  obtain ⟨f_parse_expression, d_parse_expression, G_parse_expression, g_parse_expression, k_parse_expression, b_parse_expression⟩ := C1
  refine D.has fun f fd F => F.ok sc_law_told (fun vs H Q E h => ?_) (fun cdv A outer s H vs Q E hr h => ?_)
  · obtain ⟨_, _, rfl, _⟩ := h
    rfl
  · obtain ⟨x, c, rfl, ⟨hl, hx⟩, q⟩ := h
    refine ⟨_, (pss_cons (ps_try_as (c := .ref S) (i := 1) rfl rfl sc_law_told.nd rfl rfl ⟨rfl, by decide, .inl gS⟩ takes0
      (fun W pn xe tk hp => (pss_one (ps_expr (pe_callS G_parse_expression (hr.mono (by omega)) rfl g_parse_expression k_parse_expression b_parse_expression (fun σ => passAt tk σ) (pa_cons (pv 0) pa_nil)))))
      (fun a oe cls dd pn hz hf => (pss_one (ps_ret (kBm (K := K) rfl PySem.F.plainAttrs_list PySem.F.slot_list_index PySem.F.type_list_index (kMtIndex (K := K) rfl) (pe_lst (pa_cons (pe_isED hz hf (fun D hz1 ic => pe_callB (call_isED ic hz1 hf) (by rfl) T.isinstance (by decide +kernel) (pa_cons (pv 1) (pa_cons (gRef rfl g_BadToken) pa_nil)))) (pa_cons (pe_isED hz hf (fun D hz1 ic => pe_callB (call_isED ic hz1 hf) (by rfl) T.isinstance (by decide +kernel) (pa_cons (pv 1) (pa_cons (gRef rfl g_TooDeep) pa_nil)))) (pa_cons (pe_isED hz hf (fun D hz1 ic => pe_callB (call_isED ic hz1 hf) (by rfl) T.isinstance (by decide +kernel) (pa_cons (pv 1) (pa_cons (gRef rfl g_BadSyntax) pa_nil)))) pa_nil)))) (pa_cons pe_bl pa_nil))))))
    (pss_one (ps_ret (pe_un un_neg pe_int)))), ?_⟩
    rcases hx with ⟨rfl, n, hx⟩ | ⟨tks, hx, out, ho, hp, hc⟩
    · refine ⟨_, rfl, .inr ⟨x, n, rfl, hl, hx, fun H1 d E1 nd => ⟨true, t0.hit, fun _ a na => ?_, fun q => nomatch q⟩⟩⟩
      have hd : DictS (some d) (upd H1 d (.xd [("at", V.int (n : Int))])) := fun d' e => by cases e; exact ⟨_, upd_same⟩
      refine ⟨BT, ⟨rfl, t0.isc⟩, _, rfl, hd, .ref BT, .ref BT, true, rfl, (fun u hu => hu), t0.k0, BT, ⟨rfl, t0.isc⟩, _, rfl, hd, .ref DP, .ref DP, false, rfl, (fun u hu => hu), t0.k1, BT, ⟨rfl, t0.isc⟩, _, rfl, hd, .ref BS, .ref BS, false, rfl, (fun u hu => hu), t0.k2, (by show 3 ≤ sizeLine; decide), fun p np => ?_⟩
      exact ⟨.inl ⟨rfl, _, SqL.of upd_same⟩, p, [.bl true, .bl false, .bl false], .bl true, 0, .bl true, rfl, rfl, SqL.of upd_same, rfl, rfl, rfl, rfl, (fun m z' hm => absurd hm (Nat.not_lt_zero _)), q _ ((E1.trans (Ex.new nd)).trans (Ex.new np))⟩
    · refine ⟨_, rfl, .inl ⟨x, tks, out, rfl, hl, hx, ho, hp, fun t v H1 e E1 _ => ?_, fun n H1 d e E1 nd => ⟨true, t2.hit, fun _ a na => ?_, fun q => nomatch q⟩, fun e H1 E1 => ⟨true, t1.hit, fun _ a na => ?_, fun q => nomatch q⟩⟩⟩
      · subst e
        have hc : c = -1 := hc.symm
        subst hc
        exact ⟨_, rfl, q H1 E1⟩
      · subst e
        have hc : c = 2 := hc.symm
        subst hc
        have hd : DictS (some d) (upd H1 d (.xd [("at", V.int (n : Int))])) := fun d' e => by cases e; exact ⟨_, upd_same⟩
        refine ⟨BS, ⟨rfl, t2.isc⟩, _, rfl, hd, .ref BT, .ref BT, false, rfl, (fun u hu => hu), t2.k0, BS, ⟨rfl, t2.isc⟩, _, rfl, hd, .ref DP, .ref DP, false, rfl, (fun u hu => hu), t2.k1, BS, ⟨rfl, t2.isc⟩, _, rfl, hd, .ref BS, .ref BS, true, rfl, (fun u hu => hu), t2.k2, (by show 3 ≤ sizeLine; decide), fun p np => ?_⟩
        refine ⟨.inl ⟨rfl, _, SqL.of upd_same⟩, p, [.bl false, .bl false, .bl true], .bl true, 2, .bl true, rfl, rfl, SqL.of upd_same, rfl, rfl, rfl, rfl, (fun m z' hm e => ?_), q _ ((E1.trans (Ex.new nd)).trans (Ex.new np))⟩
        match m, hm, e with
        | 0, _, e => cases e; rfl
        | 1, _, e => cases e; rfl
      · subst e
        have hc : c = 1 := hc.symm
        subst hc
        have hd : DictS none H1 := fun d' e => nomatch e
        refine ⟨DP, ⟨rfl, t1.isc⟩, _, rfl, hd, .ref BT, .ref BT, false, rfl, (fun u hu => hu), t1.k0, DP, ⟨rfl, t1.isc⟩, _, rfl, hd, .ref DP, .ref DP, true, rfl, (fun u hu => hu), t1.k1, DP, ⟨rfl, t1.isc⟩, _, rfl, hd, .ref BS, .ref BS, false, rfl, (fun u hu => hu), t1.k2, (by show 3 ≤ sizeLine; decide), fun p np => ?_⟩
        refine ⟨.inl ⟨rfl, _, SqL.of upd_same⟩, p, [.bl false, .bl true, .bl false], .bl true, 1, .bl true, rfl, rfl, SqL.of upd_same, rfl, rfl, rfl, rfl, (fun m z' hm e => ?_), q _ (E1.trans (Ex.new np))⟩
        match m, hm, e with
        | 0, _, e => cases e; rfl
end
end G
namespace G
open PySem PySem.Spec PyProof.Rows L2 Evl TL
theorem name_run {W : List Nat} (h : isName W = true) : RunTok W := by
  unfold isName at h
  rw [Bool.and_eq_true] at h
  exact word_run h.1
theorem tl_mul {s : Str} {c : Nat} (h : s = ⟨#[c]⟩) (n : Nat) : tl (Txt.mul s ((n : Nat) : Int)) = List.replicate n c := by rw [h]; exact tl_mul1 c n
theorem rep_norun {c n : Nat} (hc : SgnTok [c]) (h : 0 < n) {E : List Nat} : NoRun (List.replicate n c ++ E) := by
  obtain ⟨m, rfl⟩ : ∃ m, n = m + 1 := ⟨n - 1, by omega⟩
  rw [List.replicate_succ]
  exact sgn_norun (T := [c]) hc
theorem lx_box {W : List Nat} (hW : isName W = true) {n : Nat} (h : 0 < n) {E : List Nat} {ts : List (List Nat)} (hE : Lx E ts) : Lx (List.replicate n 40 ++ (W ++ (List.replicate n 41 ++ E))) (bxT n W ++ ts) := by
  have := lx_reps s_open (unit_name (name_run hW) _ _ (lx_reps s_shut hE n) (rep_norun s_shut h)) n
  have e : List.replicate n [40] ++ ([W] ++ (List.replicate n [41] ++ ts)) = bxT n W ++ ts := by unfold bxT; simp
  rw [e] at this
  exact this
theorem brk_bx (n : Nat) (W : List Nat) (r : List (List Nat)) (h : 20 < n) : brkF (bxT n W ++ r) 0 0 = false := by
  have e : bxT n W ++ r = List.replicate n [40] ++ (W :: (List.replicate n [41] ++ r)) := by unfold bxT; simp
  rw [e]
  exact brk_many _ n 0 0 (by omega) (by decide)
theorem told_b1 {W : List Nat} (hW : isName W = true) (hl : W.length ≤ 13) {n : Nat} (h1 : 20 < n) (h2 : n ≤ 40) {x : Str} (hx : tl x = List.replicate n 40 ++ W ++ List.replicate n 41) : ToldAt x 1 := by
  refine ⟨?_, .inr ⟨bxT n W ++ [], ?_, out_deep (brk_bx n W [] h1)⟩⟩
  · rw [len_tl, hx]; simp only [List.length_append, List.length_replicate]; omega
  · have := lx_box hW (n := n) (by omega) Lx.nil
    rw [hx, List.append_assoc]
    rw [List.append_nil (List.replicate n 41)] at this
    exact this
theorem told_b2 {n : Nat} (h : n ≤ 40) {x : Str} (hx : tl x = List.replicate n 40 ++ [34]) : ToldAt x 0 := by
  refine ⟨?_, .inl ⟨rfl, ?_⟩⟩
  · rw [len_tl, hx]; simp only [List.length_append, List.length_replicate, List.length_cons, List.length_nil]; omega
  · rw [hx]; exact bad_reps s_open bad_q n
theorem told_b3 {W : List Nat} (hW : isName W = true) (hl : W.length ≤ 13) {n : Nat} (h1 : 20 < n) (h2 : n ≤ 40) {x : Str} (hx : tl x = List.replicate n 40 ++ W ++ [124]) : ToldAt x 1 := by
  refine ⟨?_, .inr ⟨List.replicate n [40] ++ [W, [124]], ?_, out_deep (brk_many _ n 0 0 (by omega) (by decide))⟩⟩
  · rw [len_tl, hx]; simp only [List.length_append, List.length_replicate, List.length_cons, List.length_nil]; omega
  · have h := lx_reps s_open (unit_name (name_run hW) _ _ (Lx.sgn (T := [124]) (s_lv 2) Lx.nil) (sgn_norun (T := [124]) (S := []) (s_lv 2))) n
    rw [hx, List.append_assoc]
    exact h
theorem box_wr {W : List Nat} (hW : isName W = true) {n : Nat} (h : n ≤ 20) : Wr 20 4 (.name (mk W)) (bxT n W) := (bxWr hW n).deep h
theorem stop_name {W : List Nat} (hW : isName W = true) {r : List (List Nat)} : Stop 3 (W :: r) := fun j hj z => by
  have := (sgL_names j hj).1
  rw [← Option.some.inj z, hW] at this
  cases this
theorem box_brk {W : List Nat} (hW : isName W = true) {n : Nat} (h : n ≤ 20) (r : List (List Nat)) : brkF (bxT n W ++ r) 0 0 = brkF r 0 0 := brk_wr (bxWr hW n) r 0 0 (by omega) (by show 0 + 1 ≤ 20; decide)
theorem told_b4 {W : List Nat} (hW : isName W = true) (hl : W.length ≤ 13) {n : Nat} (h1 : 0 < n) (h2 : n ≤ 20) {x : Str} (hx : tl x = List.replicate n 40 ++ W ++ List.replicate n 41 ++ [32] ++ W) : ToldAt x 2 := by
  have h0 : Lx (W ++ []) ([W] ++ []) := unit_name (name_run hW) _ _ Lx.nil norun_nil
  refine ⟨?_, .inr ⟨bxT n W ++ [W], ?_, out_more (box_wr hW h2) (stop_name hW) ?_ (by show 1 ≤ 10000; decide) (List.cons_ne_nil _ _)⟩⟩
  · rw [len_tl, hx]; simp only [List.length_append, List.length_replicate, List.length_cons, List.length_nil]; omega
  · rw [List.append_nil] at h0
    have := lx_box hW (n := n) h1 (Lx.sp (c := 32) (.inl rfl) h0)
    have e : tl x = List.replicate n 40 ++ (W ++ (List.replicate n 41 ++ 32 :: W)) := by rw [hx]; simp
    rw [e]
    exact this
  · rw [box_brk hW h2]
    exact brk_plain [W] 0 0 (by decide) fun T hT => by rw [List.mem_singleton.mp hT]; exact name_plain hW
theorem lx_b {W : List Nat} (hW : isName W = true) {n : Nat} (h1 : 0 < n) {x : Str} (hx : tl x = List.replicate n 40 ++ W ++ List.replicate n 41) : Lx (tl x) (bxT n W) := by
  have := lx_box hW (n := n) h1 Lx.nil
  rw [hx, List.append_assoc]
  simp only [List.append_nil] at this
  exact this
theorem out_b {W : List Nat} (hW : isName W = true) {n : Nat} (h : n ≤ 20) : outF 21 (bxT n W) = some (.tree (.name (mk W))) := by
  refine out_fine (box_wr hW h) ?_ (by show 1 ≤ 20; decide)
  have := box_brk hW h []
  rw [List.append_nil] at this
  rw [this]; rfl
section
variable {P : Program} {w : World} {K : PySem.W.Frag} {mg : Str → Option Value} {base : Heap}
def spNm : Sp := fun vs H Q _ => ∃ (p a : Addr) (W : List Nat), vs = [.ref p, .str (mk W)] ∧ PoolOk p a H ∧ isName W = true ∧ W.length ≤ 13 ∧ ∀ H', Px p a H H' → Q (.bl true) H'
theorem sc_law_boxes : FnScope ["pool", "name", "many", "text"] ["pool", "name"] (defScope s_law_boxes) := ⟨rfl, rfl, rfl, by decide +kernel, rfl, by decide +kernel, by decide +kernel⟩
theorem ok_law_boxes {BS DP BT : Addr} (D : Dfd K mg "_law_boxes" s_law_boxes ["pool", "name"]) (T : TxtS mg) (C1 : Has P w K mg base 2 "_law_draw" ["pool", "many"] spDrawX) (C2 : Has P w K mg base 133 "_law_told" ["text"] spTold) (C3 : HasX P w K mg base 132 "parse_expression" ["text"] (spParse BS DP BT 21))
    (C4 : Has P w K mg base 21 "_law_same" ["actual", "due"] (spSame 21)) : Has P w K mg base 134 "_law_boxes" ["pool", "name"] spNm := by
  obtain ⟨f_law_draw, d_law_draw, G_law_draw, g_law_draw, k_law_draw, b_law_draw⟩ := C1
  obtain ⟨f_law_told, d_law_told, G_law_told, g_law_told, k_law_told, b_law_told⟩ := C2
  obtain ⟨f_parse_expression, d_parse_expression, G_parse_expression, g_parse_expression, k_parse_expression, b_parse_expression⟩ := C3
  obtain ⟨f_law_same, d_law_same, G_law_same, g_law_same, k_law_same, b_law_same⟩ := C4
  refine D.has fun f fd F => F.ok sc_law_boxes (fun vs H Q E h => ?_) (fun cdv A outer s H vs Q E hr h => ?_)
  · obtain ⟨_, _, _, rfl, _⟩ := h
    rfl
  · obtain ⟨p, a, W, rfl, hp, hW, hl, q⟩ := h
    refine ⟨_, (pss_cons (ps_set (i := 2) sc_law_boxes.nd rfl (.inl rfl) (pe_ix ix_list (pe_lst (pa_cons pe_int (pa_cons pe_int (pa_cons (pe_op op_add pe_int (pe_call G_law_draw (hr.mono (by omega)) (by rfl) g_law_draw k_law_draw b_law_draw .nil pass0 (pa_cons (pv 0) (pa_cons pe_int pa_nil)))) (pa_cons pe_int pa_nil))))) (pe_call G_law_draw (hr.mono (by omega)) (by rfl) g_law_draw k_law_draw b_law_draw .nil pass0 (pa_cons (pv 0) (pa_cons pe_int pa_nil))) (fun _ _ => rfl)))
    (pss_cons (ps_set (i := 3) sc_law_boxes.nd rfl (.inl rfl) (pe_op op_add_str (pe_op op_add_str (pe_op op_mulS pe_str (pv 2)) (pv 1)) (pe_op op_mulS pe_str (pv 2))))
    (pss_cons (ps_if (pt_cmpR op_gt (pv 2) pe_int (nomark _))
      (pss_one (ps_ret (pe_and (pe_cmpR op_eq (pe_call G_law_told (hr.mono (by omega)) (by rfl) g_law_told k_law_told b_law_told .nil pass0 (pa_cons (pv 3) pa_nil)) pe_int (nomark _)) (pe_and (pe_cmpR op_eq (pe_call G_law_told (hr.mono (by omega)) (by rfl) g_law_told k_law_told b_law_told .nil pass0 (pa_cons (pe_op op_add_str (pe_op op_mulS pe_str (pv 2)) pe_str) pa_nil)) pe_int (nomark _)) (pe_one (pe_cmpR op_eq (pe_call G_law_told (hr.mono (by omega)) (by rfl) g_law_told k_law_told b_law_told .nil pass0 (pa_cons (pe_op op_add_str (pe_op op_add_str (pe_op op_mulS pe_str (pv 2)) (pv 1)) pe_str) pa_nil)) pe_int (nomark _)))))))
      pss_nil)
    (pss_one (ps_ret (pe_and (pe_call G_law_same (hr.mono (by omega)) (by rfl) g_law_same k_law_same b_law_same .nil pass0 (pa_cons (pe_call G_parse_expression (hr.mono (by omega)) (by rfl) g_parse_expression k_parse_expression b_parse_expression .nil passX0 (pa_cons (pv 3) pa_nil)) (pa_cons (pe_tup (pa_cons pe_str (pa_cons (pv 1) pa_nil))) pa_nil))) (pe_one (pe_cmpR op_eq (pe_call G_law_told (hr.mono (by omega)) (by rfl) g_law_told k_law_told b_law_told .nil pass0 (pa_cons (pe_op op_add_str (pe_op op_add_str (pv 3) pe_str) (pv 1)) pa_nil)) pe_int (nomark _))))))))), ?_⟩
    refine ⟨_, rfl, p, a, 40, rfl, by decide, by decide, hp, fun v1 H1 hv1 X1 k1 => ⟨_, _, rfl, rfl, (by show 4 ≤ sizeLine; decide), fun l nl => ⟨_, rfl, p, a, 4, rfl, by decide, by decide, (X1.new nl).pool, fun v2 H2 hv2 X2 k2 => ?_⟩⟩⟩
    have X3 := (X1.new nl).trans X2
    have hl2 : H2 l = some (.lst [.int 20, .int 21, .int (1 + (v1 : Int)), .int 19]) := by rw [k2 _ (X1.pool.ne nl)]; exact upd_same
    have hit : ∃ n : Nat, ([.int 20, .int 21, .int (1 + (v1 : Int)), .int 19] : List V)[v2]? = some (.int (n : Int)) ∧ 0 < n ∧ n ≤ 40 := by
      have h4 : v2 < 4 := by omega
      match v2, h4 with
      | 0, _ => exact ⟨20, rfl, by decide, by decide⟩
      | 1, _ => exact ⟨21, rfl, by decide, by decide⟩
      | 2, _ => exact ⟨1 + v1, congrArg some (congrArg V.int (Int.natCast_add 1 v1).symm), by omega, by omega⟩
      | 3, _ => exact ⟨19, rfl, by decide, by decide⟩
    obtain ⟨n, hn, n0, n40⟩ := hit
    refine ⟨_, _, _, _, rfl, rfl, SqL.of hl2, atI_nat hn, ?_⟩
    have e40 : ("(" : Str) = ⟨#[40]⟩ := by decide +kernel
    have e41 : (")" : Str) = ⟨#[41]⟩ := by decide +kernel
    have m40 := tl_mul e40 n
    have m41 := tl_mul e41 n
    have l40 : (Txt.mul "(" ((n : Nat) : Int)).length = n := by rw [len_tl, m40, List.length_replicate]
    have l41 : (Txt.mul ")" ((n : Nat) : Int)).length = n := by rw [len_tl, m41, List.length_replicate]
    have lW : (mk W).length ≤ 13 := by rw [mk_len]; exact hl
    refine ⟨_, rfl, _, n, rfl, rfl, by decide, by omega, _, rfl, _, _, rfl, rfl, sz_of (by omega), _, rfl, _, n, rfl, rfl, by decide, by omega, _, _, rfl, rfl, sz_of (by rw [Str.length_append]; omega), ?_⟩
    have ht : tl (Txt.mul "(" ((n : Nat) : Int) ++ mk W ++ Txt.mul ")" ((n : Nat) : Int)) = List.replicate n 40 ++ W ++ List.replicate n 41 := by
      rw [tl_append, tl_append, m40, m41]; rfl
    have lt : (Txt.mul "(" ((n : Nat) : Int) ++ mk W ++ Txt.mul ")" ((n : Nat) : Int)).length ≤ 100 := by rw [Str.length_append, Str.length_append]; omega
    refine ⟨_, rfl, _, _, rfl, rfl, _, rfl, ite2 (fun e => ?_) (fun e => ?_)⟩
    · have hn : 20 < n := by have := of_decide_eq_true e; omega
      have h2 : tl (Txt.mul "(" ((n : Nat) : Int) ++ ("\"" : Str)) = List.replicate n 40 ++ [34] := by rw [tl_append, m40]; rfl
      have h3 : tl (Txt.mul "(" ((n : Nat) : Int) ++ mk W ++ ("|" : Str)) = List.replicate n 40 ++ W ++ [124] := by rw [tl_append, tl_append, m40]; rfl
      have z2 : (Txt.mul "(" ((n : Nat) : Int)).length + ("\"" : Str).length ≤ 100000 := by rw [l40]; show n + 1 ≤ 100000; omega
      have z3 : (Txt.mul "(" ((n : Nat) : Int) ++ mk W).length + ("|" : Str).length ≤ 100000 := by rw [Str.length_append, l40]; show n + (mk W).length + 1 ≤ 100000; omega
      refine ⟨_, rfl, _, 1, rfl, told_b1 hW hl hn n40 ht, fun H3 E3 => ⟨rfl, _, rfl, iteT ⟨_, rfl, _, n, rfl, rfl, by decide, by omega, _, _, rfl, rfl, sz_of z2, _, 0, rfl, told_b2 n40 h2, fun H4 E4 => ⟨rfl, _, rfl, iteT ⟨_, rfl, _, n, rfl, rfl, by decide, by omega, _, rfl, _, _, rfl, rfl, sz_of (by omega), _, _, rfl, rfl, sz_of z3, _, 1, rfl, told_b3 hW hl hn n40 h3, fun H5 E5 => ?_⟩⟩⟩⟩⟩
      exact ⟨rfl, q _ (((X3.more E3).more E4).more E5)⟩
    · have hn : n ≤ 20 := by
        have : ¬ (20 : Int) < (n : Int) := fun z => e (decide_eq_true z)
        omega
      have h4 : tl (Txt.mul "(" ((n : Nat) : Int) ++ mk W ++ Txt.mul ")" ((n : Nat) : Int) ++ (" " : Str) ++ mk W) = List.replicate n 40 ++ W ++ List.replicate n 41 ++ [32] ++ W := by rw [tl_append, tl_append, ht]; rfl
      refine ⟨_, rfl, .inl ⟨_, _, .tree (.name (mk W)), rfl, by omega, lx_b hW n0 ht, out_b hW hn, fun _ t m e => ?_, fun t v H3 e E3 hv => ?_, (fun _ _ _ e _ _ => nomatch e), (fun e => nomatch e)⟩⟩
      · rw [parse_wr (box_wr hW hn)] at e
        cases e
        show 1 ≤ 10000
        decide
      · cases e
        refine ⟨_, rfl, (by show 2 ≤ sizeLine; decide), fun tp np => ?_⟩
        have E4 := Ex.new (o := .tup [V.str "name", .str (mk W)]) np
        have hd : TreeH (upd H3 tp (.tup [V.str "name", .str (mk W)])) (.ref tp) (.name (mk W)) := ⟨tp, rfl, upd_same⟩
        refine ⟨_, _, (Tr.name (mk W)).dat, rfl, rep_tree (hv.ex E4), rep_tree hd, okD_tree (by show 1 ≤ 20; decide), _, rfl, iteT ⟨_, rfl, _, _, rfl, rfl, ?_, _, rfl, _, _, rfl, rfl, ?_, _, 2, rfl, told_b4 hW hl n0 hn h4, fun H5 E5 => ⟨rfl, q _ (((X3.more E3).more E4).more E5)⟩⟩⟩
        · exact sz_of (Nat.le_trans (Nat.add_le_add lt (Nat.le_refl 1)) (by decide))
        · have z := Nat.add_le_add (Nat.add_le_add lt (Nat.le_refl 1)) lW
          refine sz_of (Nat.le_trans ?_ (by decide : 100 + 1 + 13 ≤ 100000))
          rw [Str.length_append]
          exact z
end
end G
namespace G
open PySem PySem.Spec PyProof.Rows L2 Evl TL
theorem lx_nots {W : List Nat} (hW : isName W = true) (n : Nat) {E : List Nat} {ts : List (List Nat)} (hE : Lx E ts) (hn : NoRun E) : Lx (List.replicate n 33 ++ (W ++ E)) (ntT n W ++ ts) := by
  have := lx_reps s_not (unit_name (name_run hW) _ _ hE hn) n
  have e : List.replicate n [33] ++ ([W] ++ ts) = ntT n W ++ ts := by unfold ntT; simp
  rw [e] at this
  exact this
theorem nt_wr {W : List Nat} (hW : isName W = true) (n : Nat) : Wr 20 4 (wrapN n (.name (mk W))) (ntT n W) := ((ntWr hW n).deep (Nat.zero_le _)).ups 3
theorem nt_brk {W : List Nat} (hW : isName W = true) {n : Nat} (h : n ≤ 20) (r : List (List Nat)) : brkF (ntT n W ++ r) 0 0 = brkF r 0 0 := by
  obtain ⟨h1, h2, h3⟩ := name_plain hW
  have e : ntT n W ++ r = List.replicate n [33] ++ (W :: r) := by unfold ntT; simp
  rw [e, brk_negs _ n 0 0 (by decide) (by omega), brk_step h1 h2 h3 (by decide)]
theorem nt_no {W : List Nat} {n : Nat} (h : 20 < n) (r : List (List Nat)) : brkF (ntT n W ++ r) 0 0 = false := by
  have e : ntT n W ++ r = List.replicate n [33] ++ (W :: r) := by unfold ntT; simp
  rw [e]
  exact brk_nots _ n 0 0 (by omega) (by decide) (by decide)
theorem lx_n {W : List Nat} (hW : isName W = true) {n : Nat} {x : Str} (hx : tl x = List.replicate n 33 ++ W) : Lx (tl x) (ntT n W) := by
  have := lx_nots hW n Lx.nil norun_nil
  simp only [List.append_nil] at this
  rw [hx]
  exact this
theorem len_n {W : List Nat} (hl : W.length ≤ 13) {n : Nat} (h : n ≤ 40) {x : Str} (hx : tl x = List.replicate n 33 ++ W) : x.length ≤ 60 := by
  rw [len_tl, hx]; simp only [List.length_append, List.length_replicate]; omega
theorem post_n (W : List Nat) {n : Nat} (h : n ≤ 40) : (wrapN n (.name (mk W))).post.length ≤ 10000 := by rw [wrap_post]; omega
theorem told_n1 {W : List Nat} (hW : isName W = true) (hl : W.length ≤ 13) {n : Nat} (h1 : 19 < n) (h2 : n ≤ 40) {x : Str} (hx : tl x = List.replicate n 33 ++ W) : ToldAt x 1 := by
  refine ⟨Nat.le_trans (len_n hl h2 hx) (by decide), .inr ⟨ntT n W, lx_n hW hx, ?_⟩⟩
  by_cases h : n ≤ 20
  · refine out_high (nt_wr hW n) ?_ (post_n W h2) (by rw [wrap_ht]; omega)
    have := nt_brk hW h []
    rw [List.append_nil] at this
    rw [this]; rfl
  · refine out_deep ?_
    have := nt_no (W := W) (n := n) (by omega) []
    rw [List.append_nil] at this
    exact this
theorem told_n2 {W : List Nat} (hW : isName W = true) (hl : W.length ≤ 13) {n : Nat} (h2 : n ≤ 40) {x : Str} (hx : tl x = List.replicate n 33 ++ W ++ [41]) : ToldAt x (if n ≤ 20 then 2 else 1) := by
  refine ⟨?_, .inr ⟨ntT n W ++ [[41]], ?_, ?_⟩⟩
  · rw [len_tl, hx]; simp only [List.length_append, List.length_replicate, List.length_cons, List.length_nil]; omega
  · have := lx_nots hW n (Lx.sgn (T := [41]) s_shut Lx.nil) (sgn_norun (T := [41]) (S := []) s_shut)
    rw [hx, List.append_assoc]
    exact this
  · by_cases h : n ≤ 20
    · rw [if_pos h]
      exact out_more (nt_wr hW n) (fun j hj z => (sgL_names j hj).2 (Option.some.inj z).symm) (by rw [nt_brk hW h]; rfl) (post_n W h2) (List.cons_ne_nil _ _)
    · rw [if_neg h]
      exact out_deep (nt_no (by omega) _)
theorem out_n {W : List Nat} (hW : isName W = true) {n : Nat} (h : n ≤ 19) : outF 21 (ntT n W) = some (.tree (wrapN n (.name (mk W)))) := by
  refine out_fine (nt_wr hW n) ?_ (by rw [wrap_ht]; omega)
  have := nt_brk hW (n := n) (by omega) []
  rw [List.append_nil] at this
  rw [this]; rfl
section
variable {P : Program} {w : World} {K : PySem.W.Frag} {mg : Str → Option Value} {base : Heap}
theorem sc_law_nots : FnScope ["pool", "name", "many", "tree", "k", "early"] ["pool", "name"] (defScope s_law_nots) := ⟨rfl, rfl, rfl, by decide +kernel, rfl, by decide +kernel, by decide +kernel⟩
theorem ok_law_nots {BS DP BT : Addr} (D : Dfd K mg "_law_nots" s_law_nots ["pool", "name"]) (T : TxtS mg) (C1 : Has P w K mg base 2 "_law_draw" ["pool", "many"] spDrawX) (C2 : Has P w K mg base 133 "_law_told" ["text"] spTold) (C3 : HasX P w K mg base 132 "parse_expression" ["text"] (spParse BS DP BT 21))
    (C4 : Has P w K mg base 21 "_law_same" ["actual", "due"] (spSame 21)) : Has P w K mg base 134 "_law_nots" ["pool", "name"] spNm := by
  obtain ⟨f_law_draw, d_law_draw, G_law_draw, g_law_draw, k_law_draw, b_law_draw⟩ := C1
  obtain ⟨f_law_told, d_law_told, G_law_told, g_law_told, k_law_told, b_law_told⟩ := C2
  obtain ⟨f_parse_expression, d_parse_expression, G_parse_expression, g_parse_expression, k_parse_expression, b_parse_expression⟩ := C3
  obtain ⟨f_law_same, d_law_same, G_law_same, g_law_same, k_law_same, b_law_same⟩ := C4
  refine D.has fun f fd F => F.ok sc_law_nots (fun vs H Q E h => ?_) (fun cdv A outer s H vs Q E hr h => ?_)
  · obtain ⟨_, _, _, rfl, _⟩ := h
    rfl
  · obtain ⟨p, a, W, rfl, hp, hW, hl, q⟩ := h
    refine ⟨_, (pss_cons (ps_set (i := 2) sc_law_nots.nd rfl (.inl rfl) (pe_ix ix_list (pe_lst (pa_cons pe_int (pa_cons pe_int (pa_cons pe_int (pa_cons (pe_op op_add pe_int (pe_call G_law_draw (hr.mono (by omega)) (by rfl) g_law_draw k_law_draw b_law_draw .nil pass0 (pa_cons (pv 0) (pa_cons pe_int pa_nil)))) pa_nil))))) (pe_call G_law_draw (hr.mono (by omega)) (by rfl) g_law_draw k_law_draw b_law_draw .nil pass0 (pa_cons (pv 0) (pa_cons pe_int pa_nil))) (fun _ _ => rfl)))
    (pss_cons (ps_set (i := 3) sc_law_nots.nd rfl (.inl rfl) (pe_tup (pa_cons pe_str (pa_cons (pv 1) pa_nil))))
    (pss_cons (ps_for PassesOwn.never rfl (pi_range1 rfl T.range (pa_cons (pv 2) pa_nil)) (pg_name (i := 4) sc_law_nots.nd rfl (.inl rfl))
      (pss_one (ps_set (i := 3) sc_law_nots.nd rfl (.inl rfl) (pe_tup (pa_cons pe_str (pa_cons (pv 3) pa_nil))))))
    (pss_cons (ps_if (pt_cmpR op_gt (pv 2) pe_int (nomark _))
      (pss_cons (ps_set (i := 5) sc_law_nots.nd rfl (.inl rfl) (pe_op op_add pe_int (pe_callTy call_int1 (by rfl) T.int (by decide +kernel) (pa_cons (pe_cmpR op_lt (pv 2) pe_int (nomark _)) pa_nil))))
      (pss_one (ps_ret (pe_and (pe_cmpR op_eq (pe_call G_law_told (hr.mono (by omega)) (by rfl) g_law_told k_law_told b_law_told .nil pass0 (pa_cons (pe_op op_add_str (pe_op op_mulS pe_str (pv 2)) (pv 1)) pa_nil)) pe_int (nomark _)) (pe_one (pe_cmpR op_eq (pe_call G_law_told (hr.mono (by omega)) (by rfl) g_law_told k_law_told b_law_told .nil pass0 (pa_cons (pe_op op_add_str (pe_op op_add_str (pe_op op_mulS pe_str (pv 2)) (pv 1)) pe_str) pa_nil)) (pv 5) (nomark _)))))))
      pss_nil)
    (pss_one (ps_ret (pe_call G_law_same (hr.mono (by omega)) (by rfl) g_law_same k_law_same b_law_same .nil pass0 (pa_cons (pe_call G_parse_expression (hr.mono (by omega)) (by rfl) g_parse_expression k_parse_expression b_parse_expression .nil passX0 (pa_cons (pe_op op_add_str (pe_op op_mulS pe_str (pv 2)) (pv 1)) pa_nil)) (pa_cons (pv 3) pa_nil))))))))), ?_⟩
    refine ⟨_, rfl, p, a, 40, rfl, by decide, by decide, hp, fun v1 H1 hv1 X1 k1 => ⟨_, _, rfl, rfl, (by show 4 ≤ sizeLine; decide), fun l nl => ⟨_, rfl, p, a, 4, rfl, by decide, by decide, (X1.new nl).pool, fun v2 H2 hv2 X2 k2 => ?_⟩⟩⟩
    have X3 := (X1.new nl).trans X2
    have hl2 : H2 l = some (.lst [.int 19, .int 20, .int 21, .int (1 + (v1 : Int))]) := by rw [k2 _ (X1.pool.ne nl)]; exact upd_same
    have hit : ∃ n : Nat, ([.int 19, .int 20, .int 21, .int (1 + (v1 : Int))] : List V)[v2]? = some (.int (n : Int)) ∧ 0 < n ∧ n ≤ 40 := by
      have h4 : v2 < 4 := by omega
      match v2, h4 with
      | 0, _ => exact ⟨19, rfl, by decide, by decide⟩
      | 1, _ => exact ⟨20, rfl, by decide, by decide⟩
      | 2, _ => exact ⟨21, rfl, by decide, by decide⟩
      | 3, _ => exact ⟨1 + v1, congrArg some (congrArg V.int (Int.natCast_add 1 v1).symm), by omega, by omega⟩
    obtain ⟨n, hn, n0, n40⟩ := hit
    refine ⟨_, _, _, _, rfl, rfl, SqL.of hl2, atI_nat hn, ?_⟩
    have e33 : ("!" : Str) = ⟨#[33]⟩ := by decide +kernel
    have m33 := tl_mul e33 n
    have l33 : (Txt.mul "!" ((n : Nat) : Int)).length = n := by rw [len_tl, m33, List.length_replicate]
    have lW : (mk W).length ≤ 13 := by rw [mk_len]; exact hl
    have ht : tl (Txt.mul "!" ((n : Nat) : Int) ++ mk W) = List.replicate n 33 ++ W := by rw [tl_append, m33]; rfl
    have lt : (Txt.mul "!" ((n : Nat) : Int) ++ mk W).length ≤ 60 := len_n hl n40 ht
    have zt : (Txt.mul "!" ((n : Nat) : Int)).length + (mk W).length ≤ 100000 := by omega
    refine ⟨_, rfl, (by show 2 ≤ sizeLine; decide), fun t0 nt0 => ?_⟩
    refine ⟨_, rfl, _, rfl, by omega, by omega, for_range (n := ((n : Nat) : Int).toNat) (fun i σ H' => Px p a H H' ∧ ∃ (v : V) (z : Option V), TreeH H' v (wrapN i (.name (mk W))) ∧ σ = [some (.ref p), some (.str (mk W)), some (.int (n : Int)), some v, z, none])
      ⟨X3.new nt0, _, _, ⟨t0, rfl, upd_same⟩, rfl⟩ ?_ ?_⟩
    · rintro i σ H3 hi ⟨X4, v, z, hv, rfl⟩
      refine ⟨_, rfl, (by show 2 ≤ sizeLine; decide), fun t1 nt1 => ⟨X4.new nt1, _, _, ⟨t1, v, rfl, upd_same, hv.ex (Ex.new nt1)⟩, rfl⟩⟩
    · rintro σ H3 ⟨X4, v, z, hv, rfl⟩
      rw [Int.toNat_natCast] at hv
      refine ⟨_, rfl, _, _, rfl, rfl, _, rfl, ite2 (fun e => ?_) (fun e => ?_)⟩
      · have hn : 19 < n := by have := of_decide_eq_true e; omega
        have z2 : (Txt.mul "!" ((n : Nat) : Int) ++ mk W).length + (")" : Str).length ≤ 100000 := Nat.le_trans (Nat.add_le_add lt (Nat.le_refl 1)) (by decide)
        have h2 : tl (Txt.mul "!" ((n : Nat) : Int) ++ mk W ++ (")" : Str)) = List.replicate n 33 ++ W ++ [41] := by rw [tl_append, ht]; rfl
        refine ⟨_, rfl, _, _, rfl, rfl, .inr ⟨_, rfl, ?_⟩⟩
        refine ⟨_, _, rfl, rfl, _, rfl, _, n, rfl, rfl, by decide, by omega, _, rfl, _, _, rfl, rfl, sz_of zt, _, 1, rfl, told_n1 hW hl hn n40 ht, fun H4 E4 => ⟨rfl, _, rfl, iteT ⟨_, rfl, _, n, rfl, rfl, by decide, by omega, _, rfl, _, _, rfl, rfl, sz_of zt, _, _, rfl, rfl, sz_of z2, _, _, rfl, told_n2 hW hl n40 h2, fun H5 E5 => ⟨_, rfl, ?_⟩⟩⟩⟩
        have XE := q _ ((X4.more E4).more E5)
        by_cases c : n ≤ 20
        · dsimp only
          rw [if_pos c, if_pos (decide_eq_true (show (n : Int) < 21 by omega))]
          exact ⟨rfl, XE⟩
        · dsimp only
          rw [if_neg c, if_neg (fun z => absurd (of_decide_eq_true z) (show ¬ (n : Int) < 21 by omega))]
          exact ⟨rfl, XE⟩
      · have hn : n ≤ 19 := by
          have : ¬ (19 : Int) < (n : Int) := fun z => e (decide_eq_true z)
          omega
        refine ⟨_, rfl, _, n, rfl, rfl, by decide, by omega, _, rfl, _, _, rfl, rfl, sz_of zt, .inl ⟨_, _, .tree (wrapN n (.name (mk W))), rfl, by omega, lx_n hW ht, out_n hW hn, fun _ t m e => ?_, fun t v' H4 e E4 hv' => ?_, (fun _ _ _ e _ _ => nomatch e), (fun e => nomatch e)⟩⟩
        · rw [parse_wr (nt_wr hW n)] at e
          cases e
          exact post_n W n40
        · cases e
          exact ⟨_, rfl, _, _, (wrapN n (.name (mk W))).dat, rfl, rep_tree hv', rep_tree (hv.ex E4), okD_tree (n := 20) (by rw [wrap_ht]; omega), q _ (X4.more E4)⟩
end
end G
namespace G
open PySem PySem.Spec PyProof.Rows L2 Evl TL
theorem plain_lv {k : Nat} (hk : k ≤ 2) : Plain (sgL k) := sgL_plain hk
theorem lv_one : ∀ k, ∃ c, sgL k = [c]
  | 0 => ⟨38, rfl⟩
  | 1 => ⟨94, rfl⟩
  | _ + 2 => ⟨124, rfl⟩
theorem ch_wr {W : List Nat} (hW : isName W = true) {k : Nat} (hk : k ≤ 2) (m : Nat) : Wr 0 (k + 2) (chTr (opL k) (.name (mk W)) m) (chT (sgL k) [W] m) := chWr hk (.name hW) m
theorem ch_brk {W : List Nat} (hW : isName W = true) {k : Nat} (hk : k ≤ 2) (m : Nat) : brkF (chT (sgL k) [W] m) 0 0 = true := brk_plain _ 0 0 (by decide) (ch_plain (plain_lv hk) (name_plain hW) m)
theorem ch_len {W : List Nat} (hl : W.length ≤ 13) {k m : Nat} (hm : m < 3000) : (catT (sgL k) W m).length ≤ 47997 := by
  obtain ⟨c, hc⟩ := lv_one k
  rw [cat_len, hc]
  have h1 : W.length + [c].length + 2 ≤ 16 := by rw [List.length_singleton]; omega
  have h2 : m * (W.length + [c].length + 2) ≤ 2999 * 16 := Nat.mul_le_mul (by omega) h1
  omega
theorem told_c1 {W : List Nat} (hW : isName W = true) (hl : W.length ≤ 13) {k m : Nat} (hk : k ≤ 2) (h1 : 20 ≤ m) (h2 : m < 3000) {x : Str} (hx : tl x = catT (sgL k) W m) : ToldAt x 1 := by
  refine ⟨?_, .inr ⟨chT (sgL k) [W] m, ?_, out_high (up4 hk (ch_wr hW hk m) (Nat.zero_le _)) (ch_brk hW hk m) (by rw [ch_post]; omega) (by rw [ch_ht]; omega)⟩⟩
  · rw [len_tl, hx]; exact Nat.le_trans (ch_len hl h2) (by decide)
  · have := lx_chain (unit_name (name_run hW)) (s_lv k) Lx.nil norun_nil m
    simp only [List.append_nil] at this
    rw [hx]
    exact this
theorem told_c2 {W : List Nat} (hW : isName W = true) (hl : W.length ≤ 13) {k m : Nat} (hk : k ≤ 2) (h2 : m < 3000) {x : Str} (hx : tl x = catT (sgL k) W m ++ 32 :: sgL k) : ToldAt x 2 := by
  obtain ⟨c, hc⟩ := lv_one k
  refine ⟨?_, .inr ⟨chT (sgL k) [W] m ++ [sgL k], ?_, ?_⟩⟩
  · have := ch_len hl (k := k) h2
    rw [len_tl, hx, List.length_append, hc, List.length_cons, List.length_singleton]
    rw [hc] at this
    omega
  · have h0 : Lx (sgL k ++ []) (sgL k :: []) := .sgn (s_lv k) .nil
    rw [List.append_nil] at h0
    rw [hx]
    exact lx_chain (unit_name (name_run hW)) (s_lv k) (Lx.sp (c := 32) (.inl rfl) h0) (norun_cons run_not.1) m
  · obtain ⟨j, hj⟩ := chain_err hk ((ch_wr hW hk m).deep (Nat.zero_le 20))
    refine out_err (brk_plain _ 0 0 (by decide) fun T hT => ?_) hj
    rcases List.mem_append.mp hT with z | z
    · exact ch_plain (plain_lv hk) (name_plain hW) m T z
    · rw [List.mem_singleton.mp z]; exact plain_lv hk
theorem told_c3 {W : List Nat} (hW : isName W = true) (hl : W.length ≤ 13) {k m : Nat} (h2 : m < 3000) {x : Str} (hx : tl x = catT (sgL k) W m ++ [32, 90]) : ToldAt x 0 := by
  refine ⟨?_, .inl ⟨rfl, ?_⟩⟩
  · have := ch_len hl (k := k) h2
    rw [len_tl, hx, List.length_append, List.length_cons, List.length_singleton]
    omega
  · obtain ⟨n, hn⟩ := bad_z
    rw [hx]
    exact bad_chain (name_run hW) (s_lv k) ⟨_, .sp (c := 32) (.inl rfl) hn⟩ (norun_cons run_not.1) m
theorem lx_c {W : List Nat} (hW : isName W = true) {k m : Nat} {x : Str} (hx : tl x = catT (sgL k) W m) : Lx (tl x) (chT (sgL k) [W] m) := by
  have := lx_chain (unit_name (name_run hW)) (s_lv k) Lx.nil norun_nil m
  simp only [List.append_nil] at this
  rw [hx]
  exact this
theorem out_c {W : List Nat} (hW : isName W = true) {k m : Nat} (hk : k ≤ 2) (h : m ≤ 19) : outF 21 (chT (sgL k) [W] m) = some (.tree (chTr (opL k) (.name (mk W)) m)) :=
  out_fine (up4 hk (ch_wr hW hk m) (Nat.zero_le _)) (ch_brk hW hk m) (by rw [ch_ht]; omega)

def sgS : Nat → Str | 0 => "&" | 1 => "^" | _ => "|"
theorem sgS_tl : ∀ k, tl (sgS k) = sgL k
  | 0 => by decide +kernel
  | 1 => by decide +kernel
  | _ + 2 => by show tl ("|" : Str) = [124]; decide +kernel
theorem sgS_at {k : Nat} (hk : k ≤ 2) : ∃ (j : Nat) (z : V), ([.str "&", .str "|", .str "^"] : List V)[j]? = some z ∧ eqV z (.str (sgS k)) = true ∧ (∀ (m : Nat) (z' : V), m < j → ([.str "&", .str "|", .str "^"] : List V)[m]? = some z' → eqV z' (.str (sgS k)) = false) ∧ ([.str "and", .str "or", .str "xor"] : List V)[j]? = some (.str (opL k).s) := by
  match k, hk with
  | 0, _ => exact ⟨0, _, rfl, by decide +kernel, fun m z hm => absurd hm (Nat.not_lt_zero _), rfl⟩
  | 1, _ =>
    refine ⟨2, _, rfl, by decide +kernel, fun m z hm e => ?_, rfl⟩
    match m, hm, e with
    | 0, _, e => cases e; decide +kernel
    | 1, _, e => cases e; decide +kernel
  | 2, _ =>
    refine ⟨1, _, rfl, by decide +kernel, fun m z hm e => ?_, rfl⟩
    match m, hm, e with
    | 0, _, e => cases e; decide +kernel
theorem repFl {α β : Type} (f : α → β) (x : α) : ∀ n, (List.replicate n [f x]).flatten = (List.replicate n x).map f
  | 0 => rfl
  | n + 1 => by rw [List.replicate_succ, List.flatten_cons, repFl f x n, List.replicate_succ, List.map_cons]; rfl
theorem sum_rep (x : Str) (n : Nat) : ((List.replicate n x).map (·.length)).sum = n * x.length := by
  rw [List.map_replicate, List.sum_replicate_nat]
section
variable {P : Program} {w : World} {K : PySem.W.Frag} {mg : Str → Option Value} {base : Heap}
theorem sc_law_chain : FnScope ["pool", "name", "many", "sign", "text", "tree", "k"] ["pool", "name"] (defScope s_law_chain) := ⟨rfl, rfl, rfl, by decide +kernel, rfl, by decide +kernel, by decide +kernel⟩
theorem ok_law_chain {BS DP BT : Addr} (D : Dfd K mg "_law_chain" s_law_chain ["pool", "name"]) (T : TxtS mg) (C1 : Has P w K mg base 2 "_law_draw" ["pool", "many"] spDrawX) (C2 : Has P w K mg base 133 "_law_told" ["text"] spTold) (C3 : HasX P w K mg base 132 "parse_expression" ["text"] (spParse BS DP BT 21))
    (C4 : Has P w K mg base 21 "_law_same" ["actual", "due"] (spSame 21)) : Has P w K mg base 134 "_law_chain" ["pool", "name"] spNm := by
  obtain ⟨f_law_draw, d_law_draw, G_law_draw, g_law_draw, k_law_draw, b_law_draw⟩ := C1
  obtain ⟨f_law_told, d_law_told, G_law_told, g_law_told, k_law_told, b_law_told⟩ := C2
  obtain ⟨f_parse_expression, d_parse_expression, G_parse_expression, g_parse_expression, k_parse_expression, b_parse_expression⟩ := C3
  obtain ⟨f_law_same, d_law_same, G_law_same, g_law_same, k_law_same, b_law_same⟩ := C4
  refine D.has fun f fd F => F.ok sc_law_chain (fun vs H Q E h => ?_) (fun cdv A outer s H vs Q E hr h => ?_)
  · obtain ⟨_, _, _, rfl, _⟩ := h
    rfl
  · obtain ⟨p, a, W, rfl, hp, hW, hl, q⟩ := h
    refine ⟨_, (pss_cons (ps_set (i := 2) sc_law_chain.nd rfl (.inl rfl) (pe_ix ix_list (pe_lst (pa_cons pe_int (pa_cons pe_int (pa_cons (pe_op op_add pe_int (pe_call G_law_draw (hr.mono (by omega)) (by rfl) g_law_draw k_law_draw b_law_draw .nil pass0 (pa_cons (pv 0) (pa_cons pe_int pa_nil)))) (pa_cons pe_int pa_nil))))) (pe_call G_law_draw (hr.mono (by omega)) (by rfl) g_law_draw k_law_draw b_law_draw .nil pass0 (pa_cons (pv 0) (pa_cons pe_int pa_nil))) (fun _ _ => rfl)))
    (pss_cons (ps_set (i := 3) sc_law_chain.nd rfl (.inl rfl) (pe_ix ix_list (pe_lst (pa_cons pe_str (pa_cons pe_str (pa_cons pe_str pa_nil)))) (pe_call G_law_draw (hr.mono (by omega)) (by rfl) g_law_draw k_law_draw b_law_draw .nil pass0 (pa_cons (pv 0) (pa_cons pe_int pa_nil))) (fun _ _ => rfl)))
    (pss_cons (ps_set (i := 4) sc_law_chain.nd rfl (.inl rfl) (pe_join (pe_op op_add_str (pe_op op_add_str pe_str (pv 3)) pe_str) (pe_op op_rep (pe_lst (pa_cons (pv 1) pa_nil)) (pv 2))))
    (pss_cons (ps_if (pt_cmpR op_gt (pv 2) pe_int (nomark _))
      (pss_one (ps_ret (pe_and (pe_cmpR op_eq (pe_call G_law_told (hr.mono (by omega)) (by rfl) g_law_told k_law_told b_law_told .nil pass0 (pa_cons (pv 4) pa_nil)) pe_int (nomark _)) (pe_and (pe_cmpR op_eq (pe_call G_law_told (hr.mono (by omega)) (by rfl) g_law_told k_law_told b_law_told .nil pass0 (pa_cons (pe_op op_add_str (pe_op op_add_str (pv 4) pe_str) (pv 3)) pa_nil)) pe_int (nomark _)) (pe_one (pe_cmpR op_eq (pe_call G_law_told (hr.mono (by omega)) (by rfl) g_law_told k_law_told b_law_told .nil pass0 (pa_cons (pe_op op_add_str (pv 4) pe_str) pa_nil)) pe_int (nomark _)))))))
      pss_nil)
    (pss_cons (ps_set (i := 5) sc_law_chain.nd rfl (.inl rfl) (pe_tup (pa_cons pe_str (pa_cons (pv 1) pa_nil))))
    (pss_cons (ps_for PassesOwn.never rfl (pi_range1 rfl T.range (pa_cons (pe_op op_sub (pv 2) pe_int) pa_nil)) (pg_name (i := 6) sc_law_chain.nd rfl (.inl rfl))
      (pss_one (ps_set (i := 5) sc_law_chain.nd rfl (.inl rfl) (pe_tup (pa_cons (pe_ix ix_list (pe_lst (pa_cons (pe_ix ix_list (pe_lst (pa_cons pe_str (pa_cons pe_str (pa_cons pe_str pa_nil)))) (pe_bm PySem.F.plainAttrs_list PySem.F.slot_list_index PySem.F.type_list_index mt_index (pe_lst (pa_cons pe_str (pa_cons pe_str (pa_cons pe_str pa_nil)))) (pa_cons (pv 3) pa_nil)) (fun _ _ => rfl)) pa_nil)) pe_int (fun _ _ => rfl)) (pa_cons (pv 5) (pa_cons (pe_tup (pa_cons pe_str (pa_cons (pv 1) pa_nil))) pa_nil)))))))
    (pss_one (ps_ret (pe_call G_law_same (hr.mono (by omega)) (by rfl) g_law_same k_law_same b_law_same .nil pass0 (pa_cons (pe_call G_parse_expression (hr.mono (by omega)) (by rfl) g_parse_expression k_parse_expression b_parse_expression .nil passX0 (pa_cons (pv 4) pa_nil)) (pa_cons (pv 5) pa_nil))))))))))), ?_⟩
    refine ⟨_, rfl, p, a, 40, rfl, by decide, by decide, hp, fun v1 H1 hv1 X1 k1 => ⟨_, _, rfl, rfl, (by show 4 ≤ sizeLine; decide), fun l nl => ⟨_, rfl, p, a, 4, rfl, by decide, by decide, (X1.new nl).pool, fun v2 H2 hv2 X2 k2 => ?_⟩⟩⟩
    have X3 := (X1.new nl).trans X2
    have hl2 : H2 l = some (.lst [.int 20, .int 21, .int (1 + (v1 : Int)), .int 3000]) := by rw [k2 _ (X1.pool.ne nl)]; exact upd_same
    have hit : ∃ m : Nat, ([.int 20, .int 21, .int (1 + (v1 : Int)), .int 3000] : List V)[v2]? = some (.int ((m + 1 : Nat) : Int)) ∧ m < 3000 := by
      have h4 : v2 < 4 := by omega
      match v2, h4 with
      | 0, _ => exact ⟨19, rfl, by decide⟩
      | 1, _ => exact ⟨20, rfl, by decide⟩
      | 2, _ => exact ⟨v1, congrArg some (congrArg V.int (by rw [Int.natCast_add]; omega)), by omega⟩
      | 3, _ => exact ⟨2999, rfl, by decide⟩
    obtain ⟨m, hm, m3⟩ := hit
    refine ⟨_, _, _, _, rfl, rfl, SqL.of hl2, atI_nat hm, ?_⟩
    refine ⟨(by show 3 ≤ sizeLine; decide), fun l3 n3 => ⟨_, rfl, p, a, 3, rfl, by decide, by decide, (X3.new n3).pool, fun v3 H4 hv3 X4 k4 => ?_⟩⟩
    have X5 := (X3.new n3).trans X4
    have hl3 : H4 l3 = some (.lst [.str "&", .str "|", .str "^"]) := by rw [k4 _ (X3.pool.ne n3)]; exact upd_same
    have hit : ∃ k, k ≤ 2 ∧ ([.str "&", .str "|", .str "^"] : List V)[v3]? = some (.str (sgS k)) := by
      have h3 : v3 < 3 := by omega
      match v3, h3 with
      | 0, _ => exact ⟨0, by decide, rfl⟩
      | 1, _ => exact ⟨2, by decide, rfl⟩
      | 2, _ => exact ⟨1, by decide, rfl⟩
    obtain ⟨k, hk, hs⟩ := hit
    refine ⟨_, _, _, _, rfl, rfl, SqL.of hl3, atI_nat hs, ?_⟩
    have ls1 : (sgS k).length = 1 := by
      obtain ⟨c, hc⟩ := lv_one k
      rw [len_tl, sgS_tl, hc]; rfl
    have lW : (mk W).length ≤ 13 := by rw [mk_len]; exact hl
    have b1 : (" " : Str).length = 1 := rfl
    have lsep : ((" " : Str) ++ sgS k ++ (" " : Str)).length = 3 := by rw [Str.length_append, Str.length_append, ls1, b1]
    refine ⟨_, rfl, _, _, rfl, rfl, sz_of (by omega), _, _, rfl, rfl, sz_of (by rw [Str.length_append]; omega), ⟨_, rfl⟩, _, rfl, (by show 1 ≤ sizeLine; decide), fun l5 n5 => ⟨_, rfl, l5, ((m + 1 : Nat) : Int), [.str (mk W)], rfl, rfl, upd_same, by omega, by omega, sz_of (by rw [List.length_singleton]; omega), fun l6 n6 => ?_⟩⟩
    have X6 := (X5.new n5).new (o := .lst (List.replicate ((m + 1 : Nat) : Int).toNat [V.str (mk W)]).flatten) n6
    have hm13 : (m + 1) * (mk W).length ≤ 3000 * 13 := Nat.mul_le_mul (by omega) lW
    refine ⟨_, l6, List.replicate (m + 1) (mk W), rfl, rfl, .inl (by rw [← repFl]; exact SqL.of upd_same), by rw [sum_rep, List.length_replicate, lsep]; omega, ?_⟩
    have hS : tl ((" " : Str) ++ sgS k ++ (" " : Str)) = 32 :: (sgL k ++ [32]) := by rw [tl_append, tl_append, sgS_tl]; rfl
    have ht : tl (Txt.join ((" " : Str) ++ sgS k ++ (" " : Str)) (List.replicate (m + 1) (mk W))) = catT (sgL k) W m := join_cat hS rfl m
    have lt : (Txt.join ((" " : Str) ++ sgS k ++ (" " : Str)) (List.replicate (m + 1) (mk W))).length ≤ 47997 := by rw [len_tl, ht]; exact ch_len hl m3
    generalize Txt.join ((" " : Str) ++ sgS k ++ (" " : Str)) (List.replicate (m + 1) (mk W)) = x at *
    generalize upd (upd H4 l5 (.lst [V.str (mk W)])) l6 (.lst (List.replicate ((m + 1 : Nat) : Int).toNat [V.str (mk W)]).flatten) = H6 at *
    refine ⟨_, rfl, _, _, rfl, rfl, _, rfl, ite2 (fun e => ?_) (fun e => ?_)⟩
    · have hn : 20 ≤ m := by have := of_decide_eq_true e; omega
      have h2 : tl (x ++ (" " : Str) ++ sgS k) = catT (sgL k) W m ++ 32 :: sgL k := by rw [tl_append, tl_append, ht, sgS_tl, List.append_assoc]; rfl
      have h3 : tl (x ++ (" Z" : Str)) = catT (sgL k) W m ++ [32, 90] := by rw [tl_append, ht]; rfl
      have z1 : x.length + (" " : Str).length ≤ 100000 := by omega
      have z2 : (x ++ (" " : Str)).length + (sgS k).length ≤ 100000 := by rw [Str.length_append]; omega
      have z3 : x.length + (" Z" : Str).length ≤ 100000 := by show x.length + 2 ≤ 100000; omega
      refine ⟨_, rfl, _, 1, rfl, told_c1 hW hl hk hn m3 ht, fun H7 E7 => ⟨rfl, _, rfl, iteT ⟨_, rfl, _, _, rfl, rfl, sz_of z1, _, rfl, _, _, rfl, rfl, sz_of z2, _, 2, rfl, told_c2 hW hl hk m3 h2, fun H8 E8 => ⟨rfl, _, rfl, iteT ⟨_, rfl, _, _, rfl, rfl, sz_of z3, _, 0, rfl, told_c3 hW hl m3 h3, fun H9 E9 => ⟨rfl, q _ (((X6.more E7).more E8).more E9)⟩⟩⟩⟩⟩⟩
    · have hn : m ≤ 19 := by
        have : ¬ (20 : Int) < ((m + 1 : Nat) : Int) := fun z => e (decide_eq_true z)
        omega
      refine ⟨_, rfl, (by show 2 ≤ sizeLine; decide), fun t0 nt0 => ?_⟩
      refine ⟨_, rfl, _, _, rfl, rfl, _, rfl, by omega, by omega, for_range (n := (((m + 1 : Nat) : Int) - 1).toNat) (fun i σ H' => Px p a H H' ∧ ∃ (v : V) (z : Option V), TreeH H' v (chTr (opL k) (.name (mk W)) i) ∧ σ = [some (.ref p), some (.str (mk W)), some (.int ((m + 1 : Nat) : Int)), some (.str (sgS k)), some (.str x), some v, z])
        ⟨X6.new nt0, _, _, ⟨t0, rfl, upd_same⟩, rfl⟩ ?_ ?_⟩
      · rintro i σ H7 hi ⟨X7, v, z, hv, rfl⟩
        obtain ⟨j, z', e1, e2, e3, e4⟩ := sgS_at hk
        refine ⟨(by show 3 ≤ sizeLine; decide), fun l7 n7 => ⟨(by show 3 ≤ sizeLine; decide), fun l8 n8 => ⟨.inl ⟨rfl, _, SqL.of upd_same⟩, _, rfl, l8, [.str "&", .str "|", .str "^"], .str (sgS k), j, z', rfl, rfl, SqL.of upd_same, rfl, rfl, e1, e2, e3, _, _, _, _, rfl, rfl, SqL.of (Ex.new n8 _ _ upd_same), atI_nat e4, (by show 1 ≤ sizeLine; decide), fun l9 n9 => ⟨_, _, _, _, rfl, rfl, SqL.of upd_same, atI_nat (j := 0) rfl, _, rfl, _, rfl, (by show 2 ≤ sizeLine; decide), fun t1 nt1 => ⟨(by show 3 ≤ sizeLine; decide), fun t2 nt2 => ?_⟩⟩⟩⟩⟩
        exact ⟨((((X7.new n7).new n8).new n9).new nt1).new nt2, _, _, ⟨t2, v, .ref t1, rfl, upd_same, hv.ex (((((Ex.new n7).trans (Ex.new n8)).trans (Ex.new n9)).trans (Ex.new nt1)).trans (Ex.new nt2)), ⟨t1, rfl, Ex.new nt2 _ _ upd_same⟩⟩, rfl⟩
      · rintro σ H7 ⟨X7, v, z, hv, rfl⟩
        have em : (((m + 1 : Nat) : Int) - 1).toNat = m := by omega
        rw [em] at hv
        refine ⟨_, rfl, .inl ⟨_, _, .tree (chTr (opL k) (.name (mk W)) m), rfl, by omega, lx_c hW ht, out_c hW hk hn, fun _ t j e => ?_, fun t v' H8 e E8 hv' => ?_, (fun _ _ _ e _ _ => nomatch e), (fun e => nomatch e)⟩⟩
        · rw [parse_wr (up4 hk (ch_wr hW hk m) (Nat.zero_le 20))] at e
          cases e
          rw [ch_post]; omega
        · cases e
          exact ⟨_, rfl, _, _, (chTr (opL k) (.name (mk W)) m).dat, rfl, rep_tree hv', rep_tree (hv.ex E8), okD_tree (n := 20) (by rw [ch_ht]; omega), q _ (X7.more E8)⟩
end
end G
namespace G
open PySem PySem.Spec PyProof.Rows L2 Evl TL
theorem w_wr {W : List Nat} (hW : isName W = true) (m : Nat) : Wr 1 2 (chTr (opL 0) (.name (mk W)) m) (chT (sgL 0) [[40], W, [41]] m) := chWr (k := 0) (by decide) (.box ((Wr.name hW).ups 4)) m
theorem w_brk {W : List Nat} (hW : isName W = true) (r : List (List Nat)) : brkF (chT (sgL 0) [[40], W, [41]] 19 ++ r) 0 0 = brkF r 0 0 := brk_wr (w_wr hW 19) r 0 0 (by decide) (by rw [ch_ht]; decide)
theorem w_len {W : List Nat} (hl : W.length ≤ 13) : (catT (sgL 0) ([40] ++ W ++ [41]) 19).length ≤ 600 := by
  rw [cat_len]
  have : ([40] ++ W ++ [41]).length = W.length + 2 := by rw [List.length_append, List.length_append, List.length_singleton, List.length_singleton]; omega
  rw [this]
  show W.length + 2 + 19 * (W.length + 2 + 1 + 2) ≤ 600
  omega
theorem told_w1 {W : List Nat} (hW : isName W = true) (hl : W.length ≤ 13) {x : Str} (hx : tl x = catT (sgL 0) ([40] ++ W ++ [41]) 19) : ToldAt x (-1) := by
  refine ⟨?_, .inr ⟨chT (sgL 0) [[40], W, [41]] 19, ?_, out_tree (up4 (k := 0) (by decide) (w_wr hW 19) (by decide)) ?_ (by rw [ch_post]; decide) (by rw [ch_ht]; decide)⟩⟩
  · rw [len_tl, hx]; exact Nat.le_trans (w_len hl) (by decide)
  · have := lx_chain (unit_box (name_run hW)) (s_lv 0) Lx.nil norun_nil 19
    simp only [List.append_nil] at this
    rw [hx]
    exact this
  · have := w_brk hW []
    rw [List.append_nil] at this
    rw [this]; rfl
theorem told_w2 {W : List Nat} (hW : isName W = true) (hl : W.length ≤ 13) {x : Str} (hx : tl x = catT (sgL 0) ([40] ++ W ++ [41]) 19 ++ [32, 41]) : ToldAt x 2 := by
  refine ⟨?_, .inr ⟨chT (sgL 0) [[40], W, [41]] 19 ++ [[41]], ?_, out_more (up4 (k := 0) (by decide) (w_wr hW 19) (by decide)) (fun j hj z => (sgL_names j hj).2 (Option.some.inj z).symm) (by rw [w_brk hW]; rfl) (by rw [ch_post]; decide) (List.cons_ne_nil _ _)⟩⟩
  · have := w_len hl
    rw [len_tl, hx, List.length_append, List.length_cons, List.length_singleton]
    omega
  · rw [hx]
    exact lx_chain (unit_box (name_run hW)) (s_lv 0) (Lx.sp (c := 32) (.inl rfl) (Lx.sgn (T := [41]) s_shut Lx.nil)) (norun_cons run_not.1) 19
theorem told_w3 : ToldAt "" 2 := ⟨by decide, .inr ⟨[], .nil, out_err (tks := []) rfl (expr_end (tks := []) 3)⟩⟩
def spLaw (K : PySem.W.Frag) : Sp := fun vs H Q _ => ∃ (a : Addr) (ns : List Int), vs = [.ref a] ∧ SqL K H a (ns.map V.int) ∧ ns.length ≤ 63 ∧ ∀ H', Q (.bl true) H'
section
variable {P : Program} {w : World} {K : PySem.W.Frag} {mg : Str → Option Value} {base : Heap}
theorem sc_law : FnScope ["script", "pool", "turn", "name", "wide"] ["script"] (defScope s_law) := ⟨rfl, rfl, rfl, by decide +kernel, rfl, by decide +kernel, by decide +kernel⟩
theorem fn_law {f : Addr} {fd : FuncData} (F : Fun K "law" "law" s_law f fd) (T : TxtS mg)
    (C1 : Has P w K mg base 1 "_law_pool" ["script"] (spPool K)) (C3 : Has P w K mg base 3 "_law_word" ["pool"] spWord) (C2 : Has P w K mg base 133 "_law_told" ["text"] spTold) (C4 : Has P w K mg base 134 "_law_boxes" ["pool", "name"] spNm) (C5 : Has P w K mg base 134 "_law_nots" ["pool", "name"] spNm) (C6 : Has P w K mg base 134 "_law_chain" ["pool", "name"] spNm) :
    FnOk P w K mg base CX0 135 f fd ["script"] (spLaw K) := by
  obtain ⟨f_law_pool, d_law_pool, G_law_pool, g_law_pool, k_law_pool, b_law_pool⟩ := C1
  obtain ⟨f_law_told, d_law_told, G_law_told, g_law_told, k_law_told, b_law_told⟩ := C2
  obtain ⟨f_law_word, d_law_word, G_law_word, g_law_word, k_law_word, b_law_word⟩ := C3
  obtain ⟨f_law_boxes, d_law_boxes, G_law_boxes, g_law_boxes, k_law_boxes, b_law_boxes⟩ := C4
  obtain ⟨f_law_nots, d_law_nots, G_law_nots, g_law_nots, k_law_nots, b_law_nots⟩ := C5
  obtain ⟨f_law_chain, d_law_chain, G_law_chain, g_law_chain, k_law_chain, b_law_chain⟩ := C6
  refine F.ok sc_law (fun vs H Q E h => ?_) (fun cdv A outer s H vs Q E hr h => ?_)
  · obtain ⟨a, ns, rfl, _⟩ := h
    rfl
  · obtain ⟨sa, ss, rfl, hs, hn, q⟩ := h
    refine ⟨_, (pss_cons (ps_set (i := 1) sc_law.nd rfl (.inl rfl) (pe_call G_law_pool (hr.mono (by omega)) (by rfl) g_law_pool k_law_pool b_law_pool .nil pass0 (pa_cons (pv 0) pa_nil)))
    (pss_cons (ps_for PassesOwn.never rfl (pi_range1 rfl T.range (pa_cons pe_int pa_nil)) (pg_name (i := 2) sc_law.nd rfl (.inl rfl))
      (pss_cons (ps_set (i := 3) sc_law.nd rfl (.inl rfl) (pe_call G_law_word (hr.mono (by omega)) (by rfl) g_law_word k_law_word b_law_word .nil pass0 (pa_cons (pv 1) pa_nil)))
      (pss_cut (ps_if (PW.pt (pw_or (pt_not (pt_val (pe_call G_law_boxes (hr.mono (by omega)) (by rfl) g_law_boxes k_law_boxes b_law_boxes .nil pass0 (pa_cons (pv 1) (pa_cons (pv 3) pa_nil))))) (pw_or (pt_not (pt_val (pe_call G_law_nots (hr.mono (by omega)) (by rfl) g_law_nots k_law_nots b_law_nots .nil pass0 (pa_cons (pv 1) (pa_cons (pv 3) pa_nil))))) (pw_or1 (pt_not (pt_val (pe_call G_law_chain (hr.mono (by omega)) (by rfl) g_law_chain k_law_chain b_law_chain .nil pass0 (pa_cons (pv 1) (pa_cons (pv 3) pa_nil)))))))))
        (pss_one (ps_ret pe_bl))
        pss_nil)
      (pss_cons (ps_set (i := 4) sc_law.nd rfl (.inl rfl) (pe_join pe_str (pe_op op_rep (pe_lst (pa_cons (pe_op op_add_str (pe_op op_add_str pe_str (pv 3)) pe_str) pa_nil)) pe_int)))
      (pss_one (ps_if (PW.pt (pw_or (pt_cmpR op_ne (pe_call G_law_told (hr.mono (by omega)) (by rfl) g_law_told k_law_told b_law_told .nil pass0 (pa_cons (pv 4) pa_nil)) (pe_un un_neg pe_int) (nomark _)) (pw_or (pt_cmpR op_ne (pe_call G_law_told (hr.mono (by omega)) (by rfl) g_law_told k_law_told b_law_told .nil pass0 (pa_cons (pe_op op_add_str (pv 4) pe_str) pa_nil)) pe_int (nomark _)) (pw_or1 (pt_cmpR op_ne (pe_call G_law_told (hr.mono (by omega)) (by rfl) g_law_told k_law_told b_law_told .nil pass0 (pa_cons pe_str pa_nil)) pe_int (nomark _))))))
        (pss_one (ps_ret pe_bl))
        pss_nil))))))
    (pss_one (ps_ret pe_bl)))), ?_⟩
    refine ⟨_, rfl, sa, ss, rfl, hs, by omega, fun p a H0 hp _ _ => ?_⟩
    refine ⟨3, rfl, by decide, by decide, for_range (n := 3) (fun i σ H' => Px p a H0 H' ∧ ∃ y2 y3 y4 : Option V, σ = [some (.ref sa), some (.ref p), y2, y3, y4]) ⟨Px.refl hp, _, _, _, rfl⟩ ?_ ?_⟩
    · rintro turn σ H0a ht ⟨X0, y2, y3, y4, rfl⟩
      refine ⟨_, rfl, p, a, rfl, X0.pool, fun W H1 hWd hkw hl X1 => ?_⟩
      have hW : isName W = true := by
        unfold isName
        rw [hWd, decide_eq_false hkw]; rfl
      refine ⟨fun σ H' => Px p a H0 H' ∧ σ = [some (.ref sa), some (.ref p), some (.int (0 + (turn : Int))), some (.str (mk W)), y4], ?_, ?_⟩
      · refine ⟨_, rfl, _, rfl, p, a, W, rfl, X1.pool, hW, hl, fun H2 X2 => ?_⟩
        refine ⟨_, rfl, iteF ⟨_, rfl, _, rfl, p, a, W, rfl, X2.pool, hW, hl, fun H3 X3 => ⟨_, rfl, iteF ⟨_, rfl, _, rfl, p, a, W, rfl, X3.pool, hW, hl, fun H4 X4 => ⟨_, rfl, iteF ⟨(((X0.trans X1).trans X2).trans X3).trans X4, rfl⟩⟩⟩⟩⟩⟩
      · rintro σ H2 ⟨X2, rfl⟩
        have lW : (mk W).length ≤ 13 := by rw [mk_len]; exact hl
        have u1 : ("(" : Str).length = 1 := rfl
        have u2 : (")" : Str).length = 1 := rfl
        have u3 : (" & " : Str).length = 3 := rfl
        have lu : (("(" : Str) ++ mk W ++ (")" : Str)).length ≤ 15 := by rw [Str.length_append, Str.length_append, u1, u2]; omega
        refine ⟨⟨_, rfl⟩, _, rfl, _, _, rfl, rfl, sz_of (by omega), _, _, rfl, rfl, sz_of (by rw [Str.length_append]; omega), (by show 1 ≤ sizeLine; decide), fun l5 n5 => ⟨l5, 20, [.str (("(" : Str) ++ mk W ++ (")" : Str))], rfl, rfl, upd_same, by decide, by decide, sz_of (by rw [List.length_singleton]; decide), fun l6 n6 => ?_⟩⟩
        have X6 := (X2.new n5).new (o := .lst (List.replicate (20 : Int).toNat [V.str (("(" : Str) ++ mk W ++ (")" : Str))]).flatten) n6
        refine ⟨_, l6, List.replicate 20 (("(" : Str) ++ mk W ++ (")" : Str)), rfl, rfl, .inl (by rw [← repFl]; exact SqL.of upd_same), by rw [sum_rep, List.length_replicate, u3]; omega, ?_⟩
        have ht : tl (Txt.join (" & " : Str) (List.replicate 20 (("(" : Str) ++ mk W ++ (")" : Str)))) = catT (sgL 0) ([40] ++ W ++ [41]) 19 := join_cat (s := sgL 0) (by decide +kernel) (by rw [tl_append, tl_append]; rfl) 19
        have lt : (Txt.join (" & " : Str) (List.replicate 20 (("(" : Str) ++ mk W ++ (")" : Str)))).length ≤ 600 := by rw [len_tl, ht]; exact w_len hl
        generalize Txt.join (" & " : Str) (List.replicate 20 (("(" : Str) ++ mk W ++ (")" : Str))) = x at *
        generalize upd (upd H2 l5 (.lst [V.str (("(" : Str) ++ mk W ++ (")" : Str))])) l6 (.lst (List.replicate (20 : Int).toNat [V.str (("(" : Str) ++ mk W ++ (")" : Str))]).flatten) = H6 at *
        have z1 : x.length + (" )" : Str).length ≤ 100000 := by show x.length + 2 ≤ 100000; omega
        have h2 : tl (x ++ (" )" : Str)) = catT (sgL 0) ([40] ++ W ++ [41]) 19 ++ [32, 41] := by rw [tl_append, ht]; rfl
        refine ⟨_, rfl, _, _, rfl, told_w1 hW hl ht, fun H7 E7 => ⟨_, rfl, rfl, _, rfl, iteF ⟨_, rfl, _, _, rfl, rfl, sz_of z1, _, _, rfl, told_w2 hW hl h2, fun H8 E8 => ⟨rfl, _, rfl, iteF ⟨_, _, rfl, told_w3, fun H9 E9 => ⟨rfl, _, rfl, iteF ?_⟩⟩⟩⟩⟩⟩
        exact ⟨((X6.more E7).more E8).more E9, _, _, _, rfl⟩
    · rintro σ H1 ⟨X1, y2, y3, y4, rfl⟩
      exact q _
end
end G
namespace G
open PySem PySem.Spec PyProof.Rows L2
/-- the defs and the built-in names as the top has left them -/
structure All (K : PySem.W.Frag) (mg : Str → Option Value) : Prop where
  d_wall : Dfd K mg "_wall" s_wall ["k"]
  d_tokenize : Dfd K mg "tokenize" s_tokenize ["text"]
  d_is_name : Dfd K mg "is_name" s_is_name ["token"]
  d_is_numeral : Dfd K mg "is_numeral" s_is_numeral ["token"]
  d_is_word : Dfd K mg "is_word" s_is_word ["token"]
  d_token_at : Dfd K mg "_token_at" s_token_at ["text", "at"]
  d_run_end : Dfd K mg "_run_end" s_run_end ["text", "at"]
  d_line_end : Dfd K mg "_line_end" s_line_end ["text", "at"]
  d_height : Dfd K mg "height" s_height ["tree"]
  d_operands : Dfd K mg "operands" s_operands ["tree"]
  d_postorder : Dfd K mg "postorder" s_postorder ["tree"]
  d_parse_expression : Dfd K mg "parse_expression" s_parse_expression ["text"]
  d_reader : Dfd K mg "_reader" s_reader ["text"]
  d_check_brackets : Dfd K mg "_check_brackets" s_check_brackets ["tokens"]
  d_check_height : Dfd K mg "_check_height" s_check_height ["tree"]
  d_expression : ∃ (f : Addr) (fd : FuncData), FunD K "_expression" "_expression" (defArgs s_expression) (defBody s_expression) (defScope s_expression) [.int 0] [] f fd ∧ mg "_expression" = some (.ref f) ∧ Binds K fd ["reader", "level"] [] ∧ ∃ ds, Vals [V.int 0] ds ∧ Binds K fd ["reader", "level"] ds
  d_factor : Dfd K mg "_factor" s_factor ["reader"]
  d_atom : Dfd K mg "_atom" s_atom ["reader"]
  d_law_pool : Dfd K mg "_law_pool" s_law_pool ["script"]
  d_law_spread : Dfd K mg "_law_spread" s_law_spread ["cell"]
  d_law_draw : Dfd K mg "_law_draw" s_law_draw ["pool", "many"]
  d_law_same : Dfd K mg "_law_same" s_law_same ["actual", "due"]
  d_law_word : Dfd K mg "_law_word" s_law_word ["pool"]
  d_law_told : Dfd K mg "_law_told" s_law_told ["text"]
  d_law_boxes : Dfd K mg "_law_boxes" s_law_boxes ["pool", "name"]
  d_law_nots : Dfd K mg "_law_nots" s_law_nots ["pool", "name"]
  d_law_chain : Dfd K mg "_law_chain" s_law_chain ["pool", "name"]
  z_super : mg "super" = none
  z_len : mg "len" = none
  z_all : mg "all" = none
  z_max : mg "max" = none
  z_list : mg "list" = none
  z_range : mg "range" = none
  z_int : mg "int" = none
  z_isinstance : mg "isinstance" = none
  z_tuple : mg "tuple" = none
  z_bool : mg "bool" = none
  z_str : mg "str" = none
  z_ValueError : mg "ValueError" = none
  c_KEYWORDS : ∃ a, mg "KEYWORDS" = some (.ref a) ∧ ∀ H, SqT K H a [.str "cell", .str "pin", .str "module", .str "gate", .str "part", .str "reg", .str "edge", .str "out", .str "setup", .str "hold", .str "start"]
  c_SIGNS : ∃ a, mg "SIGNS" = some (.ref a) ∧ ∀ H, SqT K H a [.str "(", .str ")", .str "{", .str "}", .str ",", .str ";", .str ":", .str "=", .str "->", .str "..", .str "&", .str "|", .str "^", .str "!"]
  c_LETTERS : ∃ t, mg "LETTERS" = some (.str "abcdefghijklmnopqrstuvwxyz" t)
  c_DIGITS : ∃ t, mg "DIGITS" = some (.str "0123456789" t)
  c_RUN_CHARACTERS : ∃ t, mg "RUN_CHARACTERS" = some (.str "abcdefghijklmnopqrstuvwxyz0123456789_" t)
  c_MOST_DIGITS : ∃ t, mg "MOST_DIGITS" = some (.int 9 t)
  c_MOST_BRACKETS : ∃ t, mg "MOST_BRACKETS" = some (.int 20 t)
  c_MOST_NEGATIONS : ∃ t, mg "MOST_NEGATIONS" = some (.int 20 t)
  c_MOST_HEIGHT : ∃ t, mg "MOST_HEIGHT" = some (.int 20 t)
  c_BINARY : ∃ (a b0 b1 b2 : Addr), mg "BINARY" = some (.ref a) ∧ ∀ H, SqT K H a [.ref b0, .ref b1, .ref b2] ∧ SqT K H b0 [.str "|", .str "or"] ∧ SqT K H b1 [.str "^", .str "xor"] ∧ SqT K H b2 [.str "&", .str "and"]
  k_TokenReader : ∃ C : Addr, Cl_TokenReader K mg C
  i_TooDeep : ∃ C : Addr, ExcI K mg "TooDeep" C ∧ IsK K mg C "BadToken" false ∧ IsK K mg C "TooDeep" true ∧ IsK K mg C "BadSyntax" false ∧ CatchK K mg C "SignoffError"
end G
namespace G
open PySem PySem.Spec PyProof.Rows L2
theorem glue {P : Program} {w : World} {K : PySem.W.Frag} {mg : Str → Option Value} {base : Heap} (A : All K mg) (OX0 : ∃ (C f : Addr) (fd : FuncData), ErrF P K mg "BadToken" "BadToken.__init__" C f fd s_BadToken_init "at" ∧ IsK K mg C "BadToken" true ∧ IsK K mg C "TooDeep" false ∧ IsK K mg C "BadSyntax" false ∧ CatchK K mg C "SignoffError")
    (OX1 : ∃ (C f : Addr) (fd : FuncData), ErrF P K mg "BadSyntax" "BadSyntax.__init__" C f fd s_BadSyntax_init "at" ∧ IsK K mg C "BadToken" false ∧ IsK K mg C "TooDeep" false ∧ IsK K mg C "BadSyntax" true ∧ CatchK K mg C "SignoffError")
    {f : Addr} {fd : FuncData} (F : Fun K "law" "law" s_law f fd) : FnOk P w K mg base CX0 135 f fd ["script"] (spLaw K) := by
  have TL : TxtL mg := ⟨A.z_int, A.z_len, A.z_list, A.z_range⟩
  have TS : TxtS mg := ⟨A.z_isinstance, A.z_tuple, A.z_list, A.z_len, A.z_range, A.z_bool, A.z_int, A.z_str⟩
  have TK : TxtK K mg := ⟨A.z_len, A.z_all, A.c_LETTERS, A.c_DIGITS, A.c_RUN_CHARACTERS, A.c_MOST_DIGITS, A.c_KEYWORDS, A.c_SIGNS⟩
  have TR : TxtRd mg := ⟨A.z_len, A.z_list⟩
  have BT : BinT K mg := ⟨A.c_BINARY⟩
  have hwd := ok_is_word (P := P) (w := w) (base := base) A.d_is_word TK
  have hnm := ok_is_name A.d_is_name TK hwd
  obtain ⟨Bt, fT, dT, OT, t0, t1, t2, t3⟩ := OX0
  obtain ⟨B, fB, dB, OB, s0, s1, s2, s3⟩ := OX1
  have OT1 := own_BadToken (w := w) (base := base) OT
  have OS := own_BadSyntax (w := w) (base := base) OB
  obtain ⟨D0, UD, d0, d1, d2, d3⟩ := A.i_TooDeep
  obtain ⟨S, gS, hS⟩ := id d3
  have gt := OT.gC
  have gd := UD.u.gC
  have gs := OB.gC
  have r0 : Tri K Bt Bt D0 B S true false false := ⟨OT.isc, t0.at_ gt, t1.at_ gd, t2.at_ gs, t3.at_ gS⟩
  have r1 : Tri K D0 Bt D0 B S false true false := ⟨UD.isc, d0.at_ gt, d1.at_ gd, d2.at_ gs, d3.at_ gS⟩
  have r2 : Tri K B Bt D0 B S false false true := ⟨OB.isc, s0.at_ gt, s1.at_ gd, s2.at_ gs, s3.at_ gS⟩
  obtain ⟨C, W⟩ := A.k_TokenReader
  obtain ⟨fi, di, Mi, Fi, bi⟩ := W.m_init
  obtain ⟨fa, da, Ma, Fa, ba⟩ := W.m_ahead
  obtain ⟨ft, dt, Mt, Ft, bt⟩ := W.m_take
  obtain ⟨fi2, di2, Mif, Fif, bi2⟩ := W.m_take_if
  obtain ⟨fn, dn, Mn, Fn, bn⟩ := W.m_take_name
  obtain ⟨fb, db, Mb, Fb, bb⟩ := W.m_take_bit
  obtain ⟨fe, de, Me, Fe, be⟩ := W.m_take_end
  have Gi := ok_TokenReader_init (P := P) (w := w) (mg := mg) (base := base) Fi W TR
  have Ga := ok_TokenReader_ahead (P := P) (w := w) (mg := mg) (base := base) Fa W TR
  have Gif := ok_TokenReader_take_if (P := P) (w := w) (mg := mg) (base := base) Fif W TR Ma Ga ba
  have Gt := ok_TokenReader_take OS Ft W TR Ma Ga ba
  have Gn := ok_TokenReader_take_name OS Fn W TR Ma Ga ba hnm
  have Gb := ok_TokenReader_take_bit Fb W TR Mif Gif bi2 Mt Gt bt
  have Ge := ok_TokenReader_take_end OS Fe W TR
  have R : Rdr P w K mg base C B := ⟨W.cl, ⟨_, _, Ma, Ga, ba⟩, ⟨_, _, Mif, Gif, bi2⟩, ⟨_, _, Mt, Gt, bt⟩, ⟨_, _, Mn, Gn, bn⟩, ⟨_, _, Mb, Gb, bb⟩⟩
  obtain ⟨fx, dx0, Fx, gx, bx, bdx⟩ := A.d_expression
  have X : ExprC P w K mg base C B fx dx0 := ⟨gx, Fx.kp, bx, bdx⟩
  have Gx := ok_parse ⟨A.z_range, A.z_len⟩ BT Fx R X A.d_atom A.d_factor 21
  have hd := drawX (P := P) (w := w) (base := base) (ok_law_draw A.d_law_draw TL (ok_law_spread A.d_law_spread TL))
  have hn := ok_is_numeral (P := P) (w := w) (base := base) A.d_is_numeral TK
  have hle := ok_line_end (P := P) (w := w) (base := base) A.d_line_end TK
  have hre := ok_run_end (P := P) (w := w) (base := base) A.d_run_end TK
  have hta := ok_token_at A.d_token_at TK hre hwd hn
  have htb := ok_token_atB OT1 A.d_token_at TK hre hwd hn
  have hto := ok_tokE (BT := Bt) A.d_tokenize (fun f fd F => G.FnOk.liftX ((fn_tokenizeV F TK hle hta).mono (by decide : 3 ≤ 4))) (fun f fd F => fn_tokenizeB F TK hle htb)
  have hops := ok_operands (P := P) (w := w) (base := base) A.d_operands
  have hpo := ok_postorder A.d_postorder hops
  have hht := ok_height A.d_height ⟨A.z_len, A.z_max⟩ hops hpo
  have hch := ok_check_height A.d_check_height UD.u A.c_MOST_HEIGHT hht
  have hrd := ok_reader A.d_reader hto (ok_check_brackets A.d_check_brackets UD.u ⟨A.c_MOST_BRACKETS, A.c_MOST_NEGATIONS⟩) W.gC Mi Gi bi
  have hpe := ok_parse_expression (d := 21) (h := 4) (by omega) A.d_parse_expression hrd X Gx W.cl Me Ge be hch
  have hsm := ok_law_same (P := P) (w := w) (base := base) A.d_law_same TS 21
  have hlt := ok_law_told A.d_law_told TS gt gd gs gS r0 r1 r2 hpe
  exact fn_law F TS (ok_law_pool A.d_law_pool TL) (ok_law_word A.d_law_word TS hd) hlt (ok_law_boxes A.d_law_boxes TS hd hlt hpe hsm) (ok_law_nots A.d_law_nots TS hd hlt hpe hsm) (ok_law_chain A.d_law_chain TS hd hlt hpe hsm)
end G
namespace G
open PySem PySem.Spec PyProof.Rows L2
theorem all_mk {l : PySem.W.OpenLaw} {w : World} {K : PySem.W.Frag} {h : Heap} {mg : Str → Option Value} {fa f0 f1 f2 f3 f4 f5 f6 f7 f8 f9 f10 f11 f12 f13 f14 f15 f16 f17 f18 f19 f20 f21 f22 f23 f24 f25 f26 f27 : Addr} (X : K.In h) (G : h.Ns mainGlobals mg) (hfa : mg "law" = some (.ref fa))
    {od0 an0 od1 an1 od2 an2 od3 an3 od4 an4 od5 an5 od6 an6 od7 an7 od8 an8 od9 an9 od10 an10 od11 an11 od12 an12 od13 an13 od14 an14 od15 an15 od16 an16 od17 an17 od18 an18 od19 an19 od20 an20 od21 an21 od22 an22 od23 an23 od24 an24 od25 an25 od26 an26 od27 an27 : Option Addr} {sl0 sl1 sl2 sl3 sl4 sl5 sl6 sl7 sl8 sl9 sl10 sl11 sl12 sl13 sl14 sl15 sl16 sl17 sl18 sl19 sl20 sl21 sl22 sl23 sl24 sl25 sl26 sl27 : Array (Option Value)} {oc0 kv0 dc0 pm0 cd0 ct0 oc1 kv1 dc1 pm1 cd1 ct1 oc2 kv2 dc2 pm2 cd2 ct2 oc3 kv3 dc3 pm3 cd3 ct3 oc4 kv4 dc4 pm4 cd4 ct4 oc5 kv5 dc5 pm5 cd5 ct5 oc6 kv6 dc6 pm6 cd6 ct6 oc7 kv7 dc7 pm7 cd7 ct7 oc8 kv8 dc8 pm8 cd8 ct8 oc9 kv9 dc9 pm9 cd9 ct9 oc10 kv10 dc10 pm10 cd10 ct10 oc11 kv11 dc11 pm11 cd11 ct11 oc12 kv12 dc12 pm12 cd12 ct12 oc13 kv13 dc13 pm13 cd13 ct13 oc14 kv14 dc14 pm14 cd14 ct14 oc15 kv15 dc15 pm15 cd15 ct15 oc16 kv16 dc16 pm16 cd16 ct16 oc17 kv17 dc17 pm17 cd17 ct17 oc18 kv18 dc18 pm18 cd18 ct18 oc19 kv19 dc19 pm19 cd19 ct19 oc20 kv20 dc20 pm20 cd20 ct20 oc21 kv21 dc21 pm21 cd21 ct21 oc22 kv22 dc22 pm22 cd22 ct22 oc23 kv23 dc23 pm23 cd23 ct23 oc24 kv24 dc24 pm24 cd24 ct24 oc25 kv25 dc25 pm25 cd25 ct25 oc26 kv26 dc26 pm26 cd26 ct26 oc27 kv27 dc27 pm27 cd27 ct27 : Value}
    (a0 : PySem.W.nsIn K mainGlobals "_wall" = some (some (.ref f0))) (l0 : K.lookup f0 = some ⟨oc0, od0, .func (PySem.W.fnOf "_wall" "_wall" (defArgs s_wall) (defBody s_wall) (defScope s_wall) .none kv0 dc0 pm0 an0 cd0 ct0), sl0⟩) (c0 : PySem.W.codeIn K cd0 "_wall" = true) (k0 : PySem.W.keepIn K (.ref f0) = true)
    (a1 : PySem.W.nsIn K mainGlobals "tokenize" = some (some (.ref f1))) (l1 : K.lookup f1 = some ⟨oc1, od1, .func (PySem.W.fnOf "tokenize" "tokenize" (defArgs s_tokenize) (defBody s_tokenize) (defScope s_tokenize) .none kv1 dc1 pm1 an1 cd1 ct1), sl1⟩) (c1 : PySem.W.codeIn K cd1 "tokenize" = true) (k1 : PySem.W.keepIn K (.ref f1) = true)
    (a2 : PySem.W.nsIn K mainGlobals "is_name" = some (some (.ref f2))) (l2 : K.lookup f2 = some ⟨oc2, od2, .func (PySem.W.fnOf "is_name" "is_name" (defArgs s_is_name) (defBody s_is_name) (defScope s_is_name) .none kv2 dc2 pm2 an2 cd2 ct2), sl2⟩) (c2 : PySem.W.codeIn K cd2 "is_name" = true) (k2 : PySem.W.keepIn K (.ref f2) = true)
    (a3 : PySem.W.nsIn K mainGlobals "is_numeral" = some (some (.ref f3))) (l3 : K.lookup f3 = some ⟨oc3, od3, .func (PySem.W.fnOf "is_numeral" "is_numeral" (defArgs s_is_numeral) (defBody s_is_numeral) (defScope s_is_numeral) .none kv3 dc3 pm3 an3 cd3 ct3), sl3⟩) (c3 : PySem.W.codeIn K cd3 "is_numeral" = true) (k3 : PySem.W.keepIn K (.ref f3) = true)
    (a4 : PySem.W.nsIn K mainGlobals "is_word" = some (some (.ref f4))) (l4 : K.lookup f4 = some ⟨oc4, od4, .func (PySem.W.fnOf "is_word" "is_word" (defArgs s_is_word) (defBody s_is_word) (defScope s_is_word) .none kv4 dc4 pm4 an4 cd4 ct4), sl4⟩) (c4 : PySem.W.codeIn K cd4 "is_word" = true) (k4 : PySem.W.keepIn K (.ref f4) = true)
    (a5 : PySem.W.nsIn K mainGlobals "_token_at" = some (some (.ref f5))) (l5 : K.lookup f5 = some ⟨oc5, od5, .func (PySem.W.fnOf "_token_at" "_token_at" (defArgs s_token_at) (defBody s_token_at) (defScope s_token_at) .none kv5 dc5 pm5 an5 cd5 ct5), sl5⟩) (c5 : PySem.W.codeIn K cd5 "_token_at" = true) (k5 : PySem.W.keepIn K (.ref f5) = true)
    (a6 : PySem.W.nsIn K mainGlobals "_run_end" = some (some (.ref f6))) (l6 : K.lookup f6 = some ⟨oc6, od6, .func (PySem.W.fnOf "_run_end" "_run_end" (defArgs s_run_end) (defBody s_run_end) (defScope s_run_end) .none kv6 dc6 pm6 an6 cd6 ct6), sl6⟩) (c6 : PySem.W.codeIn K cd6 "_run_end" = true) (k6 : PySem.W.keepIn K (.ref f6) = true)
    (a7 : PySem.W.nsIn K mainGlobals "_line_end" = some (some (.ref f7))) (l7 : K.lookup f7 = some ⟨oc7, od7, .func (PySem.W.fnOf "_line_end" "_line_end" (defArgs s_line_end) (defBody s_line_end) (defScope s_line_end) .none kv7 dc7 pm7 an7 cd7 ct7), sl7⟩) (c7 : PySem.W.codeIn K cd7 "_line_end" = true) (k7 : PySem.W.keepIn K (.ref f7) = true)
    (a8 : PySem.W.nsIn K mainGlobals "height" = some (some (.ref f8))) (l8 : K.lookup f8 = some ⟨oc8, od8, .func (PySem.W.fnOf "height" "height" (defArgs s_height) (defBody s_height) (defScope s_height) .none kv8 dc8 pm8 an8 cd8 ct8), sl8⟩) (c8 : PySem.W.codeIn K cd8 "height" = true) (k8 : PySem.W.keepIn K (.ref f8) = true)
    (a9 : PySem.W.nsIn K mainGlobals "operands" = some (some (.ref f9))) (l9 : K.lookup f9 = some ⟨oc9, od9, .func (PySem.W.fnOf "operands" "operands" (defArgs s_operands) (defBody s_operands) (defScope s_operands) .none kv9 dc9 pm9 an9 cd9 ct9), sl9⟩) (c9 : PySem.W.codeIn K cd9 "operands" = true) (k9 : PySem.W.keepIn K (.ref f9) = true)
    (a10 : PySem.W.nsIn K mainGlobals "postorder" = some (some (.ref f10))) (l10 : K.lookup f10 = some ⟨oc10, od10, .func (PySem.W.fnOf "postorder" "postorder" (defArgs s_postorder) (defBody s_postorder) (defScope s_postorder) .none kv10 dc10 pm10 an10 cd10 ct10), sl10⟩) (c10 : PySem.W.codeIn K cd10 "postorder" = true) (k10 : PySem.W.keepIn K (.ref f10) = true)
    (a11 : PySem.W.nsIn K mainGlobals "parse_expression" = some (some (.ref f11))) (l11 : K.lookup f11 = some ⟨oc11, od11, .func (PySem.W.fnOf "parse_expression" "parse_expression" (defArgs s_parse_expression) (defBody s_parse_expression) (defScope s_parse_expression) .none kv11 dc11 pm11 an11 cd11 ct11), sl11⟩) (c11 : PySem.W.codeIn K cd11 "parse_expression" = true) (k11 : PySem.W.keepIn K (.ref f11) = true)
    (a12 : PySem.W.nsIn K mainGlobals "_reader" = some (some (.ref f12))) (l12 : K.lookup f12 = some ⟨oc12, od12, .func (PySem.W.fnOf "_reader" "_reader" (defArgs s_reader) (defBody s_reader) (defScope s_reader) .none kv12 dc12 pm12 an12 cd12 ct12), sl12⟩) (c12 : PySem.W.codeIn K cd12 "_reader" = true) (k12 : PySem.W.keepIn K (.ref f12) = true)
    (a13 : PySem.W.nsIn K mainGlobals "_check_brackets" = some (some (.ref f13))) (l13 : K.lookup f13 = some ⟨oc13, od13, .func (PySem.W.fnOf "_check_brackets" "_check_brackets" (defArgs s_check_brackets) (defBody s_check_brackets) (defScope s_check_brackets) .none kv13 dc13 pm13 an13 cd13 ct13), sl13⟩) (c13 : PySem.W.codeIn K cd13 "_check_brackets" = true) (k13 : PySem.W.keepIn K (.ref f13) = true)
    (a14 : PySem.W.nsIn K mainGlobals "_check_height" = some (some (.ref f14))) (l14 : K.lookup f14 = some ⟨oc14, od14, .func (PySem.W.fnOf "_check_height" "_check_height" (defArgs s_check_height) (defBody s_check_height) (defScope s_check_height) .none kv14 dc14 pm14 an14 cd14 ct14), sl14⟩) (c14 : PySem.W.codeIn K cd14 "_check_height" = true) (k14 : PySem.W.keepIn K (.ref f14) = true)
    {dT15 : Addr} {dtk15 : Tok} {dtn15 : Nat} {dtc15 : Value} {dtd15 : Option Addr} {dtsl15 : Array (Option Value)}
    (a15 : PySem.W.nsIn K mainGlobals "_expression" = some (some (.ref f15))) (l15 : K.lookup f15 = some ⟨oc15, od15, .func (PySem.W.fnOf "_expression" "_expression" (defArgs s_expression) (defBody s_expression) (defScope s_expression) (.ref dT15) kv15 dc15 pm15 an15 cd15 ct15), sl15⟩) (c15 : PySem.W.codeIn K cd15 "_expression" = true) (k15 : PySem.W.keepIn K (.ref f15) = true) (t15 : K.lookup dT15 = some ⟨dtc15, dtd15, .seq #[.int 0 dtk15] dtn15, dtsl15⟩)
    (a16 : PySem.W.nsIn K mainGlobals "_factor" = some (some (.ref f16))) (l16 : K.lookup f16 = some ⟨oc16, od16, .func (PySem.W.fnOf "_factor" "_factor" (defArgs s_factor) (defBody s_factor) (defScope s_factor) .none kv16 dc16 pm16 an16 cd16 ct16), sl16⟩) (c16 : PySem.W.codeIn K cd16 "_factor" = true) (k16 : PySem.W.keepIn K (.ref f16) = true)
    (a17 : PySem.W.nsIn K mainGlobals "_atom" = some (some (.ref f17))) (l17 : K.lookup f17 = some ⟨oc17, od17, .func (PySem.W.fnOf "_atom" "_atom" (defArgs s_atom) (defBody s_atom) (defScope s_atom) .none kv17 dc17 pm17 an17 cd17 ct17), sl17⟩) (c17 : PySem.W.codeIn K cd17 "_atom" = true) (k17 : PySem.W.keepIn K (.ref f17) = true)
    (a18 : PySem.W.nsIn K mainGlobals "_law_pool" = some (some (.ref f18))) (l18 : K.lookup f18 = some ⟨oc18, od18, .func (PySem.W.fnOf "_law_pool" "_law_pool" (defArgs s_law_pool) (defBody s_law_pool) (defScope s_law_pool) .none kv18 dc18 pm18 an18 cd18 ct18), sl18⟩) (c18 : PySem.W.codeIn K cd18 "_law_pool" = true) (k18 : PySem.W.keepIn K (.ref f18) = true)
    (a19 : PySem.W.nsIn K mainGlobals "_law_spread" = some (some (.ref f19))) (l19 : K.lookup f19 = some ⟨oc19, od19, .func (PySem.W.fnOf "_law_spread" "_law_spread" (defArgs s_law_spread) (defBody s_law_spread) (defScope s_law_spread) .none kv19 dc19 pm19 an19 cd19 ct19), sl19⟩) (c19 : PySem.W.codeIn K cd19 "_law_spread" = true) (k19 : PySem.W.keepIn K (.ref f19) = true)
    (a20 : PySem.W.nsIn K mainGlobals "_law_draw" = some (some (.ref f20))) (l20 : K.lookup f20 = some ⟨oc20, od20, .func (PySem.W.fnOf "_law_draw" "_law_draw" (defArgs s_law_draw) (defBody s_law_draw) (defScope s_law_draw) .none kv20 dc20 pm20 an20 cd20 ct20), sl20⟩) (c20 : PySem.W.codeIn K cd20 "_law_draw" = true) (k20 : PySem.W.keepIn K (.ref f20) = true)
    (a21 : PySem.W.nsIn K mainGlobals "_law_same" = some (some (.ref f21))) (l21 : K.lookup f21 = some ⟨oc21, od21, .func (PySem.W.fnOf "_law_same" "_law_same" (defArgs s_law_same) (defBody s_law_same) (defScope s_law_same) .none kv21 dc21 pm21 an21 cd21 ct21), sl21⟩) (c21 : PySem.W.codeIn K cd21 "_law_same" = true) (k21 : PySem.W.keepIn K (.ref f21) = true)
    (a22 : PySem.W.nsIn K mainGlobals "_law_word" = some (some (.ref f22))) (l22 : K.lookup f22 = some ⟨oc22, od22, .func (PySem.W.fnOf "_law_word" "_law_word" (defArgs s_law_word) (defBody s_law_word) (defScope s_law_word) .none kv22 dc22 pm22 an22 cd22 ct22), sl22⟩) (c22 : PySem.W.codeIn K cd22 "_law_word" = true) (k22 : PySem.W.keepIn K (.ref f22) = true)
    (a23 : PySem.W.nsIn K mainGlobals "_law_told" = some (some (.ref f23))) (l23 : K.lookup f23 = some ⟨oc23, od23, .func (PySem.W.fnOf "_law_told" "_law_told" (defArgs s_law_told) (defBody s_law_told) (defScope s_law_told) .none kv23 dc23 pm23 an23 cd23 ct23), sl23⟩) (c23 : PySem.W.codeIn K cd23 "_law_told" = true) (k23 : PySem.W.keepIn K (.ref f23) = true)
    (a24 : PySem.W.nsIn K mainGlobals "_law_boxes" = some (some (.ref f24))) (l24 : K.lookup f24 = some ⟨oc24, od24, .func (PySem.W.fnOf "_law_boxes" "_law_boxes" (defArgs s_law_boxes) (defBody s_law_boxes) (defScope s_law_boxes) .none kv24 dc24 pm24 an24 cd24 ct24), sl24⟩) (c24 : PySem.W.codeIn K cd24 "_law_boxes" = true) (k24 : PySem.W.keepIn K (.ref f24) = true)
    (a25 : PySem.W.nsIn K mainGlobals "_law_nots" = some (some (.ref f25))) (l25 : K.lookup f25 = some ⟨oc25, od25, .func (PySem.W.fnOf "_law_nots" "_law_nots" (defArgs s_law_nots) (defBody s_law_nots) (defScope s_law_nots) .none kv25 dc25 pm25 an25 cd25 ct25), sl25⟩) (c25 : PySem.W.codeIn K cd25 "_law_nots" = true) (k25 : PySem.W.keepIn K (.ref f25) = true)
    (a26 : PySem.W.nsIn K mainGlobals "_law_chain" = some (some (.ref f26))) (l26 : K.lookup f26 = some ⟨oc26, od26, .func (PySem.W.fnOf "_law_chain" "_law_chain" (defArgs s_law_chain) (defBody s_law_chain) (defScope s_law_chain) .none kv26 dc26 pm26 an26 cd26 ct26), sl26⟩) (c26 : PySem.W.codeIn K cd26 "_law_chain" = true) (k26 : PySem.W.keepIn K (.ref f26) = true)
    (a27 : PySem.W.nsIn K mainGlobals "law" = some (some (.ref f27))) (l27 : K.lookup f27 = some ⟨oc27, od27, .func (PySem.W.fnOf "law" "law" (defArgs s_law) (defBody s_law) (defScope s_law) .none kv27 dc27 pm27 an27 cd27 ct27), sl27⟩) (c27 : PySem.W.codeIn K cd27 "law" = true) (k27 : PySem.W.keepIn K (.ref f27) = true)
    {ca0 : Addr} {cdd0 : Option Addr} {cn0 : Nat} {csl0 : Array (Option Value)} {ct0_0 ct0_1 ct0_2 ct0_3 ct0_4 ct0_5 ct0_6 ct0_7 ct0_8 ct0_9 ct0_10 : Tok} (g0 : PySem.W.nsIn K mainGlobals "KEYWORDS" = some (some (.ref ca0))) (h0 : K.lookup ca0 = some ⟨.type "tuple", cdd0, .seq #[.str "cell" ct0_0, .str "pin" ct0_1, .str "module" ct0_2, .str "gate" ct0_3, .str "part" ct0_4, .str "reg" ct0_5, .str "edge" ct0_6, .str "out" ct0_7, .str "setup" ct0_8, .str "hold" ct0_9, .str "start" ct0_10] cn0, csl0⟩)
    {ca1 : Addr} {cdd1 : Option Addr} {cn1 : Nat} {csl1 : Array (Option Value)} {ct1_0 ct1_1 ct1_2 ct1_3 ct1_4 ct1_5 ct1_6 ct1_7 ct1_8 ct1_9 ct1_10 ct1_11 ct1_12 ct1_13 : Tok} (g1 : PySem.W.nsIn K mainGlobals "SIGNS" = some (some (.ref ca1))) (h1 : K.lookup ca1 = some ⟨.type "tuple", cdd1, .seq #[.str "(" ct1_0, .str ")" ct1_1, .str "{" ct1_2, .str "}" ct1_3, .str "," ct1_4, .str ";" ct1_5, .str ":" ct1_6, .str "=" ct1_7, .str "->" ct1_8, .str ".." ct1_9, .str "&" ct1_10, .str "|" ct1_11, .str "^" ct1_12, .str "!" ct1_13] cn1, csl1⟩)
    {ct2 : Tok} (g2 : PySem.W.nsIn K mainGlobals "LETTERS" = some (some (.str "abcdefghijklmnopqrstuvwxyz" ct2)))
    {ct3 : Tok} (g3 : PySem.W.nsIn K mainGlobals "DIGITS" = some (some (.str "0123456789" ct3)))
    {ct4 : Tok} (g4 : PySem.W.nsIn K mainGlobals "RUN_CHARACTERS" = some (some (.str "abcdefghijklmnopqrstuvwxyz0123456789_" ct4)))
    {ct5 : Tok} (g5 : PySem.W.nsIn K mainGlobals "MOST_DIGITS" = some (some (.int 9 ct5)))
    {ct6 : Tok} (g6 : PySem.W.nsIn K mainGlobals "MOST_BRACKETS" = some (some (.int 20 ct6)))
    {ct7 : Tok} (g7 : PySem.W.nsIn K mainGlobals "MOST_NEGATIONS" = some (some (.int 20 ct7)))
    {ct8 : Tok} (g8 : PySem.W.nsIn K mainGlobals "MOST_HEIGHT" = some (some (.int 20 ct8)))
    {ca9 cb9_0 cb9_1 cb9_2 : Addr} {cdd9 : Option Addr} {cn9 : Nat} {csl9 : Array (Option Value)} (g9 : PySem.W.nsIn K mainGlobals "BINARY" = some (some (.ref ca9))) (h9 : K.lookup ca9 = some ⟨.type "tuple", cdd9, .seq #[.ref cb9_0, .ref cb9_1, .ref cb9_2] cn9, csl9⟩)
    {cdd9_0 : Option Addr} {cn9_0 : Nat} {csl9_0 : Array (Option Value)} {cu9_0_0 cu9_0_1 : Tok} (h9_0 : K.lookup cb9_0 = some ⟨.type "tuple", cdd9_0, .seq #[.str "|" cu9_0_0, .str "or" cu9_0_1] cn9_0, csl9_0⟩)
    {cdd9_1 : Option Addr} {cn9_1 : Nat} {csl9_1 : Array (Option Value)} {cu9_1_0 cu9_1_1 : Tok} (h9_1 : K.lookup cb9_1 = some ⟨.type "tuple", cdd9_1, .seq #[.str "^" cu9_1_0, .str "xor" cu9_1_1] cn9_1, csl9_1⟩)
    {cdd9_2 : Option Addr} {cn9_2 : Nat} {csl9_2 : Array (Option Value)} {cu9_2_0 cu9_2_1 : Tok} (h9_2 : K.lookup cb9_2 = some ⟨.type "tuple", cdd9_2, .seq #[.str "&" cu9_2_0, .str "and" cu9_2_1] cn9_2, csl9_2⟩)
    {iC0 iD0_0 iD0_1 iD0_2 iD0_3 : Addr} (w0_0 : PySem.W.nsIn K mainGlobals "TooDeep" = some (some (.ref iC0))) (w0_1 : PySem.W.excIn K iC0 [.type "ValueError", .type "Exception", .type "BaseException", .type "object"] "ValueError.__new__" = true) (w0_2 : PySem.W.keepIn K (.ref iC0) = true) (w0_3 : PySem.W.subIn K (.ref iC0) (.type "BaseException") = some true) (w0_4 : PySem.W.typeIn K (.ref iC0) = some (.type "type")) (w0_5 : PySem.W.hasDictIn K iC0 = true) (w0_6 : PySem.W.subIn K (.ref iC0) (.ref iC0) = some true) (w0_7 : PySem.W.findIn K (.ref iC0) "__getattribute__" = some (some (.builtin "BaseException.__getattribute__"))) (w0_8 : PySem.W.findIn K (.ref iC0) "__getattr__" = some none) (w0_9 : PySem.W.findIn K (.ref iC0) "__class__" = some (some (.builtin "object.__class__"))) (w0_10 : PySem.W.specialIn K (.builtin "object.__class__") "__get__" = some (some (.builtin "getset_descriptor.__get__"))) (w0_11 : PySem.W.takesIn K (.builtin "object.__class__") = some true) (w0_12 : PySem.W.mroIn K iC0 (.type "object") = some true) (w0_13 : PySem.W.nsIn K mainGlobals "BadToken" = some (some (.ref iD0_0))) (w0_14 : PySem.W.kitOne K (.ref iC0) (.ref iD0_0) = some false) (w0_15 : PySem.W.nsIn K mainGlobals "TooDeep" = some (some (.ref iD0_1))) (w0_16 : PySem.W.kitOne K (.ref iC0) (.ref iD0_1) = some true) (w0_17 : PySem.W.nsIn K mainGlobals "BadSyntax" = some (some (.ref iD0_2))) (w0_18 : PySem.W.kitOne K (.ref iC0) (.ref iD0_2) = some false) (w0_19 : PySem.W.nsIn K mainGlobals "SignoffError" = some (some (.ref iD0_3))) (w0_20 : PySem.W.subIn K (.ref iD0_3) (.type "BaseException") = some true) (w0_21 : PySem.W.hasDictIn K iD0_3 = true) (w0_22 : PySem.W.typeIn K (.ref iD0_3) = some (.type "type")) (w0_23 : PySem.W.subIn K (.ref iC0) (.ref iD0_3) = some true)
    {eC0 fe0 cdae0 cce0 : Addr} {ode0 ane0 od2e0 od3e0 : Option Addr} {sle0 sl2e0 sl3e0 : Array (Option Value)} {vse0 : Array Value} {filee0 : Str} {tfe0 : Tok} {oce0 kve0 dce0 pme0 cte0 oc2e0 oc3e0 : Value} {eD0_0 eD0_1 eD0_2 eD0_3 : Addr} (q0_0 : PySem.W.nsIn K mainGlobals "BadToken" = some (some (.ref eC0))) (q0_1 : PySem.W.findIn K (.ref eC0) "__init__" = some (some (.ref fe0))) (q0_2 : K.lookup fe0 = some ⟨oce0, ode0, .func (PySem.W.fnX "__init__" "BadToken.__init__" (defArgs s_BadToken_init) (defBody s_BadToken_init) (defScope s_BadToken_init) [("__class__", cce0)] .none kve0 dce0 pme0 ane0 (.ref cdae0) cte0), sle0⟩) (q0_3 : PySem.W.codeIn K (.ref cdae0) "BadToken.__init__" = true) (q0_4 : K.lookup cdae0 = some ⟨oc2e0, od2e0, .fields vse0, sl2e0⟩) (q0_5 : vse0[2]? = some (.str filee0 tfe0)) (q0_6 : K.lookup cce0 = some ⟨oc3e0, od3e0, .cell (some (.ref eC0)), sl3e0⟩) (q0_7 : oexB K eC0 = true) (q0_8 : PySem.W.findIn K (.ref eC0) "__setattr__" = some (some (.builtin "object.__setattr__"))) (q0_9 : PySem.W.subIn K (.ref eC0) (.type "BaseException") = some true) (q0_10 : PySem.W.typeIn K (.ref eC0) = some (.type "type")) (q0_11 : PySem.W.keepIn K (.ref eC0) = true) (q0_12 : PySem.W.typeIn K (.ref fe0) = some (.type "function")) (q0_13 : PySem.W.nsIn K mainGlobals "super" = some none) (q0_14 : PySem.W.nsIn K cStatics "thirdparty.any" = some none) (q0_15 : PySem.W.subIn K (.ref eC0) (.type "ValueError") = some true) (q0_16 : PySem.W.mroIn K eC0 (.ref eC0) = some true) (q0_17 : PySem.W.ks_superIn K eC0 eC0 "__init__" = some (some (.builtin "ValueError.__init__"))) (q0_18 : PySem.W.findIn K (.ref eC0) "at" = some none) (q0_19 : PySem.W.hasDictIn K eC0 = true) (q0_20 : PySem.W.findIn K (.ref eC0) "__getattribute__" = some (some (.builtin "BaseException.__getattribute__"))) (q0_21 : PySem.W.findIn K (.ref eC0) "__getattr__" = some none) (q0_22 : PySem.W.findIn K (.ref eC0) "__class__" = some (some (.builtin "object.__class__"))) (q0_23 : PySem.W.specialIn K (.builtin "object.__class__") "__get__" = some (some (.builtin "getset_descriptor.__get__"))) (q0_24 : PySem.W.takesIn K (.builtin "object.__class__") = some true) (q0_25 : PySem.W.mroIn K eC0 (.type "object") = some true) (q0_26 : ((l.prog.main.file : Str) == filee0) = true) (q0_27 : (l.prog.main.scope.names.lookup ("super" : Str)).isSome = false) (q0_28 : PySem.W.nsIn K mainGlobals "BadToken" = some (some (.ref eD0_0))) (q0_29 : PySem.W.kitOne K (.ref eC0) (.ref eD0_0) = some true) (q0_30 : PySem.W.nsIn K mainGlobals "TooDeep" = some (some (.ref eD0_1))) (q0_31 : PySem.W.kitOne K (.ref eC0) (.ref eD0_1) = some false) (q0_32 : PySem.W.nsIn K mainGlobals "BadSyntax" = some (some (.ref eD0_2))) (q0_33 : PySem.W.kitOne K (.ref eC0) (.ref eD0_2) = some false) (q0_34 : PySem.W.nsIn K mainGlobals "SignoffError" = some (some (.ref eD0_3))) (q0_35 : PySem.W.subIn K (.ref eD0_3) (.type "BaseException") = some true) (q0_36 : PySem.W.hasDictIn K eD0_3 = true) (q0_37 : PySem.W.typeIn K (.ref eD0_3) = some (.type "type")) (q0_38 : PySem.W.subIn K (.ref eC0) (.ref eD0_3) = some true)
    {eC1 fe1 cdae1 cce1 : Addr} {ode1 ane1 od2e1 od3e1 : Option Addr} {sle1 sl2e1 sl3e1 : Array (Option Value)} {vse1 : Array Value} {filee1 : Str} {tfe1 : Tok} {oce1 kve1 dce1 pme1 cte1 oc2e1 oc3e1 : Value} {eD1_0 eD1_1 eD1_2 eD1_3 : Addr} (q1_0 : PySem.W.nsIn K mainGlobals "BadSyntax" = some (some (.ref eC1))) (q1_1 : PySem.W.findIn K (.ref eC1) "__init__" = some (some (.ref fe1))) (q1_2 : K.lookup fe1 = some ⟨oce1, ode1, .func (PySem.W.fnX "__init__" "BadSyntax.__init__" (defArgs s_BadSyntax_init) (defBody s_BadSyntax_init) (defScope s_BadSyntax_init) [("__class__", cce1)] .none kve1 dce1 pme1 ane1 (.ref cdae1) cte1), sle1⟩) (q1_3 : PySem.W.codeIn K (.ref cdae1) "BadSyntax.__init__" = true) (q1_4 : K.lookup cdae1 = some ⟨oc2e1, od2e1, .fields vse1, sl2e1⟩) (q1_5 : vse1[2]? = some (.str filee1 tfe1)) (q1_6 : K.lookup cce1 = some ⟨oc3e1, od3e1, .cell (some (.ref eC1)), sl3e1⟩) (q1_7 : oexB K eC1 = true) (q1_8 : PySem.W.findIn K (.ref eC1) "__setattr__" = some (some (.builtin "object.__setattr__"))) (q1_9 : PySem.W.subIn K (.ref eC1) (.type "BaseException") = some true) (q1_10 : PySem.W.typeIn K (.ref eC1) = some (.type "type")) (q1_11 : PySem.W.keepIn K (.ref eC1) = true) (q1_12 : PySem.W.typeIn K (.ref fe1) = some (.type "function")) (q1_13 : PySem.W.nsIn K mainGlobals "super" = some none) (q1_14 : PySem.W.nsIn K cStatics "thirdparty.any" = some none) (q1_15 : PySem.W.subIn K (.ref eC1) (.type "ValueError") = some true) (q1_16 : PySem.W.mroIn K eC1 (.ref eC1) = some true) (q1_17 : PySem.W.ks_superIn K eC1 eC1 "__init__" = some (some (.builtin "ValueError.__init__"))) (q1_18 : PySem.W.findIn K (.ref eC1) "at" = some none) (q1_19 : PySem.W.hasDictIn K eC1 = true) (q1_20 : PySem.W.findIn K (.ref eC1) "__getattribute__" = some (some (.builtin "BaseException.__getattribute__"))) (q1_21 : PySem.W.findIn K (.ref eC1) "__getattr__" = some none) (q1_22 : PySem.W.findIn K (.ref eC1) "__class__" = some (some (.builtin "object.__class__"))) (q1_23 : PySem.W.specialIn K (.builtin "object.__class__") "__get__" = some (some (.builtin "getset_descriptor.__get__"))) (q1_24 : PySem.W.takesIn K (.builtin "object.__class__") = some true) (q1_25 : PySem.W.mroIn K eC1 (.type "object") = some true) (q1_26 : ((l.prog.main.file : Str) == filee1) = true) (q1_27 : (l.prog.main.scope.names.lookup ("super" : Str)).isSome = false) (q1_28 : PySem.W.nsIn K mainGlobals "BadToken" = some (some (.ref eD1_0))) (q1_29 : PySem.W.kitOne K (.ref eC1) (.ref eD1_0) = some false) (q1_30 : PySem.W.nsIn K mainGlobals "TooDeep" = some (some (.ref eD1_1))) (q1_31 : PySem.W.kitOne K (.ref eC1) (.ref eD1_1) = some false) (q1_32 : PySem.W.nsIn K mainGlobals "BadSyntax" = some (some (.ref eD1_2))) (q1_33 : PySem.W.kitOne K (.ref eC1) (.ref eD1_2) = some true) (q1_34 : PySem.W.nsIn K mainGlobals "SignoffError" = some (some (.ref eD1_3))) (q1_35 : PySem.W.subIn K (.ref eD1_3) (.type "BaseException") = some true) (q1_36 : PySem.W.hasDictIn K eD1_3 = true) (q1_37 : PySem.W.typeIn K (.ref eD1_3) = some (.type "type")) (q1_38 : PySem.W.subIn K (.ref eC1) (.ref eD1_3) = some true)
    {yC0 : Addr} {f0m0 : Addr} {od0m0 an0m0 : Option Addr} {sl0m0 : Array (Option Value)} {oc0m0 kv0m0 dc0m0 pm0m0 cd0m0 ct0m0 : Value} {f0m1 : Addr} {od0m1 an0m1 : Option Addr} {sl0m1 : Array (Option Value)} {oc0m1 kv0m1 dc0m1 pm0m1 cd0m1 ct0m1 : Value} {f0m2 : Addr} {od0m2 an0m2 : Option Addr} {sl0m2 : Array (Option Value)} {oc0m2 kv0m2 dc0m2 pm0m2 cd0m2 ct0m2 : Value} {f0m3 : Addr} {od0m3 an0m3 : Option Addr} {sl0m3 : Array (Option Value)} {oc0m3 kv0m3 dc0m3 pm0m3 cd0m3 ct0m3 : Value} {f0m4 : Addr} {od0m4 an0m4 : Option Addr} {sl0m4 : Array (Option Value)} {oc0m4 kv0m4 dc0m4 pm0m4 cd0m4 ct0m4 : Value} {f0m5 : Addr} {od0m5 an0m5 : Option Addr} {sl0m5 : Array (Option Value)} {oc0m5 kv0m5 dc0m5 pm0m5 cd0m5 ct0m5 : Value} {f0m6 : Addr} {od0m6 an0m6 : Option Addr} {sl0m6 : Array (Option Value)} {oc0m6 kv0m6 dc0m6 pm0m6 cd0m6 ct0m6 : Value}
    (y0_0 : PySem.W.nsIn K mainGlobals "TokenReader" = some (some (.ref yC0))) (y0_4 : PySem.W.findIn K (.ref yC0) "__setattr__" = some (some (.builtin "object.__setattr__"))) (y0_10 : PySem.W.findIn K (.ref yC0) "__init__" = some (some (.ref f0m0))) (y0_15 : PySem.W.findIn K (.ref yC0) "ahead" = some (some (.ref f0m1))) (y0_20 : PySem.W.findIn K (.ref yC0) "take" = some (some (.ref f0m2))) (y0_25 : PySem.W.findIn K (.ref yC0) "take_if" = some (some (.ref f0m3))) (y0_30 : PySem.W.findIn K (.ref yC0) "take_name" = some (some (.ref f0m4))) (y0_35 : PySem.W.findIn K (.ref yC0) "take_bit" = some (some (.ref f0m5))) (y0_40 : PySem.W.findIn K (.ref yC0) "take_end" = some (some (.ref f0m6))) (y0_42 : PySem.W.findIn K (.ref yC0) "tokens" = some none) (y0_43 : PySem.W.findIn K (.ref yC0) "at" = some none) (y0_1 : PySem.W.plainGet K yC0 Str.empty = true) (y0_2 : PySem.W.hasDictIn K yC0 = true) (y0_3 : PySem.W.plainOver K yC0 = true) (y0_5 : PySem.W.makesIn K yC0 = true) (y0_6 : PySem.W.keepIn K (.ref yC0) = true) (y0_7 : K.lookup f0m0 = some ⟨oc0m0, od0m0, .func (PySem.W.fnOf "__init__" "TokenReader.__init__" (defArgs s_TokenReader_init) (defBody s_TokenReader_init) (defScope s_TokenReader_init) .none kv0m0 dc0m0 pm0m0 an0m0 cd0m0 ct0m0), sl0m0⟩) (y0_8 : PySem.W.codeIn K cd0m0 "TokenReader.__init__" = true) (y0_9 : PySem.W.keepIn K (.ref f0m0) = true) (y0_11 : PySem.W.isFn K (.ref f0m0) = true) (y0_12 : K.lookup f0m1 = some ⟨oc0m1, od0m1, .func (PySem.W.fnOf "ahead" "TokenReader.ahead" (defArgs s_TokenReader_ahead) (defBody s_TokenReader_ahead) (defScope s_TokenReader_ahead) .none kv0m1 dc0m1 pm0m1 an0m1 cd0m1 ct0m1), sl0m1⟩) (y0_13 : PySem.W.codeIn K cd0m1 "TokenReader.ahead" = true) (y0_14 : PySem.W.keepIn K (.ref f0m1) = true) (y0_16 : PySem.W.isFn K (.ref f0m1) = true) (y0_17 : K.lookup f0m2 = some ⟨oc0m2, od0m2, .func (PySem.W.fnOf "take" "TokenReader.take" (defArgs s_TokenReader_take) (defBody s_TokenReader_take) (defScope s_TokenReader_take) .none kv0m2 dc0m2 pm0m2 an0m2 cd0m2 ct0m2), sl0m2⟩) (y0_18 : PySem.W.codeIn K cd0m2 "TokenReader.take" = true) (y0_19 : PySem.W.keepIn K (.ref f0m2) = true) (y0_21 : PySem.W.isFn K (.ref f0m2) = true) (y0_22 : K.lookup f0m3 = some ⟨oc0m3, od0m3, .func (PySem.W.fnOf "take_if" "TokenReader.take_if" (defArgs s_TokenReader_take_if) (defBody s_TokenReader_take_if) (defScope s_TokenReader_take_if) .none kv0m3 dc0m3 pm0m3 an0m3 cd0m3 ct0m3), sl0m3⟩) (y0_23 : PySem.W.codeIn K cd0m3 "TokenReader.take_if" = true) (y0_24 : PySem.W.keepIn K (.ref f0m3) = true) (y0_26 : PySem.W.isFn K (.ref f0m3) = true) (y0_27 : K.lookup f0m4 = some ⟨oc0m4, od0m4, .func (PySem.W.fnOf "take_name" "TokenReader.take_name" (defArgs s_TokenReader_take_name) (defBody s_TokenReader_take_name) (defScope s_TokenReader_take_name) .none kv0m4 dc0m4 pm0m4 an0m4 cd0m4 ct0m4), sl0m4⟩) (y0_28 : PySem.W.codeIn K cd0m4 "TokenReader.take_name" = true) (y0_29 : PySem.W.keepIn K (.ref f0m4) = true) (y0_31 : PySem.W.isFn K (.ref f0m4) = true) (y0_32 : K.lookup f0m5 = some ⟨oc0m5, od0m5, .func (PySem.W.fnOf "take_bit" "TokenReader.take_bit" (defArgs s_TokenReader_take_bit) (defBody s_TokenReader_take_bit) (defScope s_TokenReader_take_bit) .none kv0m5 dc0m5 pm0m5 an0m5 cd0m5 ct0m5), sl0m5⟩) (y0_33 : PySem.W.codeIn K cd0m5 "TokenReader.take_bit" = true) (y0_34 : PySem.W.keepIn K (.ref f0m5) = true) (y0_36 : PySem.W.isFn K (.ref f0m5) = true) (y0_37 : K.lookup f0m6 = some ⟨oc0m6, od0m6, .func (PySem.W.fnOf "take_end" "TokenReader.take_end" (defArgs s_TokenReader_take_end) (defBody s_TokenReader_take_end) (defScope s_TokenReader_take_end) .none kv0m6 dc0m6 pm0m6 an0m6 cd0m6 ct0m6), sl0m6⟩) (y0_38 : PySem.W.codeIn K cd0m6 "TokenReader.take_end" = true) (y0_39 : PySem.W.keepIn K (.ref f0m6) = true) (y0_41 : PySem.W.isFn K (.ref f0m6) = true)
    (z0 : PySem.W.nsIn K mainGlobals "super" = some none) (z1 : PySem.W.nsIn K mainGlobals "len" = some none) (z2 : PySem.W.nsIn K mainGlobals "all" = some none) (z3 : PySem.W.nsIn K mainGlobals "max" = some none) (z4 : PySem.W.nsIn K mainGlobals "list" = some none) (z5 : PySem.W.nsIn K mainGlobals "range" = some none) (z6 : PySem.W.nsIn K mainGlobals "int" = some none) (z7 : PySem.W.nsIn K mainGlobals "isinstance" = some none) (z8 : PySem.W.nsIn K mainGlobals "tuple" = some none) (z9 : PySem.W.nsIn K mainGlobals "bool" = some none) (z10 : PySem.W.nsIn K mainGlobals "str" = some none) (z11 : PySem.W.nsIn K mainGlobals "ValueError" = some none) :
    ∃ fd : FuncData, (∀ (s : Shared) (v : Value), BindsTo s fd ⟨[v], []⟩ [("script", v)]) ∧ ∀ base : Heap, K.In base → base.Ns mainGlobals mg → FnOk l.prog w K mg base CX0 135 fa fd ["script"] (spLaw K) := by
  have e := hfa.symm.trans (PySem.W.mg_of X G a27)
  cases e
  have F0 := fun_mk (st := s_wall) l0 c0 k0
  have F1 := fun_mk (st := s_tokenize) l1 c1 k1
  have F2 := fun_mk (st := s_is_name) l2 c2 k2
  have F3 := fun_mk (st := s_is_numeral) l3 c3 k3
  have F4 := fun_mk (st := s_is_word) l4 c4 k4
  have F5 := fun_mk (st := s_token_at) l5 c5 k5
  have F6 := fun_mk (st := s_run_end) l6 c6 k6
  have F7 := fun_mk (st := s_line_end) l7 c7 k7
  have F8 := fun_mk (st := s_height) l8 c8 k8
  have F9 := fun_mk (st := s_operands) l9 c9 k9
  have F10 := fun_mk (st := s_postorder) l10 c10 k10
  have F11 := fun_mk (st := s_parse_expression) l11 c11 k11
  have F12 := fun_mk (st := s_reader) l12 c12 k12
  have F13 := fun_mk (st := s_check_brackets) l13 c13 k13
  have F14 := fun_mk (st := s_check_height) l14 c14 k14
  have F15 := dfl_mk (st := s_expression) l15 c15 k15 t15
  have F16 := fun_mk (st := s_factor) l16 c16 k16
  have F17 := fun_mk (st := s_atom) l17 c17 k17
  have F18 := fun_mk (st := s_law_pool) l18 c18 k18
  have F19 := fun_mk (st := s_law_spread) l19 c19 k19
  have F20 := fun_mk (st := s_law_draw) l20 c20 k20
  have F21 := fun_mk (st := s_law_same) l21 c21 k21
  have F22 := fun_mk (st := s_law_word) l22 c22 k22
  have F23 := fun_mk (st := s_law_told) l23 c23 k23
  have F24 := fun_mk (st := s_law_boxes) l24 c24 k24
  have F25 := fun_mk (st := s_law_nots) l25 c25 k25
  have F26 := fun_mk (st := s_law_chain) l26 c26 k26
  have F27 := fun_mk (st := s_law) l27 c27 k27
  have A : All K mg := ⟨⟨f0, _, F0, PySem.W.mg_of X G a0, F0.binds (ps := ["k"]) fun _ _ _ _ _ _ us hl => match us, hl with | [_], _ => rfl⟩,
    ⟨f1, _, F1, PySem.W.mg_of X G a1, F1.binds (ps := ["text"]) fun _ _ _ _ _ _ us hl => match us, hl with | [_], _ => rfl⟩,
    ⟨f2, _, F2, PySem.W.mg_of X G a2, F2.binds (ps := ["token"]) fun _ _ _ _ _ _ us hl => match us, hl with | [_], _ => rfl⟩,
    ⟨f3, _, F3, PySem.W.mg_of X G a3, F3.binds (ps := ["token"]) fun _ _ _ _ _ _ us hl => match us, hl with | [_], _ => rfl⟩,
    ⟨f4, _, F4, PySem.W.mg_of X G a4, F4.binds (ps := ["token"]) fun _ _ _ _ _ _ us hl => match us, hl with | [_], _ => rfl⟩,
    ⟨f5, _, F5, PySem.W.mg_of X G a5, F5.binds (ps := ["text", "at"]) fun _ _ _ _ _ _ us hl => match us, hl with | [_, _], _ => rfl⟩,
    ⟨f6, _, F6, PySem.W.mg_of X G a6, F6.binds (ps := ["text", "at"]) fun _ _ _ _ _ _ us hl => match us, hl with | [_, _], _ => rfl⟩,
    ⟨f7, _, F7, PySem.W.mg_of X G a7, F7.binds (ps := ["text", "at"]) fun _ _ _ _ _ _ us hl => match us, hl with | [_, _], _ => rfl⟩,
    ⟨f8, _, F8, PySem.W.mg_of X G a8, F8.binds (ps := ["tree"]) fun _ _ _ _ _ _ us hl => match us, hl with | [_], _ => rfl⟩,
    ⟨f9, _, F9, PySem.W.mg_of X G a9, F9.binds (ps := ["tree"]) fun _ _ _ _ _ _ us hl => match us, hl with | [_], _ => rfl⟩,
    ⟨f10, _, F10, PySem.W.mg_of X G a10, F10.binds (ps := ["tree"]) fun _ _ _ _ _ _ us hl => match us, hl with | [_], _ => rfl⟩,
    ⟨f11, _, F11, PySem.W.mg_of X G a11, F11.binds (ps := ["text"]) fun _ _ _ _ _ _ us hl => match us, hl with | [_], _ => rfl⟩,
    ⟨f12, _, F12, PySem.W.mg_of X G a12, F12.binds (ps := ["text"]) fun _ _ _ _ _ _ us hl => match us, hl with | [_], _ => rfl⟩,
    ⟨f13, _, F13, PySem.W.mg_of X G a13, F13.binds (ps := ["tokens"]) fun _ _ _ _ _ _ us hl => match us, hl with | [_], _ => rfl⟩,
    ⟨f14, _, F14, PySem.W.mg_of X G a14, F14.binds (ps := ["tree"]) fun _ _ _ _ _ _ us hl => match us, hl with | [_], _ => rfl⟩,
    ⟨f15, _, F15, PySem.W.mg_of X G a15, binds_full (FunD.binds1 (ps := ["reader", "level"]) F15 2 1 (by intro z; cases z) rfl fun _ _ _ _ _ _ _ us its h1 h2 => match us, its, h1, h2 with | [_, _], [_], _, _ => ⟨_, rfl, rfl⟩), FunD.binds1 (ps := ["reader", "level"]) F15 1 0 (by intro z; cases z) rfl fun _ _ _ _ _ _ _ us its h1 h2 => match us, its, h1, h2 with | [_], [_], _, _ => ⟨_, rfl, rfl⟩⟩,
    ⟨f16, _, F16, PySem.W.mg_of X G a16, F16.binds (ps := ["reader"]) fun _ _ _ _ _ _ us hl => match us, hl with | [_], _ => rfl⟩,
    ⟨f17, _, F17, PySem.W.mg_of X G a17, F17.binds (ps := ["reader"]) fun _ _ _ _ _ _ us hl => match us, hl with | [_], _ => rfl⟩,
    ⟨f18, _, F18, PySem.W.mg_of X G a18, F18.binds (ps := ["script"]) fun _ _ _ _ _ _ us hl => match us, hl with | [_], _ => rfl⟩,
    ⟨f19, _, F19, PySem.W.mg_of X G a19, F19.binds (ps := ["cell"]) fun _ _ _ _ _ _ us hl => match us, hl with | [_], _ => rfl⟩,
    ⟨f20, _, F20, PySem.W.mg_of X G a20, F20.binds (ps := ["pool", "many"]) fun _ _ _ _ _ _ us hl => match us, hl with | [_, _], _ => rfl⟩,
    ⟨f21, _, F21, PySem.W.mg_of X G a21, F21.binds (ps := ["actual", "due"]) fun _ _ _ _ _ _ us hl => match us, hl with | [_, _], _ => rfl⟩,
    ⟨f22, _, F22, PySem.W.mg_of X G a22, F22.binds (ps := ["pool"]) fun _ _ _ _ _ _ us hl => match us, hl with | [_], _ => rfl⟩,
    ⟨f23, _, F23, PySem.W.mg_of X G a23, F23.binds (ps := ["text"]) fun _ _ _ _ _ _ us hl => match us, hl with | [_], _ => rfl⟩,
    ⟨f24, _, F24, PySem.W.mg_of X G a24, F24.binds (ps := ["pool", "name"]) fun _ _ _ _ _ _ us hl => match us, hl with | [_, _], _ => rfl⟩,
    ⟨f25, _, F25, PySem.W.mg_of X G a25, F25.binds (ps := ["pool", "name"]) fun _ _ _ _ _ _ us hl => match us, hl with | [_, _], _ => rfl⟩,
    ⟨f26, _, F26, PySem.W.mg_of X G a26, F26.binds (ps := ["pool", "name"]) fun _ _ _ _ _ _ us hl => match us, hl with | [_, _], _ => rfl⟩,
    PySem.W.mg_none_of X G z0,
    PySem.W.mg_none_of X G z1,
    PySem.W.mg_none_of X G z2,
    PySem.W.mg_none_of X G z3,
    PySem.W.mg_none_of X G z4,
    PySem.W.mg_none_of X G z5,
    PySem.W.mg_none_of X G z6,
    PySem.W.mg_none_of X G z7,
    PySem.W.mg_none_of X G z8,
    PySem.W.mg_none_of X G z9,
    PySem.W.mg_none_of X G z10,
    PySem.W.mg_none_of X G z11,
    ⟨ca0, PySem.W.mg_of X G g0, fun _ => .inr ⟨_, _, _, h0, rfl, rfl, (by show 11 ≤ sizeLine; decide), (.cons ⟨_, rfl⟩ (.cons ⟨_, rfl⟩ (.cons ⟨_, rfl⟩ (.cons ⟨_, rfl⟩ (.cons ⟨_, rfl⟩ (.cons ⟨_, rfl⟩ (.cons ⟨_, rfl⟩ (.cons ⟨_, rfl⟩ (.cons ⟨_, rfl⟩ (.cons ⟨_, rfl⟩ (.cons ⟨_, rfl⟩ .nil)))))))))))⟩⟩,
    ⟨ca1, PySem.W.mg_of X G g1, fun _ => .inr ⟨_, _, _, h1, rfl, rfl, (by show 14 ≤ sizeLine; decide), (.cons ⟨_, rfl⟩ (.cons ⟨_, rfl⟩ (.cons ⟨_, rfl⟩ (.cons ⟨_, rfl⟩ (.cons ⟨_, rfl⟩ (.cons ⟨_, rfl⟩ (.cons ⟨_, rfl⟩ (.cons ⟨_, rfl⟩ (.cons ⟨_, rfl⟩ (.cons ⟨_, rfl⟩ (.cons ⟨_, rfl⟩ (.cons ⟨_, rfl⟩ (.cons ⟨_, rfl⟩ (.cons ⟨_, rfl⟩ .nil))))))))))))))⟩⟩,
    ⟨_, PySem.W.mg_of X G g2⟩,
    ⟨_, PySem.W.mg_of X G g3⟩,
    ⟨_, PySem.W.mg_of X G g4⟩,
    ⟨_, PySem.W.mg_of X G g5⟩,
    ⟨_, PySem.W.mg_of X G g6⟩,
    ⟨_, PySem.W.mg_of X G g7⟩,
    ⟨_, PySem.W.mg_of X G g8⟩,
    ⟨ca9, cb9_0, cb9_1, cb9_2, PySem.W.mg_of X G g9, fun _ => ⟨.inr ⟨_, _, _, h9, rfl, rfl, (by show 3 ≤ sizeLine; decide), (.cons rfl (.cons rfl (.cons rfl .nil)))⟩, .inr ⟨_, _, _, h9_0, rfl, rfl, (by show 2 ≤ sizeLine; decide), (.cons ⟨_, rfl⟩ (.cons ⟨_, rfl⟩ .nil))⟩, .inr ⟨_, _, _, h9_1, rfl, rfl, (by show 2 ≤ sizeLine; decide), (.cons ⟨_, rfl⟩ (.cons ⟨_, rfl⟩ .nil))⟩, .inr ⟨_, _, _, h9_2, rfl, rfl, (by show 2 ≤ sizeLine; decide), (.cons ⟨_, rfl⟩ (.cons ⟨_, rfl⟩ .nil))⟩⟩⟩,
    ⟨yC0, ⟨PySem.W.mg_of X G y0_0, ⟨y0_1, y0_2, y0_3, y0_4⟩, ⟨f0m0, _, ⟨y0_5, y0_10, y0_11, y0_6⟩, (fun_mk (st := s_TokenReader_init) y0_7 y0_8 y0_9), (fun_mk (st := s_TokenReader_init) y0_7 y0_8 y0_9).binds (ps := ["self", "tokens"]) fun _ _ _ _ _ _ us hl => match us, hl with | [_, _], _ => rfl⟩, ⟨f0m1, _, ⟨y0_15, y0_16, y0_14⟩, (fun_mk (st := s_TokenReader_ahead) y0_12 y0_13 y0_14), (fun_mk (st := s_TokenReader_ahead) y0_12 y0_13 y0_14).binds (ps := ["self"]) fun _ _ _ _ _ _ us hl => match us, hl with | [_], _ => rfl⟩, ⟨f0m2, _, ⟨y0_20, y0_21, y0_19⟩, (fun_mk (st := s_TokenReader_take) y0_17 y0_18 y0_19), (fun_mk (st := s_TokenReader_take) y0_17 y0_18 y0_19).binds (ps := ["self", "token"]) fun _ _ _ _ _ _ us hl => match us, hl with | [_, _], _ => rfl⟩, ⟨f0m3, _, ⟨y0_25, y0_26, y0_24⟩, (fun_mk (st := s_TokenReader_take_if) y0_22 y0_23 y0_24), (fun_mk (st := s_TokenReader_take_if) y0_22 y0_23 y0_24).binds (ps := ["self", "token"]) fun _ _ _ _ _ _ us hl => match us, hl with | [_, _], _ => rfl⟩, ⟨f0m4, _, ⟨y0_30, y0_31, y0_29⟩, (fun_mk (st := s_TokenReader_take_name) y0_27 y0_28 y0_29), (fun_mk (st := s_TokenReader_take_name) y0_27 y0_28 y0_29).binds (ps := ["self"]) fun _ _ _ _ _ _ us hl => match us, hl with | [_], _ => rfl⟩, ⟨f0m5, _, ⟨y0_35, y0_36, y0_34⟩, (fun_mk (st := s_TokenReader_take_bit) y0_32 y0_33 y0_34), (fun_mk (st := s_TokenReader_take_bit) y0_32 y0_33 y0_34).binds (ps := ["self"]) fun _ _ _ _ _ _ us hl => match us, hl with | [_], _ => rfl⟩, ⟨f0m6, _, ⟨y0_40, y0_41, y0_39⟩, (fun_mk (st := s_TokenReader_take_end) y0_37 y0_38 y0_39), (fun_mk (st := s_TokenReader_take_end) y0_37 y0_38 y0_39).binds (ps := ["self"]) fun _ _ _ _ _ _ us hl => match us, hl with | [_], _ => rfl⟩, y0_42, y0_43⟩⟩,
    ⟨iC0, ⟨⟨PySem.W.mg_of X G w0_0, w0_1, w0_2, w0_3, w0_4⟩, w0_5, w0_6, ⟨w0_7, w0_8, w0_3, w0_5, w0_9, w0_10, w0_11, w0_12⟩⟩, ⟨iD0_0, PySem.W.mg_of X G w0_13, w0_14⟩, ⟨iD0_1, PySem.W.mg_of X G w0_15, w0_16⟩, ⟨iD0_2, PySem.W.mg_of X G w0_17, w0_18⟩, ⟨iD0_3, PySem.W.mg_of X G w0_19, PySem.W.exm_ref w0_20 w0_21 w0_22 w0_23⟩⟩⟩
  have OX0 : ∃ (C f : Addr) (fd : FuncData), ErrF l.prog K mg "BadToken" "BadToken.__init__" C f fd s_BadToken_init "at" ∧ IsK K mg C "BadToken" true ∧ IsK K mg C "TooDeep" false ∧ IsK K mg C "BadSyntax" false ∧ CatchK K mg C "SignoffError" := ⟨eC0, fe0, _, ⟨PySem.W.mg_of X G q0_0, ⟨_, ⟨⟨oexB_ok q0_7, q0_8, q0_9, q0_10, q0_11⟩, q0_1, q0_12, PySem.W.mg_none_of X G q0_13, q0_14, q0_15, q0_16, q0_17, ⟨_, _, _, _, _, _, _, _, _, _, _, rfl, q0_2, q0_3, ⟨_, _, _, _, _, q0_4, q0_5⟩, _, _, _, q0_6⟩⟩, q0_26⟩, q0_27, .all fun us hl => match us, hl with | [_, _], _ => rfl, q0_18, ⟨q0_20, q0_21, q0_9, q0_19, q0_22, q0_23, q0_24, q0_25⟩⟩, ⟨eD0_0, PySem.W.mg_of X G q0_28, q0_29⟩, ⟨eD0_1, PySem.W.mg_of X G q0_30, q0_31⟩, ⟨eD0_2, PySem.W.mg_of X G q0_32, q0_33⟩, ⟨eD0_3, PySem.W.mg_of X G q0_34, PySem.W.exm_ref q0_35 q0_36 q0_37 q0_38⟩⟩
  have OX1 : ∃ (C f : Addr) (fd : FuncData), ErrF l.prog K mg "BadSyntax" "BadSyntax.__init__" C f fd s_BadSyntax_init "at" ∧ IsK K mg C "BadToken" false ∧ IsK K mg C "TooDeep" false ∧ IsK K mg C "BadSyntax" true ∧ CatchK K mg C "SignoffError" := ⟨eC1, fe1, _, ⟨PySem.W.mg_of X G q1_0, ⟨_, ⟨⟨oexB_ok q1_7, q1_8, q1_9, q1_10, q1_11⟩, q1_1, q1_12, PySem.W.mg_none_of X G q1_13, q1_14, q1_15, q1_16, q1_17, ⟨_, _, _, _, _, _, _, _, _, _, _, rfl, q1_2, q1_3, ⟨_, _, _, _, _, q1_4, q1_5⟩, _, _, _, q1_6⟩⟩, q1_26⟩, q1_27, .all fun us hl => match us, hl with | [_, _], _ => rfl, q1_18, ⟨q1_20, q1_21, q1_9, q1_19, q1_22, q1_23, q1_24, q1_25⟩⟩, ⟨eD1_0, PySem.W.mg_of X G q1_28, q1_29⟩, ⟨eD1_1, PySem.W.mg_of X G q1_30, q1_31⟩, ⟨eD1_2, PySem.W.mg_of X G q1_32, q1_33⟩, ⟨eD1_3, PySem.W.mg_of X G q1_34, PySem.W.exm_ref q1_35 q1_36 q1_37 q1_38⟩⟩
  exact ⟨_, fun s v => .of_eq rfl, fun base _ _ => glue A OX0 OX1 F27⟩
end G
open PySem PySem.W PyProof.Rows
set_option maxRecDepth 100000 in
set_option maxHeartbeats 0 in
theorem PySem.Challenge.cw_signoff_k08_depth_and_order_of_errors_holds : PySem.Challenge.rw_signoff_k08_depth_and_order_of_errors.Holds := by
  w_on; o_law; k_head; (case hw => w_witness2)
  k_fill
  refine L2.walk_of (l := PySem.Challenge.rw_signoff_k08_depth_and_order_of_errors) (n := 63) (k := 135) (x := "script") (CX := fun _ => L2.CX0) (sp := fun w => G.spLaw _) rfl (by decide) rfl ⟨rfl, by decide, by decide⟩ (fun w h Y => PySem.W.kIn_of Y) ?F (fun _ _ a ns hl _ hS => ⟨a, ns, rfl, hS, hl, fun _ => rfl⟩) (fun _ _ _ _ _ h => h)
  case F =>
    intro w mg fa h KX GN hmg
    refine' G.all_mk KX GN hmg ?a0 ?l0 ?c0 ?k0 ?a1 ?l1 ?c1 ?k1 ?a2 ?l2 ?c2 ?k2 ?a3 ?l3 ?c3 ?k3 ?a4 ?l4 ?c4 ?k4 ?a5 ?l5 ?c5 ?k5 ?a6 ?l6 ?c6 ?k6 ?a7 ?l7 ?c7 ?k7 ?a8 ?l8 ?c8 ?k8 ?a9 ?l9 ?c9 ?k9 ?a10 ?l10 ?c10 ?k10 ?a11 ?l11 ?c11 ?k11 ?a12 ?l12 ?c12 ?k12 ?a13 ?l13 ?c13 ?k13 ?a14 ?l14 ?c14 ?k14 ?a15 ?l15 ?c15 ?k15 ?t15 ?a16 ?l16 ?c16 ?k16 ?a17 ?l17 ?c17 ?k17 ?a18 ?l18 ?c18 ?k18 ?a19 ?l19 ?c19 ?k19 ?a20 ?l20 ?c20 ?k20 ?a21 ?l21 ?c21 ?k21 ?a22 ?l22 ?c22 ?k22 ?a23 ?l23 ?c23 ?k23 ?a24 ?l24 ?c24 ?k24 ?a25 ?l25 ?c25 ?k25 ?a26 ?l26 ?c26 ?k26 ?a27 ?l27 ?c27 ?k27 ?cg0 ?ch0 ?cg1 ?ch1 ?cg2 ?cg3 ?cg4 ?cg5 ?cg6 ?cg7 ?cg8 ?cg9 ?ch9 ?ch9_0 ?ch9_1 ?ch9_2 ?xw0_0 ?xw0_1 ?xw0_2 ?xw0_3 ?xw0_4 ?xw0_5 ?xw0_6 ?xw0_7 ?xw0_8 ?xw0_9 ?xw0_10 ?xw0_11 ?xw0_12 ?xw0_13 ?xw0_14 ?xw0_15 ?xw0_16 ?xw0_17 ?xw0_18 ?xw0_19 ?xw0_20 ?xw0_21 ?xw0_22 ?xw0_23 ?kq0_0 ?kq0_1 ?kq0_2 ?kq0_3 ?kq0_4 ?rq0_5 ?kq0_6 ?rq0_7 ?kq0_8 ?kq0_9 ?kq0_10 ?kq0_11 ?kq0_12 ?kq0_13 ?kq0_14 ?kq0_15 ?kq0_16 ?rq0_17 ?kq0_18 ?kq0_19 ?kq0_20 ?kq0_21 ?kq0_22 ?kq0_23 ?kq0_24 ?kq0_25 ?rq0_26 ?rq0_27 ?kq0_28 ?kq0_29 ?kq0_30 ?kq0_31 ?kq0_32 ?kq0_33 ?kq0_34 ?kq0_35 ?kq0_36 ?kq0_37 ?kq0_38 ?kq1_0 ?kq1_1 ?kq1_2 ?kq1_3 ?kq1_4 ?rq1_5 ?kq1_6 ?rq1_7 ?kq1_8 ?kq1_9 ?kq1_10 ?kq1_11 ?kq1_12 ?kq1_13 ?kq1_14 ?kq1_15 ?kq1_16 ?rq1_17 ?kq1_18 ?kq1_19 ?kq1_20 ?kq1_21 ?kq1_22 ?kq1_23 ?kq1_24 ?kq1_25 ?rq1_26 ?rq1_27 ?kq1_28 ?kq1_29 ?kq1_30 ?kq1_31 ?kq1_32 ?kq1_33 ?kq1_34 ?kq1_35 ?kq1_36 ?kq1_37 ?kq1_38 ?vy0_0 ?vy0_4 ?vy0_10 ?vy0_15 ?vy0_20 ?vy0_25 ?vy0_30 ?vy0_35 ?vy0_40 ?vy0_42 ?vy0_43 ?vy0_1 ?vy0_2 ?vy0_3 ?vy0_5 ?vy0_6 ?vy0_7 ?vy0_8 ?vy0_9 ?vy0_11 ?vy0_12 ?vy0_13 ?vy0_14 ?vy0_16 ?vy0_17 ?vy0_18 ?vy0_19 ?vy0_21 ?vy0_22 ?vy0_23 ?vy0_24 ?vy0_26 ?vy0_27 ?vy0_28 ?vy0_29 ?vy0_31 ?vy0_32 ?vy0_33 ?vy0_34 ?vy0_36 ?vy0_37 ?vy0_38 ?vy0_39 ?vy0_41 ?z0 ?z1 ?z2 ?z3 ?z4 ?z5 ?z6 ?z7 ?z8 ?z9 ?z10 ?z11
    (case a0 => k_is)
    (case l0 => k_is)
    (case c0 => k_is)
    (case k0 => k_is)
    (case a1 => k_is)
    (case l1 => k_is)
    (case c1 => k_is)
    (case k1 => k_is)
    (case a2 => k_is)
    (case l2 => k_is)
    (case c2 => k_is)
    (case k2 => k_is)
    (case a3 => k_is)
    (case l3 => k_is)
    (case c3 => k_is)
    (case k3 => k_is)
    (case a4 => k_is)
    (case l4 => k_is)
    (case c4 => k_is)
    (case k4 => k_is)
    (case a5 => k_is)
    (case l5 => k_is)
    (case c5 => k_is)
    (case k5 => k_is)
    (case a6 => k_is)
    (case l6 => k_is)
    (case c6 => k_is)
    (case k6 => k_is)
    (case a7 => k_is)
    (case l7 => k_is)
    (case c7 => k_is)
    (case k7 => k_is)
    (case a8 => k_is)
    (case l8 => k_is)
    (case c8 => k_is)
    (case k8 => k_is)
    (case a9 => k_is)
    (case l9 => k_is)
    (case c9 => k_is)
    (case k9 => k_is)
    (case a10 => k_is)
    (case l10 => k_is)
    (case c10 => k_is)
    (case k10 => k_is)
    (case a11 => k_is)
    (case l11 => k_is)
    (case c11 => k_is)
    (case k11 => k_is)
    (case a12 => k_is)
    (case l12 => k_is)
    (case c12 => k_is)
    (case k12 => k_is)
    (case a13 => k_is)
    (case l13 => k_is)
    (case c13 => k_is)
    (case k13 => k_is)
    (case a14 => k_is)
    (case l14 => k_is)
    (case c14 => k_is)
    (case k14 => k_is)
    (case a15 => k_is)
    (case l15 => k_is)
    (case c15 => k_is)
    (case k15 => k_is)
    (case t15 => k_is)
    (case a16 => k_is)
    (case l16 => k_is)
    (case c16 => k_is)
    (case k16 => k_is)
    (case a17 => k_is)
    (case l17 => k_is)
    (case c17 => k_is)
    (case k17 => k_is)
    (case a18 => k_is)
    (case l18 => k_is)
    (case c18 => k_is)
    (case k18 => k_is)
    (case a19 => k_is)
    (case l19 => k_is)
    (case c19 => k_is)
    (case k19 => k_is)
    (case a20 => k_is)
    (case l20 => k_is)
    (case c20 => k_is)
    (case k20 => k_is)
    (case a21 => k_is)
    (case l21 => k_is)
    (case c21 => k_is)
    (case k21 => k_is)
    (case a22 => k_is)
    (case l22 => k_is)
    (case c22 => k_is)
    (case k22 => k_is)
    (case a23 => k_is)
    (case l23 => k_is)
    (case c23 => k_is)
    (case k23 => k_is)
    (case a24 => k_is)
    (case l24 => k_is)
    (case c24 => k_is)
    (case k24 => k_is)
    (case a25 => k_is)
    (case l25 => k_is)
    (case c25 => k_is)
    (case k25 => k_is)
    (case a26 => k_is)
    (case l26 => k_is)
    (case c26 => k_is)
    (case k26 => k_is)
    (case a27 => k_is)
    (case l27 => k_is)
    (case c27 => k_is)
    (case k27 => k_is)
    (case cg0 => k_is)
    (case ch0 => k_is)
    (case cg1 => k_is)
    (case ch1 => k_is)
    (case cg2 => k_is)
    (case cg3 => k_is)
    (case cg4 => k_is)
    (case cg5 => k_is)
    (case cg6 => k_is)
    (case cg7 => k_is)
    (case cg8 => k_is)
    (case cg9 => k_is)
    (case ch9 => k_is)
    (case ch9_0 => k_is)
    (case ch9_1 => k_is)
    (case ch9_2 => k_is)
    (case xw0_0 => first | k_exc | k_is | rfl)
    (case xw0_1 => first | k_exc | k_is | rfl)
    (case xw0_2 => first | k_exc | k_is | rfl)
    (case xw0_3 => first | k_exc | k_is | rfl)
    (case xw0_4 => first | k_exc | k_is | rfl)
    (case xw0_5 => first | k_exc | k_is | rfl)
    (case xw0_6 => first | k_exc | k_is | rfl)
    (case xw0_7 => first | k_exc | k_is | rfl)
    (case xw0_8 => first | k_exc | k_is | rfl)
    (case xw0_9 => first | k_exc | k_is | rfl)
    (case xw0_10 => first | k_exc | k_is | rfl)
    (case xw0_11 => first | k_exc | k_is | rfl)
    (case xw0_12 => first | k_exc | k_is | rfl)
    (case xw0_13 => first | k_exc | k_is | rfl)
    (case xw0_14 => first | k_exc | k_is | rfl)
    (case xw0_15 => first | k_exc | k_is | rfl)
    (case xw0_16 => first | k_exc | k_is | rfl)
    (case xw0_17 => first | k_exc | k_is | rfl)
    (case xw0_18 => first | k_exc | k_is | rfl)
    (case xw0_19 => first | k_exc | k_is | rfl)
    (case xw0_20 => first | k_exc | k_is | rfl)
    (case xw0_21 => first | k_exc | k_is | rfl)
    (case xw0_22 => first | k_exc | k_is | rfl)
    (case xw0_23 => first | k_exc | k_is | rfl)
    (case kq0_0 => first | k_exc | k_is | rfl)
    (case kq0_1 => first | k_exc | k_is | rfl)
    (case kq0_2 => first | k_exc | k_is | rfl)
    (case kq0_3 => first | k_exc | k_is | rfl)
    (case kq0_4 => first | k_exc | k_is | rfl)
    (case rq0_5 => first | rfl | kernel_rfl | decide +kernel)
    (case kq0_6 => first | k_exc | k_is | rfl)
    (case rq0_7 => first | rfl | kernel_rfl | decide +kernel)
    (case kq0_8 => first | k_exc | k_is | rfl)
    (case kq0_9 => first | k_exc | k_is | rfl)
    (case kq0_10 => first | k_exc | k_is | rfl)
    (case kq0_11 => first | k_exc | k_is | rfl)
    (case kq0_12 => first | k_exc | k_is | rfl)
    (case kq0_13 => first | k_exc | k_is | rfl)
    (case kq0_14 => first | k_exc | k_is | rfl)
    (case kq0_15 => first | k_exc | k_is | rfl)
    (case kq0_16 => first | k_exc | k_is | rfl)
    (case rq0_17 => first | rfl | kernel_rfl | decide +kernel)
    (case kq0_18 => first | k_exc | k_is | rfl)
    (case kq0_19 => first | k_exc | k_is | rfl)
    (case kq0_20 => first | k_exc | k_is | rfl)
    (case kq0_21 => first | k_exc | k_is | rfl)
    (case kq0_22 => first | k_exc | k_is | rfl)
    (case kq0_23 => first | k_exc | k_is | rfl)
    (case kq0_24 => first | k_exc | k_is | rfl)
    (case kq0_25 => first | k_exc | k_is | rfl)
    (case rq0_26 => first | rfl | kernel_rfl | decide +kernel)
    (case rq0_27 => first | rfl | kernel_rfl | decide +kernel)
    (case kq0_28 => first | k_exc | k_is | rfl)
    (case kq0_29 => first | k_exc | k_is | rfl)
    (case kq0_30 => first | k_exc | k_is | rfl)
    (case kq0_31 => first | k_exc | k_is | rfl)
    (case kq0_32 => first | k_exc | k_is | rfl)
    (case kq0_33 => first | k_exc | k_is | rfl)
    (case kq0_34 => first | k_exc | k_is | rfl)
    (case kq0_35 => first | k_exc | k_is | rfl)
    (case kq0_36 => first | k_exc | k_is | rfl)
    (case kq0_37 => first | k_exc | k_is | rfl)
    (case kq0_38 => first | k_exc | k_is | rfl)
    (case kq1_0 => first | k_exc | k_is | rfl)
    (case kq1_1 => first | k_exc | k_is | rfl)
    (case kq1_2 => first | k_exc | k_is | rfl)
    (case kq1_3 => first | k_exc | k_is | rfl)
    (case kq1_4 => first | k_exc | k_is | rfl)
    (case rq1_5 => first | rfl | kernel_rfl | decide +kernel)
    (case kq1_6 => first | k_exc | k_is | rfl)
    (case rq1_7 => first | rfl | kernel_rfl | decide +kernel)
    (case kq1_8 => first | k_exc | k_is | rfl)
    (case kq1_9 => first | k_exc | k_is | rfl)
    (case kq1_10 => first | k_exc | k_is | rfl)
    (case kq1_11 => first | k_exc | k_is | rfl)
    (case kq1_12 => first | k_exc | k_is | rfl)
    (case kq1_13 => first | k_exc | k_is | rfl)
    (case kq1_14 => first | k_exc | k_is | rfl)
    (case kq1_15 => first | k_exc | k_is | rfl)
    (case kq1_16 => first | k_exc | k_is | rfl)
    (case rq1_17 => first | rfl | kernel_rfl | decide +kernel)
    (case kq1_18 => first | k_exc | k_is | rfl)
    (case kq1_19 => first | k_exc | k_is | rfl)
    (case kq1_20 => first | k_exc | k_is | rfl)
    (case kq1_21 => first | k_exc | k_is | rfl)
    (case kq1_22 => first | k_exc | k_is | rfl)
    (case kq1_23 => first | k_exc | k_is | rfl)
    (case kq1_24 => first | k_exc | k_is | rfl)
    (case kq1_25 => first | k_exc | k_is | rfl)
    (case rq1_26 => first | rfl | kernel_rfl | decide +kernel)
    (case rq1_27 => first | rfl | kernel_rfl | decide +kernel)
    (case kq1_28 => first | k_exc | k_is | rfl)
    (case kq1_29 => first | k_exc | k_is | rfl)
    (case kq1_30 => first | k_exc | k_is | rfl)
    (case kq1_31 => first | k_exc | k_is | rfl)
    (case kq1_32 => first | k_exc | k_is | rfl)
    (case kq1_33 => first | k_exc | k_is | rfl)
    (case kq1_34 => first | k_exc | k_is | rfl)
    (case kq1_35 => first | k_exc | k_is | rfl)
    (case kq1_36 => first | k_exc | k_is | rfl)
    (case kq1_37 => first | k_exc | k_is | rfl)
    (case kq1_38 => first | k_exc | k_is | rfl)
    (case vy0_0 => k_is)
    (case vy0_4 => k_is)
    (case vy0_10 => k_is)
    (case vy0_15 => k_is)
    (case vy0_20 => k_is)
    (case vy0_25 => k_is)
    (case vy0_30 => k_is)
    (case vy0_35 => k_is)
    (case vy0_40 => k_is)
    (case vy0_42 => k_is)
    (case vy0_43 => k_is)
    (case vy0_1 => k_is)
    (case vy0_2 => k_is)
    (case vy0_3 => k_is)
    (case vy0_5 => k_is)
    (case vy0_6 => k_is)
    (case vy0_7 => k_is)
    (case vy0_8 => k_is)
    (case vy0_9 => k_is)
    (case vy0_11 => k_is)
    (case vy0_12 => k_is)
    (case vy0_13 => k_is)
    (case vy0_14 => k_is)
    (case vy0_16 => k_is)
    (case vy0_17 => k_is)
    (case vy0_18 => k_is)
    (case vy0_19 => k_is)
    (case vy0_21 => k_is)
    (case vy0_22 => k_is)
    (case vy0_23 => k_is)
    (case vy0_24 => k_is)
    (case vy0_26 => k_is)
    (case vy0_27 => k_is)
    (case vy0_28 => k_is)
    (case vy0_29 => k_is)
    (case vy0_31 => k_is)
    (case vy0_32 => k_is)
    (case vy0_33 => k_is)
    (case vy0_34 => k_is)
    (case vy0_36 => k_is)
    (case vy0_37 => k_is)
    (case vy0_38 => k_is)
    (case vy0_39 => k_is)
    (case vy0_41 => k_is)
    (case z0 => k_is)
    (case z1 => k_is)
    (case z2 => k_is)
    (case z3 => k_is)
    (case z4 => k_is)
    (case z5 => k_is)
    (case z6 => k_is)
    (case z7 => k_is)
    (case z8 => k_is)
    (case z9 => k_is)
    (case z10 => k_is)
    (case z11 => k_is)
#print axioms PySem.Challenge.cw_signoff_k08_depth_and_order_of_errors_holds
