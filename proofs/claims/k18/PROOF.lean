import PyProof.Rows.All
import Wide.All
import OpenK.AllK
import Wide.FinOn
import HandS.ForMost
import HandS.Evl
import HandS.Wide
import HandS.WideBits
import HandS.Flow
import HandS.IsInst
import HandS.TupAny
import HandS.Walk
import HandS.Zip
import HandS.Steps
import KE.GoesMore
import KE.GoesEnum
import KE.KEqSeq
import HandS.StrMore
import PyProof.StrLawsFirst
import HandS.DictComp
import HandS.ForExc
import HandS.Small
import HandS.FStr
import HandS.SetKeys
import HandS.Strs
import HandS.ExcIs
import HandS.Style
import HandS.CallSlots
import HandS.Property
import KE.KMinBuiltin
import HandS.DictSub
import HandS.Star
import HandS.Iter
import HandS.SetTxt0
import HandS.Set
import HandS.SetFor
import KE.GoesSet
import HandS.More
import HandS.ClsMeth
import HandS.ExcInit
import HandS.ExcField
import HandS.Nested
import KE.KExcSuper
import KE.KSuper
import KE.KExcIs
import KE.KFromBytes
import PyProof.DelItemList
import HandS.Flow
import KE.DataMinMax
import HandS.SortKw
import HandS.List
import HandS.Dict
import HandS.HotCalls
import HandS.Comp
import KE.GoesComp
import HandS.ExcCtx
import PySem.Challenge.RW_signoff_k18_circuits_checked
set_option Elab.async false
set_option linter.all false
set_option maxRecDepth 100000
set_option maxHeartbeats 4000000
set_option Elab.async false
set_option linter.all false
set_option maxRecDepth 100000
set_option maxHeartbeats 4000000
namespace G
open PySem PySem.Spec PyProof.Rows L2 Evl
/-! ## defs by name -/
def Dfd (K : PySem.W.Frag) (mg : Str → Option Value) (x : Str) (st : Stmt) (ps : List Str) : Prop := ∃ (f : Addr) (fd : FuncData), Fun K x x st f fd ∧ mg x = some (.ref f) ∧ Binds K fd ps []
def Has (P : Program) (w : World) (K : PySem.W.Frag) (mg : Str → Option Value) (base : Heap) (k : Nat) (x : Str) (ps : List Str) (sp : Sp) : Prop :=
  ∃ (f : Addr) (fd : FuncData), FnOk P w K mg base CX0 k f fd ps sp ∧ mg x = some (.ref f) ∧ PySem.W.keepIn K (.ref f) = true ∧ Binds K fd ps []
section
variable {P : Program} {w : World} {K : PySem.W.Frag} {mg : Str → Option Value} {base : Heap}
theorem Dfd.has {x : Str} {st : Stmt} {ps : List Str} {k : Nat} {sp : Sp} (d : Dfd K mg x st ps) (h : ∀ f fd, Fun K x x st f fd → FnOk P w K mg base CX0 k f fd ps sp) : Has P w K mg base k x ps sp := by
  obtain ⟨f, fd, F, g, b⟩ := d
  exact ⟨f, fd, h f fd F, g, F.kp, b⟩
theorem Has.mono {x : Str} {ps : List Str} {j k : Nat} {sp : Sp} (h : Has P w K mg base j x ps sp) (l : j ≤ k) : Has P w K mg base k x ps sp := by
  obtain ⟨f, fd, F, g⟩ := h
  exact ⟨f, fd, F.mono l, g⟩
theorem Has.imp {x : Str} {ps : List Str} {k : Nat} {sp sp' : Sp} (h : Has P w K mg base k x ps sp) (i : ∀ vs H Q E, sp' vs H Q E → sp vs H Q E) : Has P w K mg base k x ps sp' := by
  obtain ⟨f, fd, F, g⟩ := h
  exact ⟨f, fd, F.imp i, g⟩
end
/-! ## heaps -/
theorem sq_ex {K : PySem.W.Frag} {H H' : Hp} {a : Addr} {xs : List V} (e : Ex H H') (h : SqL K H a xs) : SqL K H' a xs := ex_l e h
/-- the heap without what stands at p -/
def hid (p : Addr) (H : Hp) : Hp := fun b => if b = p then none else H b
theorem hid_self {p : Addr} {H : Hp} : hid p H p = none := by unfold hid; rw [if_pos rfl]
theorem hid_ne {p b : Addr} {H : Hp} (h : b ≠ p) : hid p H b = H b := by unfold hid; rw [if_neg h]
theorem hid_get {p b : Addr} {H : Hp} {o : HO} (h : hid p H b = some o) : H b = some o := by
  by_cases e : b = p
  · subst e; rw [hid_self] at h; cases h
  · rw [hid_ne e] at h; exact h
theorem hid_neq {p b : Addr} {H : Hp} {o : HO} (h : hid p H b = some o) : b ≠ p := by
  intro e; subst e; rw [hid_self] at h; cases h
theorem hid_ex {p : Addr} {H : Hp} : Ex (hid p H) H := fun _ _ h => hid_get h
theorem hid_upd {p : Addr} {H : Hp} {o : HO} : hid p (upd H p o) = hid p H := by
  funext b
  by_cases e : b = p
  · subst e; rw [hid_self, hid_self]
  · rw [hid_ne e, hid_ne e, upd_ne e]
theorem hid_upd_ne {p q : Addr} {H : Hp} {o : HO} (h : q ≠ p) : hid p (upd H q o) = upd (hid p H) q o := by
  funext b
  by_cases e2 : b = q
  · subst e2; rw [hid_ne h, upd_same, upd_same]
  · rw [upd_ne e2]
    by_cases e : b = p
    · subst e; rw [hid_self, hid_self]
    · rw [hid_ne e, hid_ne e, upd_ne e2]
theorem hid_none {p b : Addr} {H : Hp} (h : H b = none) : hid p H b = none := by
  unfold hid; split
  · rfl
  · exact h
/-! ## the pool of draws: the list at p, the script's copy at a -/
def PoolOk (p a : Addr) (H : Hp) : Prop := ∃ (ns : List Int) (i : Nat) (c k s : Int), H p = some (.lst [.ref a, .int i, .int c, .int k, .int s]) ∧ hid p H a = some (.lst (ns.map V.int)) ∧ ns.length ≤ 1000
/-- from H to H' all but the pool is kept, and the pool is a pool -/
structure Px (p a : Addr) (H H' : Hp) : Prop where
  was : PoolOk p a H
  pool : PoolOk p a H'
  ex : Ex (hid p H) (hid p H')
section
variable {p a : Addr} {H H1 H2 H' : Hp}
theorem Px.refl (h : PoolOk p a H) : Px p a H H := ⟨h, h, Ex.refl _⟩
theorem Px.trans (x : Px p a H H1) (y : Px p a H1 H2) : Px p a H H2 := ⟨x.was, y.pool, x.ex.trans y.ex⟩
theorem PoolOk.ne {b : Addr} (h : PoolOk p a H) (n : H b = none) : b ≠ p := by
  obtain ⟨_, _, _, _, _, e, _⟩ := h
  exact (ne_of_none e n).symm
theorem PoolOk.ne2 {b : Addr} (h : PoolOk p a H) (n : H b = none) : a ≠ b := by
  obtain ⟨_, _, _, _, _, _, e, _⟩ := h
  exact ne_of_none (hid_get e) n
theorem PoolOk.kept (h : PoolOk p a H) (e : Ex H H') : PoolOk p a H' := by
  obtain ⟨ns, i, c, k, s, h1, h2, h3⟩ := h
  exact ⟨ns, i, c, k, s, e _ _ h1, by rw [hid_ne (hid_neq h2)]; exact e _ _ (hid_get h2), h3⟩
theorem Px.ofEx (h : PoolOk p a H) (e : Ex H H') : Px p a H H' := ⟨h, h.kept e, fun b o hb => by rw [hid_ne (hid_neq hb)]; exact e _ _ (hid_get hb)⟩
theorem Px.more (x : Px p a H H1) (e : Ex H1 H2) : Px p a H H2 := x.trans (Px.ofEx x.pool e)
theorem Px.draw {o : HO} (w : PoolOk p a H) (h : PoolOk p a (upd H p o)) : Px p a H (upd H p o) := ⟨w, h, by rw [hid_upd]; exact Ex.refl _⟩
theorem Px.new (x : Px p a H H1) {l : Addr} {o : HO} (n : H1 l = none) : Px p a H (upd H1 l o) := x.more (Ex.new n)
/-- what H has is kept -/
theorem Px.get (x : Px p a H H1) {b : Addr} {o : HO} (h : hid p H b = some o) : hid p H1 b = some o := x.ex _ _ h
theorem Px.at_ (x : Px p a H H1) {b : Addr} {o : HO} (h : hid p H b = some o) : H1 b = some o := hid_get (x.ex _ _ h)
theorem Px.free (x : Px p a H H1) {b : Addr} (n : H1 b = none) : H b = none := by
  cases e : H b with
  | none => rfl
  | some o =>
    have hb : b ≠ p := x.pool.ne n
    have := x.ex b o (by rw [hid_ne hb]; exact e)
    rw [hid_get this] at n; cases n
/-- an object that H does not have may change -/
theorem Px.mut (x : Px p a H H1) {l : Addr} {o : HO} (n : H l = none) : Px p a H (upd H1 l o) := by
  have hl : l ≠ p := x.was.ne n
  have ha : a ≠ l := x.was.ne2 n
  refine ⟨x.was, ?_, ?_⟩
  · obtain ⟨ns, i, c, k, s, h1, h2, h3⟩ := x.pool
    exact ⟨ns, i, c, k, s, by rw [upd_ne hl.symm]; exact h1, by rw [hid_upd_ne hl, upd_ne ha]; exact h2, h3⟩
  · rw [hid_upd_ne hl]; exact Ex.mut x.ex (hid_none n)
/-- a fresh object stands apart from the pool -/
theorem Px.seen (x : Px p a H H1) {l : Addr} {o : HO} (n : H l = none) (e : H1 l = some o) : hid p H1 l = some o := by
  rw [hid_ne (x.was.ne n)]; exact e
end
end G
namespace G
open PySem PySem.Spec PyProof.Rows L2 Evl
/-! ## comprehensions whose elements are plain values -/
theorem given_all {n : Nat} {v : Nat → V} : given n (fun _ => true) v = (List.range n).map v := by
  unfold given
  rw [List.filter_eq_self.mpr (fun _ _ => rfl)]
section
variable {lo : Int} {n j : Nat} {tt : TT} {te : TE} {vs : List Nat} {σ : L2.St} {H1 : Hp} {D : Addr} {Qd : Hp → Prop} {K : PySem.W.Frag} {a : Addr} {xs : List V}
theorem lc_turn {f : Nat → Bool} {v : Nat → V} {i : Nat} {H : Hp} {σ2 : L2.St} (e : H = upd H1 D (.lst (given i f v))) (hi : i < 100000) (ht : Ans tt σ2 H (f i)) (he : f i = true → Val te σ2 H (v i)) :
    tt σ2 H fun b H3 => if b = true then te σ2 H3 fun y H4 => ∃ acc, H4 D = some (.lst acc) ∧ acc.length < sizeLine ∧ (upd H4 D (.lst (acc ++ [y]))) = upd H1 D (.lst (given (i + 1) f v)) else H3 = upd H1 D (.lst (given (i + 1) f v)) := by
  refine ht _ ?_
  subst e
  cases hf : f i with
  | true =>
    refine iteT (he hf _ ⟨_, upd_same, sz_lt (by have := given_len i f v; omega), ?_⟩)
    rw [given_yes hf, upd_upd]
  | false =>
    refine iteF ?_
    rw [given_no hf]
theorem lcR (f : Nat → Bool) (v : Nat → V) (hn : n ≤ 100000) (hw : ∀ x, wipe ((wipe σ vs).set j (some x)) vs = wipe σ vs)
    (ht : ∀ (i : Nat) (H : Hp), i < n → H = upd H1 D (.lst (given i f v)) → Ans tt ((wipe σ vs).set j (some (.int (lo + i)))) H (f i))
    (he : ∀ (i : Nat) (H : Hp), i < n → H = upd H1 D (.lst (given i f v)) → f i = true → Val te ((wipe σ vs).set j (some (.int (lo + i)))) H (v i)) (q : Qd (upd H1 D (.lst (given n f v)))) :
    ∃ W : Nat → Nat → Hp → Prop, (∃ m, W 0 m (upd H1 D (.lst []))) ∧ ∀ i m H, W i m H →
      ((Itr lo n).stop i H ∧ Qd H) ∨ ((Itr lo n).go i H ∧ ∃ Nx : Hp → Prop, (∀ H', Nx H' → ∃ m', m' < m ∧ W (i + 1) m' H') ∧ ∀ x H', (Itr lo n).yld i H x H' → gName j x (wipe σ vs) H' fun σ2 H2 => wipe σ2 vs = wipe σ vs ∧ tt σ2 H2 fun b H3 =>
        if b = true then te σ2 H3 fun y H4 => ∃ acc, H4 D = some (.lst acc) ∧ acc.length < sizeLine ∧ Nx (upd H4 D (.lst (acc ++ [y]))) else Nx H3) :=
  lc_range (fun i H => H = upd H1 D (.lst (given i f v))) rfl (fun i H hi e => ⟨hw _, lc_turn e (by omega) (ht i H hi e) (he i H hi e)⟩) (fun H e => by rw [e]; exact q)
theorem lcRv (v : Nat → V) (hn : n ≤ 100000) (hw : ∀ x, wipe ((wipe σ vs).set j (some x)) vs = wipe σ vs)
    (he : ∀ (i : Nat) (H : Hp), i < n → H = upd H1 D (.lst (given i (fun _ => true) v)) → Val te ((wipe σ vs).set j (some (.int (lo + i)))) H (v i)) (q : Qd (upd H1 D (.lst ((List.range n).map v)))) :
    ∃ W : Nat → Nat → Hp → Prop, (∃ m, W 0 m (upd H1 D (.lst []))) ∧ ∀ i m H, W i m H →
      ((Itr lo n).stop i H ∧ Qd H) ∨ ((Itr lo n).go i H ∧ ∃ Nx : Hp → Prop, (∀ H', Nx H' → ∃ m', m' < m ∧ W (i + 1) m' H') ∧ ∀ x H', (Itr lo n).yld i H x H' → gName j x (wipe σ vs) H' fun σ2 H2 => wipe σ2 vs = wipe σ vs ∧ tYes σ2 H2 fun b H3 =>
        if b = true then te σ2 H3 fun y H4 => ∃ acc, H4 D = some (.lst acc) ∧ acc.length < sizeLine ∧ Nx (upd H4 D (.lst (acc ++ [y]))) else Nx H3) :=
  lcR (fun _ => true) v hn hw (fun _ _ _ _ => fun _ q => q) (fun i H hi e _ => he i H hi e) (by rw [given_all]; exact q)
theorem lcL (f : Nat → Bool) (v : Nat → V) (hx : SqL K H1 a xs) (hD : H1 D = none) (hn : xs.length ≤ 100000) (hw : ∀ x, wipe ((wipe σ vs).set j (some x)) vs = wipe σ vs)
    (ht : ∀ (i : Nat) (x : V) (H : Hp), xs[i]? = some x → H = upd H1 D (.lst (given i f v)) → Ans tt ((wipe σ vs).set j (some x)) H (f i))
    (he : ∀ (i : Nat) (x : V) (H : Hp), xs[i]? = some x → H = upd H1 D (.lst (given i f v)) → f i = true → Val te ((wipe σ vs).set j (some x)) H (v i)) (q : Qd (upd H1 D (.lst (given xs.length f v)))) :
    ∃ W : Nat → Nat → Hp → Prop, (∃ m, W 0 m (upd H1 D (.lst []))) ∧ ∀ i m H, W i m H →
      ((Itl K a).stop i H ∧ Qd H) ∨ ((Itl K a).go i H ∧ ∃ Nx : Hp → Prop, (∀ H', Nx H' → ∃ m', m' < m ∧ W (i + 1) m' H') ∧ ∀ x H', (Itl K a).yld i H x H' → gName j x (wipe σ vs) H' fun σ2 H2 => wipe σ2 vs = wipe σ vs ∧ tt σ2 H2 fun b H3 =>
        if b = true then te σ2 H3 fun y H4 => ∃ acc, H4 D = some (.lst acc) ∧ acc.length < sizeLine ∧ Nx (upd H4 D (.lst (acc ++ [y]))) else Nx H3) :=
  lc_list (fun i H => H = upd H1 D (.lst (given i f v))) rfl (fun i H hi e => by rw [e]; exact ex_l (Ex.new hD) hx) (fun i x H hi e => ⟨hw _, lc_turn e (by have := (List.getElem?_eq_some_iff.mp hi).1; omega) (ht i x H hi e) (he i x H hi e)⟩) (fun H e => by rw [e]; exact q)
theorem lcT (f : Nat → Bool) (v : Nat → V) (hx : SqT K H1 a xs) (hD : H1 D = none) (hn : xs.length ≤ 100000) (hw : ∀ x, wipe ((wipe σ vs).set j (some x)) vs = wipe σ vs)
    (ht : ∀ (i : Nat) (x : V) (H : Hp), xs[i]? = some x → H = upd H1 D (.lst (given i f v)) → Ans tt ((wipe σ vs).set j (some x)) H (f i))
    (he : ∀ (i : Nat) (x : V) (H : Hp), xs[i]? = some x → H = upd H1 D (.lst (given i f v)) → f i = true → Val te ((wipe σ vs).set j (some x)) H (v i)) (q : Qd (upd H1 D (.lst (given xs.length f v)))) :
    ∃ W : Nat → Nat → Hp → Prop, (∃ m, W 0 m (upd H1 D (.lst []))) ∧ ∀ i m H, W i m H →
      ((Itt K a).stop i H ∧ Qd H) ∨ ((Itt K a).go i H ∧ ∃ Nx : Hp → Prop, (∀ H', Nx H' → ∃ m', m' < m ∧ W (i + 1) m' H') ∧ ∀ x H', (Itt K a).yld i H x H' → gName j x (wipe σ vs) H' fun σ2 H2 => wipe σ2 vs = wipe σ vs ∧ tt σ2 H2 fun b H3 =>
        if b = true then te σ2 H3 fun y H4 => ∃ acc, H4 D = some (.lst acc) ∧ acc.length < sizeLine ∧ Nx (upd H4 D (.lst (acc ++ [y]))) else Nx H3) :=
  lc_tup (fun i H => H = upd H1 D (.lst (given i f v))) rfl (fun i H hi e => by rw [e]; exact ex_t (Ex.new hD) hx) (fun i x H hi e => ⟨hw _, lc_turn e (by have := (List.getElem?_eq_some_iff.mp hi).1; omega) (ht i x H hi e) (he i x H hi e)⟩) (fun H e => by rw [e]; exact q)
theorem lcLm (g : V → V) (hx : SqL K H1 a xs) (hD : H1 D = none) (hn : xs.length ≤ 100000) (hw : ∀ x, wipe ((wipe σ vs).set j (some x)) vs = wipe σ vs)
    (he : ∀ (i : Nat) (x : V) (H : Hp), xs[i]? = some x → H = upd H1 D (.lst ((xs.take i).map g)) → Val te ((wipe σ vs).set j (some x)) H (g x)) (q : Qd (upd H1 D (.lst (xs.map g)))) :
    ∃ W : Nat → Nat → Hp → Prop, (∃ m, W 0 m (upd H1 D (.lst []))) ∧ ∀ i m H, W i m H →
      ((Itl K a).stop i H ∧ Qd H) ∨ ((Itl K a).go i H ∧ ∃ Nx : Hp → Prop, (∀ H', Nx H' → ∃ m', m' < m ∧ W (i + 1) m' H') ∧ ∀ x H', (Itl K a).yld i H x H' → gName j x (wipe σ vs) H' fun σ2 H2 => wipe σ2 vs = wipe σ vs ∧ tYes σ2 H2 fun b H3 =>
        if b = true then te σ2 H3 fun y H4 => ∃ acc, H4 D = some (.lst acc) ∧ acc.length < sizeLine ∧ Nx (upd H4 D (.lst (acc ++ [y]))) else Nx H3) :=
  lc_list (fun i H => H = upd H1 D (.lst ((xs.take i).map g))) (by rw [List.take_zero]; rfl) (fun i H hi e => by rw [e]; exact ex_l (Ex.new hD) hx)
    (fun i x H hi e => ⟨hw _, by
      refine iteT (B := H = upd H1 D (.lst ((xs.take (i + 1)).map g))) ?_
      refine he i x H hi e _ ?_
      subst e
      refine ⟨_, upd_same, sz_lt ?_, ?_⟩
      · rw [List.length_map, List.length_take]; have := (List.getElem?_eq_some_iff.mp hi).1; omega
      · rw [upd_upd, List.take_add_one, hi, List.map_append]; rfl⟩) (fun H e => by rw [e, List.take_length]; exact q)
theorem lcTm (g : V → V) (hx : SqT K H1 a xs) (hD : H1 D = none) (hn : xs.length ≤ 100000) (hw : ∀ x, wipe ((wipe σ vs).set j (some x)) vs = wipe σ vs)
    (he : ∀ (i : Nat) (x : V) (H : Hp), xs[i]? = some x → H = upd H1 D (.lst ((xs.take i).map g)) → Val te ((wipe σ vs).set j (some x)) H (g x)) (q : Qd (upd H1 D (.lst (xs.map g)))) :
    ∃ W : Nat → Nat → Hp → Prop, (∃ m, W 0 m (upd H1 D (.lst []))) ∧ ∀ i m H, W i m H →
      ((Itt K a).stop i H ∧ Qd H) ∨ ((Itt K a).go i H ∧ ∃ Nx : Hp → Prop, (∀ H', Nx H' → ∃ m', m' < m ∧ W (i + 1) m' H') ∧ ∀ x H', (Itt K a).yld i H x H' → gName j x (wipe σ vs) H' fun σ2 H2 => wipe σ2 vs = wipe σ vs ∧ tYes σ2 H2 fun b H3 =>
        if b = true then te σ2 H3 fun y H4 => ∃ acc, H4 D = some (.lst acc) ∧ acc.length < sizeLine ∧ Nx (upd H4 D (.lst (acc ++ [y]))) else Nx H3) :=
  lc_tup (fun i H => H = upd H1 D (.lst ((xs.take i).map g))) (by rw [List.take_zero]; rfl) (fun i H hi e => by rw [e]; exact ex_t (Ex.new hD) hx)
    (fun i x H hi e => ⟨hw _, by
      refine iteT (B := H = upd H1 D (.lst ((xs.take (i + 1)).map g))) ?_
      refine he i x H hi e _ ?_
      subst e
      refine ⟨_, upd_same, sz_lt ?_, ?_⟩
      · rw [List.length_map, List.length_take]; have := (List.getElem?_eq_some_iff.mp hi).1; omega
      · rw [upd_upd, List.take_add_one, hi, List.map_append]; rfl⟩) (fun H e => by rw [e, List.take_length]; exact q)
end
end G
namespace G
open PySem PySem.Spec PyProof.Rows L2 Evl
/-! ## rules within a comprehension's block: the written part by its letter -/
section
variable {X : Cx} {K : PySem.W.Frag}
theorem kIxT (h : X.K = K) : IxR X (rIxT K) := by subst h; exact ix_tup
theorem kIxL (h : X.K = K) : IxR X (rIxL K) := by subst h; exact ix_list
theorem kIx (h : X.K = K) : IxR X (rIx K) := by subst h; exact ix_seq
theorem kIn (h : X.K = K) : OpR X (compareOp .In) (rIn K false) := by subst h; exact op_in_seq
theorem kNotIn (h : X.K = K) : OpR X (compareOp .NotIn) (rIn K true) := by subst h; exact op_notIn_seq
theorem kLen (h : X.K = K) : CallR X (.builtin "len") (rLenS K) := by subst h; exact call_len_seq
theorem gStr {x s : Str} {t : Tok} {pos : Pos} (hg : Gl X x) (h : X.mg x = some (.str s t)) (hd : (x == ("__debug__" : Str)) = false := by decide) : PE X (.Name x pos) (tC (.str s)) := pe_glob (v := .str s) hg h ⟨t, rfl⟩ hd
theorem gInt {x : Str} {i : Int} {t : Tok} {pos : Pos} (hg : Gl X x) (h : X.mg x = some (.int i t)) (hd : (x == ("__debug__" : Str)) = false := by decide) : PE X (.Name x pos) (tC (.int i)) := pe_glob (v := .int i) hg h ⟨t, rfl⟩ hd
theorem gRef {x : Str} {a : Addr} {pos : Pos} (hg : Gl X x) (h : X.mg x = some (.ref a)) (hd : (x == ("__debug__" : Str)) = false := by decide) : PE X (.Name x pos) (tC (.ref a)) := pe_glob (v := .ref a) hg h rfl hd
theorem kSlL (h : X.K = K) : SlR X (rSlL K) := by subst h; exact sl_list
theorem kCatA (h : X.K = K) : OpR X (binaryOp .Add) (rCatA K) := by subst h; exact op_catA
theorem kAny (h : X.K = K) (hc : X.calm = true) : CallR X (.builtin "any") (rAny K) := by subst h; exact cr_any hc
theorem kAll (h : X.K = K) (hc : X.calm = true) : CallR X (.builtin "all") (rAll K) := by subst h; exact cr_all hc
theorem kLtT (h : X.K = K) (hu : X.A.units < cLine) : OpR X (compareOp .Lt) (rLtT K) := by subst h; exact op_ltT hu
theorem kPiT {e tg : Expr} {te : TE} (h : X.K = K) (he : PE X e te) : PI X tg e (iTup K te) := by subst h; exact pi_tup he
theorem kPiL {e tg : Expr} {te : TE} (h : X.K = K) (he : PE X e te) : PI X tg e (iList K te) := by subst h; exact pi_list he
theorem kSlA (h : X.K = K) : SlR X (rSlA K) := by subst h; exact sl_tupA
end
end G
namespace G
open PySem PySem.Spec PyProof.Rows L2 Evl
theorem dpAll_map {α : Type} {K : PySem.W.Frag} {H : Hp} {f : α → V} {g : α → PyData} (h : ∀ x, Dp K H (f x) (g x)) : ∀ l : List α, DpAll K H (l.map f) (l.map g)
  | [] => .nil
  | x :: r => .cons (h x) (dpAll_map h r)
theorem dp_ints {K : PySem.W.Frag} {H : Hp} {a : Addr} {ns : List Int} (h : SqL K H a (ns.map V.int)) : Dp K H (.ref a) (.list (ns.map PyData.int)) := .lst h (dpAll_map (fun i => .int i) ns)
theorem dp_nil {K : PySem.W.Frag} {H : Hp} {a : Addr} (h : SqL K H a []) : Dp K H (.ref a) (.list []) := .lst h .nil
theorem eqv_nil (l : List PyData) : PyData.eqv (.list l) (.list []) = l.isEmpty := by cases l <;> rfl
theorem shaped_nil : SeqAt.shaped (.list []) = true := by decide +kernel
end G
/-! enumerate over a tuple -/
namespace PySem
section
variable {prog : Program} {w : World} {A : Around} {E : Value → Shared → Prop} {s : Shared}
theorem G_tupOf {h : Heap} {a : Addr} {xs : Array Value} (p : PyProof.Rows.IsTup h a xs) : h.IsTuple a xs := p
set_option maxHeartbeats 2000000 in
theorem G_enumNew {v : Value} {o : Obj} {Hh : Heap → Prop} (B : Begins v o Hh) :
    Meets (Builtin.«enumerate.__new__» ⟨[.type "enumerate", v], []⟩) (fun _ R s => Hh s.heap ∧
      R (.ok (.ret (.ref (s.heap.push o).objs.size))) { s with heap := (s.heap.push o).push { cls := .type "enumerate", data := .fields #[.none, .bool false, .ref s.heap.objs.size, rawInt 0, .none, .none] } }) :=
  .of_wp fun pr wo ar rr sh hh => by
    obtain ⟨hp, gg, dd, tk, os⟩ := sh; obtain ⟨h1, h2⟩ := hh
    have sub0 := sub_enumerate
    have qq : ∀ {A' : Around} {E : Value → Shared → Prop} {Q : Value → Shared → Prop}, Q (.ref hp.objs.size) ⟨hp.push o, gg, dd, tk, os⟩ → wpAny (model pr wo) A' (pyIter v) Q E ⟨hp, gg, dd, tk, os⟩ :=
      fun z => B.iter pr wo _ _ ⟨hp, gg, dd, tk, os⟩ _ h1 z
    wp_walk using qq
    refine wpAny_stack_any fun _ => wpAny_pure ?_
    split
    · rename_i cc _ _ _ _ _
      cases (cc == Value.type "enumerate") <;> (wp_walk using qq; exact ⟨_, rfl, h2⟩)
    · wp_walk using qq
      exact ⟨_, rfl, h2⟩
theorem G_enumCall {v : Value} {o : Obj} {Hh : Heap → Prop} {Q : Value → Shared → Prop} (B : Begins v o Hh) (h1 : Hh s.heap)
    (k : ∀ h', IsEnum h' (s.heap.objs.size + 1) s.heap.objs.size 0 .none → h'.get? s.heap.objs.size = some o → (∀ b u, s.heap.get? b = some u → h'.get? b = some u) → Q (.ref (s.heap.objs.size + 1)) { s with heap := h' }) :
    wpAny (model prog w) A (call (.type "enumerate") [v]) Q E s := by
  refine callType_new F.called_enumerate (by decide) (F.typeCall_enumerate_1 _) (F.newCall_enumerate_1 _) (fun y => F.args_object_init_2 y _) F.entry_enumerate_new (G_enumNew B) ⟨h1, ?_⟩
  have hz : (s.heap.push o).objs.size = s.heap.objs.size + 1 := Heap.size_push ..
  show _ ∧ _
  rw [hz]
  have he : IsEnum ((s.heap.push o).push { cls := .type "enumerate", data := .fields #[.none, .bool false, .ref s.heap.objs.size, rawInt 0, .none, .none] }) (s.heap.objs.size + 1) s.heap.objs.size 0 .none := by
    have hs := Heap.get?_push_size (s.heap.push o) (o := { cls := .type "enumerate", data := .fields #[.none, .bool false, .ref s.heap.objs.size, rawInt 0, .none, .none] }) rfl
    rw [hz] at hs; exact hs
  exact ⟨⟨_, he, rfl⟩, k _ he (Heap.get?_push_of_some _ (Heap.get?_push_size _ B.free)) fun b u x => Heap.get?_push_of_some _ (Heap.get?_push_of_some _ x)⟩
end
end PySem
namespace G
open PySem PySem.Spec PyProof.Rows L2 Evl
/-- the tuple at a at each turn, each item in a new pair -/
def IteT (K : PySem.W.Frag) (a : Addr) : It :=
  ⟨fun i H => ∃ (xs : List V) (x : V), SqT K H a xs ∧ xs[i]? = some x,
   fun i H v H' => ∃ T x, v = .ref T ∧ H T = none ∧ H' = upd H T (.tup [.int (i : Nat), x]) ∧ ∀ xs, SqT K H a xs → xs[i]? = some x,
   fun i H => ∃ xs : List V, SqT K H a xs ∧ xs.length = i⟩
theorem turn_enumT {P : Program} {w : World} {K : PySem.W.Frag} {elts : List Expr} {kk : Nat} {tpos : Pos} (a e it : Addr) :
    Turn P w K (.Tuple elts kk tpos) (IteT K a) [e, it] e (fun i h => (∃ old, IsEnum h e it ((i : Nat) : Int) old) ∧ h.IsTupleIter it a i ∧ e ≠ it ∧ a ≠ it ∧ a ≠ e) where
  mem := by simp
  obj := fun i h st b hb => by
    obtain ⟨⟨old, he⟩, ⟨o, ho, hc, hd⟩, _⟩ := st
    have hb' : b = e ∨ b = it := by simpa using hb
    rcases hb' with z | z
    · rw [z]; exact ⟨_, he, fun v q => nomatch q⟩
    · rw [z]; exact ⟨o, ho, fun v q => by rw [hd] at q; cases q⟩
  keep := fun i h h' st k => by
    obtain ⟨⟨old, he⟩, hi, hne⟩ := st
    exact ⟨⟨old, k e (by simp) _ he⟩, hi.at fun o q => k it (by simp) o q, hne⟩
  item := by
    intro X hP hw hK hc i pins s σ H E I hf st hg
    subst hP hw hK
    obtain ⟨⟨old, he⟩, hit, hne, hai, hae⟩ := st
    obtain ⟨xs, x, hq, hx⟩ := hg
    obtain ⟨its, rv, p, hz⟩ := I.tuple hq
    obtain ⟨u, hu, ru⟩ := rv.get hx
    have hel : e < s.heap.objs.size := Heap.lt_size he
    have hil : it < s.heap.objs.size := by obtain ⟨_, q, _⟩ := hit; exact Heap.lt_size q
    have hh : X.A.handled = none := I.ok.hd hc
    refine wpAny_pyNext_enum_itemD (Draws.tuple (A := X.A.in1) hh it a hai its.toArray) he ⟨hit, p⟩ ?_ hne ?_ fun y h' tk hy ho hst hT hsz hk => ?_
    · have := (List.getElem?_eq_some_iff.mp hu).1
      simpa using this
    · intro hm
      have hm' : e = it ∨ e = a := by simpa using hm
      rcases hm' with z | z
      · exact hne z
      · exact hae z.symm
    · have ey : y = u := by
        have hy' : its[i]? = some y := by simpa using hy
        exact Option.some.inj (hy'.symm.trans hu)
      subst ey
      refine ⟨_, rfl, wpAny_letOwnedTupleGo_enum (s := { s with heap := h', toks := tk + 1 }) ho fun h'' he' sb => ?_⟩
      have hT2 : h''.get? s.heap.objs.size = some { cls := .type "tuple", data := .seq #[.int i tk, y] } := (sb.2 _ (Nat.ne_of_gt hel)).trans hT
      have new : ObjOk X.prog X.w (upd H s.heap.objs.size (.tup [.int (i : Nat), x])) h'' s.heap.objs.size (.tup [.int (i : Nat), x]) :=
        ⟨by show 2 ≤ sizeLine; decide, [.int i tk, y], .cons ⟨_, rfl⟩ (.cons ru .nil), ⟨_, hT2, rfl, _, rfl⟩⟩
      have I1 : Inv X pins σ (upd H s.heap.objs.size (.tup [.int (i : Nat), x])) { s with heap := h'', toks := tk + 1 } :=
        I.turnedNew (ch := [e, it]) (fun b ob hb q => (sb.2 b (fun z => hb (by simp [z]))).trans (hk b ob (fun z => hb (by simp [z])) (fun z => hb (by simp [z])) q)) hf (Nat.le_refl _) new
      refine ⟨.ref s.heap.objs.size, _, I1, rfl, ⟨_, x, rfl, I.hok.fresh (Nat.le_refl _), rfl, fun ys hy => by rw [I.tuple_inj hy hq]; exact hx⟩, ⟨⟨y, ?_⟩, hst.1.at fun o q => (sb.2 it (Ne.symm hne)).trans q, hne, hai, hae⟩, fun b hb => ?_⟩
      · have e1 : ((i + 1 : Nat) : Int) = (i : Int) + 1 := by omega
        rw [e1]; exact he'
      · have hb' : b < s.heap.objs.size := by
          have hb2 : b = e ∨ b = it := by simpa using hb
          rcases hb2 with z | z
          · rw [z]; exact hel
          · rw [z]; exact hil
        rw [upd_ne (Nat.ne_of_lt hb')]
        exact (hf b hb).1
  done := by
    intro X hP hw hK hc i pins s σ H E I hf st hg
    subst hP hw hK
    obtain ⟨⟨old, he⟩, hit, hne, hai, hae⟩ := st
    obtain ⟨xs, hq, hx⟩ := hg
    obtain ⟨its, rv, p, hz⟩ := I.tuple hq
    obtain ⟨f0, f1, f2, f3, f4, f5⟩ := hf it (by simp)
    have hl := rv.length
    have hh : X.A.handled = none := I.ok.hd hc
    have ei : its.toArray.size = i := by rw [List.size_toArray, ← hl]; exact hx
    have st2 : s.heap.IsTupleIter it a its.toArray.size ∧ s.heap.IsTuple a its.toArray := by rw [ei]; exact ⟨hit, p⟩
    exact wpAny_pyNext_enum_endD (Draws.tuple (A := X.A.in1) hh it a hai its.toArray) he st2 fun h' eb => ⟨rfl, I.turned (t' := s.toks) (fun b o hb q => eb b o hb q) f0 f1 f3 f4 f5⟩
  self := fun A i s Q E st h => by
    obtain ⟨⟨_, he⟩, _⟩ := st
    exact wpAny_pyIter_enum he h
def iEnumT (K : PySem.W.Frag) (ta : TA) : TI := fun σ H R => ta σ H fun vs H1 => ∃ a xs, vs = [.ref a] ∧ SqT K H1 a xs ∧ R (IteT K a) H1
theorem pi_enumT {X : Cx} {e : Expr} {ta : TA} {p pos tpos : Pos} {elts : List Expr} {kk : Nat} (hg : Gl X "enumerate") (hm : X.mg "enumerate" = none) (ha : PA X [e] ta) (hs : starEach [e] X.env = [(false, eval e X.env)] := by rfl) :
    PI X (.Tuple elts kk tpos) (.Call (.Name "enumerate" p) [e] [] pos) (iEnumT X.K ta) := by
  refine ⟨fun pins s σ H R I h => Call_ (ld_blt I hg hm boot_enumerate (PyProof.Rows.callWith_type1 (thn (ha.run pos pins s σ H _ I h) fun us s1 ⟨vs, H1, I1, r1, q1⟩ => ?_) hs rfl))⟩
  obtain ⟨a, xs, rfl, hq, q⟩ := q1
  cases r1 with
  | cons r rr =>
    cases rr
    cases r
    obtain ⟨its, rv, p', hz⟩ := I1.tuple hq
    have hal : a < s1.heap.objs.size := by obtain ⟨o, ho, _⟩ := p'; exact Heap.lt_size ho
    refine G_enumCall (begins_tuple a its.toArray) p' fun h' he hit hk => wpAny_pyIter_enum he ?_
    have I2 : Inv X pins σ H1 { s1 with heap := h' } := I1.kept (t' := s1.toks) hk
    refine ⟨s1.heap.objs.size + 1, [s1.heap.objs.size + 1, s1.heap.objs.size], _, _, H1, rfl, I2, turn_enumT a (s1.heap.objs.size + 1) s1.heap.objs.size,
      ⟨⟨.none, he⟩, ⟨_, hit, rfl, rfl⟩, Nat.succ_ne_self _, Nat.ne_of_lt hal, Nat.ne_of_lt (Nat.lt_succ_of_lt hal)⟩, fun b hb => ?_, q⟩
    have hb' : b = s1.heap.objs.size + 1 ∨ b = s1.heap.objs.size := by simpa using hb
    have hle : s1.heap.objs.size ≤ b := by
      rcases hb' with z | z
      · rw [z]; exact Nat.le_add_right _ _
      · rw [z]; exact Nat.le_refl _
    exact I1.fpOk hle (I1.hok.fresh hle)
theorem walk_enumT {K : PySem.W.Frag} {a : Addr} {xs : List V} : Walk (IteT K a) xs.length (fun H => SqT K H a xs) (YPair (fun i => some (.int (i : Nat))) (fun i => xs[i]?)) := by
  refine ⟨fun i _ hi q => ⟨xs, xs[i], q, by simp [hi]⟩, fun _ q => ⟨xs, q, rfl⟩, fun i H v H' _ q y => ?_⟩
  obtain ⟨T, x, h1, h2, h3, h4⟩ := y
  exact ⟨T, .int (i : Nat), x, h1, h2, h3, rfl, h4 xs q⟩
theorem kPiEnumT {X : Cx} {K : PySem.W.Frag} {e : Expr} {ta : TA} {p pos tpos : Pos} {elts : List Expr} {kk : Nat} (h : X.K = K) (hg : Gl X "enumerate") (hm : X.mg "enumerate" = none) (ha : PA X [e] ta) (hs : starEach [e] X.env = [(false, eval e X.env)] := by rfl) :
    PI X (.Tuple elts kk tpos) (.Call (.Name "enumerate" p) [e] [] pos) (iEnumT K ta) := by subst h; exact pi_enumT hg hm ha hs
end G
/-! t[a::2], t a tuple -/
namespace HT
open PySem PySem.Spec PyProof.Rows L2
section
variable {prog : Program} {w : World} {A : Around} {E : Value → Shared → Prop} {s : Shared}
theorem g_applied {sl : Addr} {vl vu vs : Value} {lo hi : Option Int} {st : Int} {n : Nat} {Q : Int × Int × Nat → Shared → Prop} (hs : s.heap.IsSliceOf sl vl vu vs) (pl : IsPart vl lo) (pu : IsPart vu hi) (ps : IsPart vs (some st)) (h0 : st ≠ 0)
    (h : Q ((Builtin.Slice.sliceAdjust lo hi st (n : Int)).1, st, Builtin.Slice.slicePlaces (Builtin.Slice.sliceAdjust lo hi st (n : Int)).1 (Builtin.Slice.sliceAdjust lo hi st (n : Int)).2 st) s) :
    wpAny (model prog w) A (Builtin.Slice.sliceApplied (.ref sl) (pure (n : Int))) Q E s := by
  obtain ⟨ob, hob, _, hd⟩ := id hs
  unfold Builtin.Slice.sliceApplied Builtin.Slice.sliceFields
  refine wpAny_bind (wpAny_bind (wpAny_field hob hd (x := vl) rfl (wpAny_bind (wpAny_field hob hd (x := vu) rfl (wpAny_bind (wpAny_field hob hd (x := vs) rfl (wpAny_pure ?_)))))))
  refine wpAny_bind (slicePart_ ps ?_)
  show wpAny _ _ (if (st == 0) = true then _ else _) _ _ s
  rw [if_neg (by intro q; exact h0 (eq_of_beq q))]
  exact wpAny_bind (slicePart_ pl (wpAny_bind (slicePart_ pu (wpAny_bind (wpAny_pure (wpAny_pure h))))))
def stepped (xs : List Value) (lo st : Int) (n : Nat) : List Value := (List.range n).filterMap fun (k : Nat) => xs.toArray[(lo + (k : Int) * st).toNat]?
theorem g_getStep {t sl : Addr} {its : List Value} {vl vu vs : Value} {lo hi : Option Int} {st : Int} {Q : Value → Shared → Prop} (ht : IsTup s.heap t its.toArray) (hs : s.heap.IsSliceOf sl vl vu vs) (pl : IsPart vl lo) (pu : IsPart vu hi) (ps : IsPart vs (some st)) (h0 : st ≠ 0) (h1 : st ≠ 1)
    (hz : (stepped its (Builtin.Slice.sliceAdjust lo hi st (its.toArray.size : Int)).1 st (Builtin.Slice.slicePlaces (Builtin.Slice.sliceAdjust lo hi st (its.toArray.size : Int)).1 (Builtin.Slice.sliceAdjust lo hi st (its.toArray.size : Int)).2 st)).length ≤ sizeLine)
    (h : Q (.ref s.heap.objs.size) { s with heap := s.heap.push { cls := .type "tuple", data := .seq (stepped its (Builtin.Slice.sliceAdjust lo hi st (its.toArray.size : Int)).1 st (Builtin.Slice.slicePlaces (Builtin.Slice.sliceAdjust lo hi st (its.toArray.size : Int)).1 (Builtin.Slice.sliceAdjust lo hi st (its.toArray.size : Int)).2 st)).toArray } }) :
    wpAny (model prog w) A (getItem (.ref t) (.ref sl)) Q E s := by
  have ok : sizeOk (.seq (stepped its (Builtin.Slice.sliceAdjust lo hi st (its.toArray.size : Int)).1 st (Builtin.Slice.slicePlaces (Builtin.Slice.sliceAdjust lo hi st (its.toArray.size : Int)).1 (Builtin.Slice.sliceAdjust lo hi st (its.toArray.size : Int)).2 st)).toArray) := by
    show (stepped its _ st _).toArray.size ≤ sizeLine
    rw [List.size_toArray]; exact hz
  obtain ⟨ob, hob, hc, hd⟩ := id hs
  have hTs : s.TypeIs (.ref sl) "slice" := ⟨ob, hob, hc⟩
  unfold getItem
  try with_reducible refine wpAny_holding ?_
  first | refine wpAny_bind (wpAny_pure ?_) | skip
  refine wpAny_bind (wpAny_sequenceKey ht.typeIs (by decide) ?_)
  refine wpAny_bind (wpAny_callSpecial?_slot (name := Str.ofString "__getitem__") ht.typeIs slot_tuple_getitem (wpAny_call_entry slot_tuple_getitem ht.typeIs entry_tuple_getitem ?_ (args_tuple_getitem _ _)))
  show wpAny _ _ (Builtin.Tuple.tupleItemsOf (.ref t) >>= _) _ _ s
  refine wpAny_bind (tupleItemsOf_ ht (wpAny_bind (wpAny_typeOf hTs ?_)))
  rw [if_pos (by decide)]
  refine wpAny_bind (g_applied hs pl pu ps h0 ?_)
  generalize (Builtin.Slice.sliceAdjust lo hi st (its.toArray.size : Int)).1 = l0 at *
  generalize Builtin.Slice.slicePlaces l0 (Builtin.Slice.sliceAdjust lo hi st (its.toArray.size : Int)).2 st = n0 at *
  have hno : ¬ ((l0 == 0 && st == 1 && n0 == its.toArray.size) = true) := by
    intro q
    rw [Bool.and_eq_true, Bool.and_eq_true] at q
    exact h1 (eq_of_beq q.1.2)
  show wpAny _ _ (if (l0 == 0 && st == 1 && n0 == its.toArray.size) = true then _ else _) _ _ s
  rw [if_neg hno]
  first
    | exact wpAny_bind (m := Builtin.Tuple.tupleExact _) (wpAny_newObj_type (wpAny_pure ⟨_, rfl, wpAny_pure h⟩) ok)
    | exact wpAny_bind (m := Builtin.Tuple.tupleExact _) (wpAny_newObj_type (wpAny_bind (wpAny_pure (wpAny_pure ⟨_, rfl, wpAny_pure h⟩))) ok)
    | exact wpAny_bind (wpAny_bind (m := Builtin.Tuple.tupleExact _) (wpAny_newObj_type (wpAny_pure (wpAny_pure ⟨_, rfl, wpAny_pure h⟩)) ok))
    | exact wpAny_bind (wpAny_bind (m := Builtin.Tuple.tupleExact _) (wpAny_newObj_type (wpAny_pure ⟨_, rfl, wpAny_pure h⟩) ok))
end
end HT
namespace G
open PySem PySem.Spec PyProof.Rows L2 Evl
/-- every second item from a on -/
def halfL {α : Type} (a : Nat) (xs : List α) : List α := (List.range ((xs.length - a + 1) / 2)).filterMap fun k => xs[a + 2 * k]?
theorem halfL_len {α : Type} (a : Nat) (xs : List α) : (halfL a xs).length ≤ xs.length + 1 := by
  unfold halfL
  refine Nat.le_trans (List.length_filterMap_le _ _) ?_
  rw [List.length_range]; omega
theorem vals_filterMap {f : Nat → Option V} {g : Nat → Option Value} : ∀ {l : List Nat}, (∀ k, k ∈ l → RelO (f k) (g k)) → Vals (l.filterMap f) (l.filterMap g)
  | [], _ => .nil
  | k :: r, h => by
    have hk := h k (List.mem_cons_self ..)
    have ih := vals_filterMap (l := r) fun j hj => h j (List.mem_cons_of_mem _ hj)
    rw [List.filterMap_cons, List.filterMap_cons]
    cases e : f k with
    | none =>
      cases e2 : g k with
      | none => exact ih
      | some u => rw [e, e2] at hk; exact hk.elim
    | some v =>
      cases e2 : g k with
      | none => rw [e, e2] at hk; exact hk.elim
      | some u => rw [e, e2] at hk; exact .cons hk ih
def tHalf (K : PySem.W.Frag) (a : Nat) (te : TE) : TE := fun σ H Q => te σ H fun x H1 => ∃ t xs, x = .ref t ∧ SqT K H1 t xs ∧ xs.length ≤ 100000 ∧ ∀ p, H1 p = none → Q (.ref p) (upd H1 p (.tup (halfL a xs)))
theorem half_places {a n : Nat} (h : a ≤ 1) : (Builtin.Slice.sliceAdjust (some (a : Int)) none 2 (n : Int)).1 = ((min a n : Nat) : Int) ∧
    Builtin.Slice.slicePlaces (Builtin.Slice.sliceAdjust (some (a : Int)) none 2 (n : Int)).1 (Builtin.Slice.sliceAdjust (some (a : Int)) none 2 (n : Int)).2 2 = (n - a + 1) / 2 := by
  have h2 : ¬ ((2 : Int) < 0) := by omega
  have h3 : (2 : Int) > 0 := by omega
  have ha : ¬ ((a : Int) < 0) := by omega
  have e : Builtin.Slice.sliceAdjust (some (a : Int)) none 2 (n : Int) = (((min a n : Nat) : Int), (n : Int)) := by
    unfold Builtin.Slice.sliceAdjust
    simp only [h2, if_false, ha]
    refine Prod.ext ?_ rfl
    show min (a : Int) (n : Int) = ((min a n : Nat) : Int)
    omega
  rw [e]
  refine ⟨rfl, ?_⟩
  show Builtin.Slice.slicePlaces ((min a n : Nat) : Int) (n : Int) 2 = (n - a + 1) / 2
  unfold Builtin.Slice.slicePlaces
  simp only [h3, if_true]
  split <;> omega
section
variable {X : Cx}
theorem pe_half {e : Expr} {te : TE} {a : Nat} {k1 k2 : Nat} {p1 p2 p3 pos : Pos} (ha : a ≤ 1) (he : PE X e te) : PE X (.Subscript e (.Slice (some (.Constant (.int (a : Int)) k1 p1)) none (some (.Constant (.int 2) k2 p2)) p3) pos) (tHalf X.K a te) := by
  refine ⟨fun pins s σ H Q I h => Subscript_ (thn (he.run pins s σ H _ I h) fun v s1 ⟨x, H1, I1, r1, q1⟩ => ?_)⟩
  obtain ⟨t, xs, rfl, hx, hlen, q⟩ := q1
  cases r1
  have hlo : PO X (some (.Constant (.int (a : Int)) k1 p1)) (tPart (tC (.int (a : Int)))) := po_some pe_int
  have hst : PO X (some (.Constant (.int 2) k2 p2)) (tPart (tC (.int 2))) := po_some pe_int
  refine wpAny_Slice (thn (hlo.run pins s1 σ H1 (fun o H2 => o = some (a : Int) ∧ H2 = H1) I1 ⟨_, rfl, rfl, rfl⟩) fun vl s2 ⟨l, H2, I2, pl, el, e2⟩ => ?_)
  subst el e2
  refine thn (po_none.run pins s2 σ H2 (fun o H3 => o = none ∧ H3 = H2) I2 ⟨rfl, rfl⟩) fun vu s3 ⟨u, H3, I3, pu, eu, e3⟩ => ?_
  subst eu e3
  refine thn (hst.run pins s3 σ H3 (fun o H4 => o = some 2 ∧ H4 = H3) I3 ⟨_, rfl, rfl, rfl⟩) fun vs s4 ⟨o, H4, I4, ps, eo, e4⟩ => ?_
  subst eo e4
  have I5 : Inv X pins σ H4 { s4 with heap := s4.heap.push { cls := .type "slice", data := .fields #[vl, vu, vs] } } := I4.kept (t' := s4.toks) fun b ob q => Heap.get?_push_of_some _ q
  obtain ⟨its, r, ht, hz⟩ := I5.tuple hx
  have hl : its.toArray.size = xs.length := by rw [List.size_toArray]; exact r.length.symm
  obtain ⟨hp1, hp2⟩ := half_places (n := xs.length) ha
  have hrel : Vals (halfL a xs) (HT.stepped its ((min a xs.length : Nat) : Int) 2 ((xs.length - a + 1) / 2)) := by
    unfold halfL HT.stepped
    refine vals_filterMap fun k hk => ?_
    have hk' := List.mem_range.mp hk
    have hi : a + 2 * k < xs.length := by omega
    have en : (((min a xs.length : Nat) : Int) + (k : Int) * 2).toNat = a + 2 * k := by omega
    rw [en, List.getElem?_eq_getElem hi]
    obtain ⟨u, hu, ru⟩ := r.get (List.getElem?_eq_getElem hi)
    rw [List.getElem?_toArray, hu]
    exact ru
  have hsz : (halfL a xs).length ≤ sizeLine := sz_of (by
    unfold halfL
    refine Nat.le_trans (List.length_filterMap_le _ _) ?_
    rw [List.length_range]
    omega)
  show wpAny (model X.prog X.w) X.A (subscriptTail e (.Slice (some (.Constant (.int (a : Int)) k1 p1)) none (some (.Constant (.int 2) k2 p2)) p3) (.ref t) (.ref s4.heap.objs.size)) (EP X pins σ Q) X.xe { s4 with heap := s4.heap.push { cls := .type "slice", data := .fields #[vl, vu, vs] } }
  refine tail_any (ops := [.ref t, .ref s4.heap.objs.size]) ht.typeIs PyProof.Rows.slot_tuple_getitem.lookup ?_ (by with_unfolding_all rfl)
  refine HT.g_getStep ht (Heap.IsSliceOf.new _ vl vu vs) pl pu ps (by decide) (by decide) ?_ ?_
  · rw [hl, hp2, hp1, ← hrel.length]; exact hsz
  · rw [hl, hp2, hp1]
    refine ⟨.ref _, _, I5.laid (t' := s4.toks) (o := .tup (halfL a xs)) (fun b ob q => Heap.get?_push_of_some _ q) (Nat.le_refl _) ?_, rfl, q _ (I5.hok.fresh (Nat.le_refl _))⟩
    exact ⟨hsz, _, hrel, ⟨_, Heap.get?_push_size _ rfl, rfl, _, rfl⟩⟩
end
end G
namespace HX
open PySem PySem.Spec PyProof.Rows L2 L2H HotX
/-! ## walks and comprehensions while an exception is handled -/
/-- like a turn, but what the end wants is told by the heap: the handled exception stands there -/
structure TurnA (P : Program) (w : World) (K : PySem.W.Frag) (tg : Expr) (J : It) (fp : List Addr) (it : Addr) (tn : Nat → Heap → Prop) : Prop where
  mem : it ∈ fp
  obj : ∀ n h, tn n h → ∀ b ∈ fp, ∃ o, h.get? b = some o ∧ ∀ v, o.data ≠ .cell v
  keep : ∀ n h h', tn n h → (∀ b ∈ fp, ∀ o, h.get? b = some o → h'.get? b = some o) → tn n h'
  item : ∀ (X : Cx), X.prog = P → X.w = w → X.K = K → ∀ (n : Nat) (pins : List (Addr × Obj)) (s : Shared) (σ : L2.St) (H : Hp) (E : Value → Shared → Prop), Inv X pins σ H s → (∀ b ∈ fp, FpOk X pins H b) → tn n s.heap → J.go n H →
    wpAny (model P w) X.A (pyNext (.ref it)) (fun r s1 => ∃ u, r = some u ∧ wpAny (model P w) X.A (letOwnedTupleGo tg (.ref it) u) (fun _ s2 => ∃ x H', Inv X pins σ H' s2 ∧ RelV x u ∧ J.yld n H x H' ∧ tn (n + 1) s2.heap ∧ ∀ b ∈ fp, H' b = none) E s1) E s
  done : ∀ (X : Cx), X.prog = P → X.w = w → X.K = K → ∀ (n : Nat) (pins : List (Addr × Obj)) (s : Shared) (σ : L2.St) (H : Hp) (E : Value → Shared → Prop), (∃ x1, HotAt X.A x1 s.heap) → Inv X pins σ H s → (∀ b ∈ fp, FpOk X pins H b) → tn n s.heap → J.stop n H →
    wpAny (model P w) X.A (pyNext (.ref it)) (fun r s1 => r = none ∧ Inv X pins σ H s1) E s
  self : ∀ (A : Around) (n : Nat) (s : Shared) (Q : Value → Shared → Prop) (E : Value → Shared → Prop), tn n s.heap → Q (.ref it) s → wpAny (model P w) A (pyIter (.ref it)) Q E s
/-- a turn that asks the heap alone serves where the context bears the exception -/
theorem TurnA.hot {P : Program} {w : World} {K : PySem.W.Frag} {tg : Expr} {J : It} {fp : List Addr} {it : Addr} {tn : Nat → Heap → Prop} (T : TurnA P w K tg J fp it tn) : TurnH P w K tg J fp it tn :=
  ⟨T.mem, T.obj, T.keep, (fun X a b c _ => T.item X a b c), (fun X a b c h n pins s σ H E I => T.done X a b c n pins s σ H E (h.at I) I), T.self⟩
theorem turnA_range {P : Program} {w : World} {K : PySem.W.Frag} {tg : Expr} (it : Addr) (lo : Int) (many : Nat) : TurnA P w K tg (Itr lo many) [it] it (fun n h => IsRangeIter h it (lo + (n : Nat) * 1) ((many : Int) - (n : Nat)) 1) := by
  refine ⟨List.mem_singleton.mpr rfl, fun n h st b hb => ?_, fun n h h' st k => k it (List.mem_singleton.mpr rfl) _ st, fun X hP hw hK n pins s σ H E I hf st hg => ?_, fun X hP hw hK n pins s σ H E hot I hf st hg => ?_, fun _ _ _ _ _ st h => wpAny_pyIter_rangeiter st h⟩
  · rw [List.mem_singleton.mp hb]
    exact ⟨_, st, fun v z => by have z : Data.fields _ = Data.cell v := z; cases z⟩
  · subst hP hw hK
    obtain ⟨f0, f1, f2, f3, f4, f5⟩ := hf it (List.mem_singleton.mpr rfl)
    have hlt : n < many := hg
    refine wpAny_pyNext_range_item st (by omega) fun h' st' sb => ?_
    have e1 : lo + ((n : Nat) : Int) * 1 + 1 = lo + ((n + 1 : Nat) : Int) * 1 := by omega
    have e2 : (many : Int) - ((n : Nat) : Int) - 1 = (many : Int) - ((n + 1 : Nat) : Int) := by omega
    rw [e1, e2] at st'
    have I1 := I.turned (t' := s.toks + 1) (fun b o hb e => (sb.2 b hb).trans e) f0 f1 f3 f4 f5
    refine ⟨_, rfl, go_of (s := { s with heap := h', toks := s.toks + 1 }) (n := "range_iterator") st' rfl rfl (by decide) ⟨.int (lo + n), H, I1, ⟨s.toks, by rw [Int.mul_one]⟩, ⟨rfl, rfl⟩, st', fun b hb => (hf b hb).1⟩⟩
  · subst hP hw hK
    obtain ⟨f0, f1, f2, f3, f4, f5⟩ := hf it (List.mem_singleton.mpr rfl)
    obtain ⟨x1, hx⟩ := hot
    have hle : many ≤ n := hg
    exact pyNext_range_end_hot hx st (by omega) fun h' eb => ⟨rfl, I.turned (t' := s.toks) (fun b o _ e => eb b o e) f0 f1 f3 f4 f5⟩
section
variable {prog : Program} {w : World} {A : Around} {E : Value → Shared → Prop} {s : Shared}
/-- the end of a tuple's iterator -/
theorem tuple_end_hot {it t x1 : Addr} {i : Nat} {items : Array Value} {Q : Option Value → Shared → Prop} (hot : HotAt A x1 s.heap) (hit : s.heap.IsTupleIter it t i) (ht : s.heap.IsTuple t items) (hx : items[i]? = none)
    (hQ : ∀ h', (∀ b o, b ≠ it → s.heap.get? b = some o → h'.get? b = some o) → Q none { s with heap := h' }) : wpAny (model prog w) A (pyNext (.ref it)) Q E s := by
  obtain ⟨o, ho, hcl, hd⟩ := id hit
  obtain ⟨ol, hol, _, nl, hdl⟩ := ht
  obtain ⟨hh, o1, vs1, h1, d1, c1⟩ := hot
  have hne : x1 ≠ it := fun z => by
    rw [z, ho] at h1
    cases h1
    rw [hd] at d1
    cases d1
    cases c1
  unfold pyNext
  refine wpAny_bind (wpAny_attempt (wpAny_callSpecial?_slot (name := Str.ofString "__next__") hit.typeIs F.slot_tuple_iterator_next (wpAny_call_entry F.slot_tuple_iterator_next hit.typeIs F.entry_tuple_iterator_next ?_ (F.args_tuple_iterator_next_1 _))))
  refine wpAny_bind (m := field (.ref it) 0) (wpAny_field ho hd (x := .ref t) rfl ?_)
  show wpAny (model prog w) _ (if (Value.ref t == Value.none) = true then _ else _) _ _ s
  rw [if_neg fun z : (Value.ref t == Value.none) = true => Bool.false_ne_true z]
  refine wpAny_bind (m := field (.ref it) 1) (wpAny_field ho hd (x := .int i 0) rfl ?_)
  refine wpAny_bind (m := seqItems? (.ref t)) (wpAny_seqItems hol hdl ?_)
  simp only [Int.toNat_natCast, hx]
  refine wpAny_bind (wpAny_rule (wpAny_bind (wpAny_setField ho hd (by simp) ?_)))
  refine wpAny_bind (m := newExc (.type "StopIteration") []) ?_
  simp only [newExc, newTuple]
  have g1 : (s.heap.update it (Obj.mapFields (·.setIfInBounds 0 .none))).get? x1 = some o1 := (Heap.get?_update_other _ _ (Ne.symm hne)).trans h1
  refine wpAny_bind (wpAny_newObj_type ?_ (by size_fits))
  refine wpAny_bind (m := firstArgMember _ _) (wpAny_of_eq (a := Value.none) (by first | rfl | (simp only [firstArgMember]; rfl)) ?_)
  refine wpAny_newObj_type ?_ (by size_fits)
  refine raiseNew_hot ⟨hh, o1, vs1, Heap.get?_push_of_some _ (Heap.get?_push_of_some _ g1), d1, c1⟩ (Nat.ne_of_lt (Heap.lt_size (Heap.get?_push_of_some _ g1))) (Heap.get?_push_size _ rfl) rfl (by first | (simp; done) | (simp; omega) | (simp only [Array.size_append]; simp; omega)) ?_
  refine wpAny_bind (wpAny_isInstance (T := "StopIteration") (b := true) ⟨_, Heap.get?_update_self _ (Heap.get?_push_size _ rfl) rfl, rfl⟩ isSubtype_stop ?_)
  refine wpAny_pure (hQ _ fun b o' hb e => ?_)
  have g2 : (s.heap.update it (Obj.mapFields (·.setIfInBounds 0 .none))).get? b = some o' := (Heap.get?_update_other _ _ (Ne.symm hb)).trans e
  rw [Heap.get?_update_other _ _ (Nat.ne_of_gt (Heap.lt_size (Heap.get?_push_of_some _ g2)))]
  exact Heap.get?_push_of_some _ (Heap.get?_push_of_some _ g2)
end
theorem turnA_tuple {P : Program} {w : World} {K : PySem.W.Frag} {tg : Expr} (a it : Addr) : TurnA P w K tg (Itt K a) [it] it (fun n h => h.IsTupleIter it a n) := by
  refine ⟨List.mem_singleton.mpr rfl, fun n h st b hb => ?_, fun n h h' st k => st.at fun o e => k it (List.mem_singleton.mpr rfl) o e, fun X hP hw hK n pins s σ H E I hf st hg => ?_, fun X hP hw hK n pins s σ H E hot I hf st hg => ?_, fun _ _ _ _ _ st h => wpAny_pyIter_tupleiter st h⟩
  · obtain ⟨o, e, _, dd⟩ := st
    rw [List.mem_singleton.mp hb]
    exact ⟨o, e, fun v z => by rw [dd] at z; cases z⟩
  · subst hP hw hK
    obtain ⟨xs, x, hq, hx⟩ := hg
    obtain ⟨its, rv, pl, _⟩ := I.tuple hq
    obtain ⟨u, hu, ru⟩ := rv.get hx
    obtain ⟨f0, f1, f2, f3, f4, f5⟩ := hf it (List.mem_singleton.mpr rfl)
    refine wpAny_pyNext_tuple_item st (show s.heap.IsTuple a its.toArray from pl) (x := u) (by simpa using hu) fun h' st' sb => ?_
    have I1 := I.turned (t' := s.toks) (fun b o hb e => (sb.2 b hb).trans e) f0 f1 f3 f4 f5
    obtain ⟨o, e, cl, dd⟩ := id st'
    exact ⟨u, rfl, go_of (s := { s with heap := h' }) e cl dd (by decide) ⟨x, H, I1, ru, ⟨rfl, fun ys hy => by rw [I.tuple_inj hy hq]; exact hx⟩, st', fun b hb => (hf b hb).1⟩⟩
  · subst hP hw hK
    obtain ⟨xs, hq, hx⟩ := hg
    obtain ⟨its, rv, pl, _⟩ := I.tuple hq
    obtain ⟨f0, f1, f2, f3, f4, f5⟩ := hf it (List.mem_singleton.mpr rfl)
    obtain ⟨x1, hx1⟩ := hot
    have hlen := rv.length
    exact tuple_end_hot hx1 st (show s.heap.IsTuple a its.toArray from pl) (by simp; omega) fun h' eb => ⟨rfl, I.turned (t' := s.toks) (fun b o hb e => eb b o hb e) f0 f1 f3 f4 f5⟩
/-- what is walked, its end by the heap -/
structure PIA (X : Cx) (tg iter : Expr) (wi : TI) : Prop where
  run : ∀ (pins : List (Addr × Obj)) (s : Shared) (σ : L2.St) (H : Hp) (R : It → Hp → Prop), Inv X pins σ H s → wi σ H R →
    wpAny (model X.prog X.w) X.A (eval iter X.env) (fun v s1 => wpAny (model X.prog X.w) X.A (pyIter v) (fun iv s2 => ∃ (it : Addr) (fp : List Addr) (tn : Nat → Heap → Prop) (J : It) (H' : Hp), iv = .ref it ∧ Inv X pins σ H' s2 ∧ TurnA X.prog X.w X.K tg J fp it tn ∧ tn 0 s2.heap ∧ (∀ b ∈ fp, FpOk X pins H' b) ∧ R J H') X.xe s1) X.xe s
theorem PIA.hot {X : Cx} {tg iter : Expr} {wi : TI} (h : PIA X tg iter wi) : PIH X tg iter wi :=
  ⟨fun pins s σ H R I hh => thn (h.run pins s σ H R I hh) fun v s1 k => thn k fun iv s2 ⟨it, fp, tn, J, H', e, I', T, st, f, q⟩ => ⟨it, fp, tn, J, H', e, I', T.hot, st, f, q⟩⟩
section
variable {X : Cx} {tg : Expr}
theorem pia_tup {l : Expr} {tl : TE} (hl : PE X l tl) : PIA X tg l (iTup X.K tl) := by
  refine ⟨fun pins s σ H R I h => thn (hl.run pins s σ H _ I h) fun v s1 ⟨x, H1, I1, r1, a, ex, ⟨xs, hq⟩, q⟩ => ?_⟩
  subst ex
  cases r1
  obtain ⟨its, rv, pl, _⟩ := I1.tuple hq
  refine wpAny_pyIter_tuple (show s1.heap.IsTuple a its.toArray from pl) ⟨s1.heap.objs.size, [s1.heap.objs.size], _, _, H1, rfl, I1.kept (t' := s1.toks) fun b o e => Heap.get?_push_of_some _ e, turnA_tuple a _, ⟨_, Heap.get?_push_size _ rfl, rfl, rfl⟩, fun b hb => ?_, q⟩
  rw [List.mem_singleton.mp hb]
  exact I1.fpOk (Nat.le_refl _) (I1.hok.fresh (Nat.le_refl _))
theorem pit {l : Expr} {tl : TE} (hl : PE X l tl) : PIH X tg l (iTup X.K tl) := (pia_tup hl).hot
theorem pia_range1 {e : Expr} {ta : TA} {p pos : Pos} (hg : Gl X "range") (hm : X.mg "range" = none) (ha : PA X [e] ta) (hs : starEach [e] X.env = [(false, eval e X.env)] := by rfl) : PIA X tg (.Call (.Name "range" p) [e] [] pos) (iRng1 ta) := by
  refine ⟨fun pins s σ H R I h => Call_ (ld_blt I hg hm boot_range (PyProof.Rows.callWith_type1 (thn (ha.run pos pins s σ H _ I h) fun us s1 ⟨vs, H1, I1, r1, j, ej, b1, b2, q⟩ => ?_) hs rfl))⟩
  subst ej
  cases r1 with
  | cons rx rr =>
    cases rr
    obtain ⟨t, rfl⟩ := rx
    refine call_range_1 (wpAny_pyIter_range (IsRange.new ..) (small_one (by omega) (by omega) b1 b2) ?_)
    have I2 : Inv X pins σ H1 { s1 with heap := s1.heap.push { cls := .type "range", data := .fields #[.int 0 s1.toks, .int j t, .int 1 (s1.toks + 1)] }, toks := s1.toks + 1 + 1 } := I1.kept fun b o e => Heap.get?_push_of_some _ e
    generalize hS : ({ s1 with heap := s1.heap.push { cls := .type "range", data := .fields #[.int 0 s1.toks, .int j t, .int 1 (s1.toks + 1)] }, toks := s1.toks + 1 + 1 } : Shared) = S at I2 ⊢
    refine ⟨S.heap.objs.size, [S.heap.objs.size], _, _, H1, rfl, I2.kept (t' := S.toks) fun b o e => Heap.get?_push_of_some _ e, turnA_range _ 0 j.toNat, ?_, fun b hb => ?_, q⟩
    · have e1 : (0 : Int) + ((0 : Nat) : Int) * 1 = 0 := rfl
      have e2 : ((j.toNat : Nat) : Int) - ((0 : Nat) : Int) = Builtin.Range.rangeSize 0 j 1 := by rw [rangeSize_one]; split <;> omega
      show IsRangeIter _ _ ((0 : Int) + ((0 : Nat) : Int) * 1) (((j.toNat : Nat) : Int) - ((0 : Nat) : Int)) 1
      rw [e1, e2]
      exact Heap.get?_push_size _ rfl
    · rw [List.mem_singleton.mp hb]
      exact I2.fpOk (Nat.le_refl _) (I2.hok.fresh (Nat.le_refl _))
/-- [elt for target in iter if ..] while an exception is handled -/
theorem pe_lcH {elt tg iter : Expr} {ifs : List Expr} {scope : Scope} {own : List (Str × Nat)} {pos : Pos} {wi : TI} {g : TG} {tt : TT} {te : TE} (hc : HotC X) (hN : X.N.Nodup) (hi : PIA X tg iter wi) (ok : BlkOk X.N X.env.scope scope own)
    (hg : ∀ (s : Shared) (H : Hp) (C : Addr) (cl : List (Str × Addr)) (fp : List Addr), PG (X.blk s H scope (compEnvC scope cl C X.env) fp) tg g) (ht : ∀ (s : Shared) (H : Hp) (C : Addr) (cl : List (Str × Addr)) (fp : List Addr), PTs (X.blk s H scope (compEnvC scope cl C X.env) fp) ifs tt)
    (he : ∀ (s : Shared) (H : Hp) (C : Addr) (cl : List (Str × Addr)) (fp : List Addr), PE (X.blk s H scope (compEnvC scope cl C X.env) fp) elt te) (hs : ∀ x, foldedSetIterable iter X.env x = pure x := by intro _; rfl) :
    PE X (.ListComp elt [⟨tg, iter, ifs, 0⟩] scope pos) (tLc wi g tt te (own.map (·.2))) := by
  refine ⟨fun pins s σ H Q I h => ?_⟩
  rw [eval_ListComp]
  have hfree : ∀ y ∈ scope.names, y.2 = .free → ∃ c, X.env.cells.lookup y.1 = some c := fun y hy e => (ok.free y hy e).elim (fun k => I.ok.has _ (.inl k)) fun k => I.ok.has _ (.inr k)
  refine comprehension_at (use := none) rfl hs (closure_ok hfree) ok.kind (fun y hy e => by rw [ok.uniq y hy, e]) (thn (hi.run pins s σ H _ I h) fun xv s1 hx => thn hx fun itv s2 h2 => ?_)
  obtain ⟨it, fp, tn, J, H2, rfl, I2, T, st2, f2, q⟩ := h2
  refine wpAny_newObj_type (newEnv_comp ?_) (by show 0 ≤ sizeLine; decide)
  have hDn : H2 s2.heap.objs.size = none := I2.hok.fresh (Nat.le_refl _)
  obtain ⟨W, ⟨m0, w0⟩, turn⟩ := q s2.heap.objs.size hDn
  generalize hD : s2.heap.objs.size = D at *
  generalize hs3 : ({ s2 with heap := s2.heap.push { cls := .type "list", data := .seq ([] : List Value).toArray } } : Shared) = s3
  have h3 : s3.heap = s2.heap.push { cls := .type "list", data := .seq ([] : List Value).toArray } := by rw [← hs3]
  have oldk : ∀ b o, s2.heap.get? b = some o → s3.heap.get? b = some o := fun b o e => by rw [h3]; exact Heap.get?_push_of_some _ e
  have I3 : Inv X pins σ (upd H2 D (.lst [])) s3 := by
    rw [← hs3]
    refine I2.laid (t' := s2.toks) (fun b o e => Heap.get?_push_of_some _ e) (Nat.le_of_eq hD) ⟨Nat.zero_le _, [], 0, .nil, ?_⟩
    rw [← hD]
    exact Heap.get?_push_size _ rfl
  have sz : ∀ b ∈ fp, b < s2.heap.objs.size := fun b hb => by
    obtain ⟨o, e, _⟩ := T.obj _ _ st2 b hb
    exact Heap.lt_size e
  generalize hH3 : upd H2 D (.lst []) = H3 at I3 w0
  have f3 : ∀ b ∈ fp, FpOk X pins H3 b ∧ b < s3.heap.objs.size := fun b hb => by
    have lt := sz b hb
    refine ⟨⟨?_, (f2 b hb).2⟩, by rw [h3, Heap.size_push]; exact Nat.lt_succ_of_lt lt⟩
    rw [← hH3, upd_ne (by rw [← hD]; exact Nat.ne_of_lt lt)]
    exact (f2 b hb).1
  have st3 : tn 0 s3.heap := T.keep _ _ _ st2 fun b _ o e => oldk b o e
  have I4 := block_start I3 ok hN f3
  have pg := hg s3 H3 s3.heap.objs.size (cellsFrom (s3.heap.objs.size + 1) scope.names (cloFrom X.env.cells scope.names [])) fp
  have pt := ht s3 H3 s3.heap.objs.size (cellsFrom (s3.heap.objs.size + 1) scope.names (cloFrom X.env.cells scope.names [])) fp
  have pe := he s3 H3 s3.heap.objs.size (cellsFrom (s3.heap.objs.size + 1) scope.names (cloFrom X.env.cells scope.names [])) fp
  show codeAny _ _ (.compStart (.ListComp elt [⟨tg, iter, ifs, 0⟩] scope pos) 0 (.ref it) (.ref D) (compEnvC scope (cellsFrom (s3.heap.objs.size + 1) scope.names (cloFrom X.env.cells scope.names [])) s3.heap.objs.size X.env)) (compEnds (model X.prog X.w) X.A X.xe none (EP X pins σ Q) (.ref D) (compEnvC scope (cellsFrom (s3.heap.objs.size + 1) scope.names (cloFrom X.env.cells scope.names [])) s3.heap.objs.size X.env)) { s3 with heap := pushCells (s3.heap.push { cls := .type "dict", data := .dict #[] }) scope.names }
  have nfp : ∀ b ∈ fp, H3 b = none := fun b hb => (f3 b hb).1.1
  generalize hce : compEnvC scope (cellsFrom (s3.heap.objs.size + 1) scope.names (cloFrom X.env.cells scope.names [])) s3.heap.objs.size X.env = ce at I4 pg pt pe ⊢
  have cL : ce.locals = s3.heap.objs.size := by subst hce; rfl
  generalize hs4 : ({ s3 with heap := pushCells (s3.heap.push { cls := .type "dict", data := .dict #[] }) scope.names } : Shared) = s4 at I4 ⊢
  have st4 : tn 0 s4.heap := T.keep _ _ _ st3 fun b _ o e => by rw [← hs4]; exact pushCells_keeps _ _ _ _ (Heap.get?_push_of_some _ e)
  have stat : ∀ {σ' : L2.St} {H' : Hp} {s' : Shared}, Inv (X.blk s3 H3 scope ce fp) [] σ' H' s' → (∀ b ∈ fp, H' b = none) → ∀ b ∈ fp, FpOk (X.blk s3 H3 scope ce fp) [] H' b := fun {σ' H' s'} I' hn b hb =>
    ⟨hn b hb, (I'.ok.exf b hb).1, I'.ok.exfs b hb, .inl hb, fun x c e => (I'.ok.exf b hb).2 x c e, fun p hp => absurd (show p ∈ ([] : List (Addr × Obj)) ++ [] from hp) (by simp)⟩
  have loop : codeAny (model X.prog X.w) X.A (.compLoop (.ListComp elt [⟨tg, iter, ifs, 0⟩] scope pos) 0 (.ref it) (.ref D) ce) (compEnds (model X.prog X.w) X.A X.xe none (EP X pins σ Q) (.ref D) ce) s4 := by
    refine compLoop_any (fun n s' => ∃ i H', Inv (X.blk s3 H3 scope ce fp) [] (wipe σ (own.map (·.2))) H' s' ∧ tn i s'.heap ∧ (∀ b ∈ fp, H' b = none) ∧ W i n H') ?_ m0 ⟨0, H3, I4, st4, nfp, w0⟩
    rintro n s5 ⟨i, H5, I5, st5, n5, w5⟩
    rcases turn i n H5 w5 with ⟨stop, qq⟩ | ⟨go, Nx, hNx, step⟩
    · have hot5 : ∃ x1, HotAt X.A x1 s5.heap := by
        obtain ⟨p, ⟨hh, v1, e1, c1⟩, hp⟩ := hc
        obtain ⟨y1, y2, y3, y4, _⟩ := I3.pin p (List.mem_append_left _ hp)
        exact ⟨p.1, hh, p.2, v1, I5.base.keep p.1 p.2 y1 y2 (fun z => (List.mem_cons.mp (I3.stkSub p.1 z)).elim y3 y4) fun z => (f3 p.1 z).1.2.2.2.2.2 p (List.mem_append_left _ hp) rfl, e1, c1⟩
      refine thnF (T.done (X.blk s3 H3 scope ce fp) rfl rfl rfl i [] s5 _ H5 (fun _ _ => False) hot5 I5 (stat I5 n5) st5 stop) fun r s6 ⟨hr, I6⟩ => ?_
      subst hr
      have I7 : Inv X pins σ H5 s6 := I3.call' (ch := fp) I6.os I6.base I6.hok I6.bare fun b hb => ⟨(f3 b hb).1.2.2.2.1, (f3 b hb).1.2.1, (f3 b hb).1.2.2.2.2.1, (f3 b hb).1.2.2.2.2.2⟩
      have nC : H5 s3.heap.objs.size = none := by
        have z : H5 ce.locals = none := I6.free
        rw [cL] at z
        exact z
      obtain ⟨m, hn, _⟩ := I6.loc
      have hn : s6.heap.Ns ce.locals m := hn
      obtain ⟨f0, f1, f2, f3, f4, f5⟩ := I3.fpOk (Nat.le_refl _) nC
      exact ⟨m, hn, fun h'' sb => ⟨.ref D, H5, I7.turned (t' := s6.toks) (fun b o hb e => (sb.2 b (by rw [cL]; exact hb)).trans e) f0 f1 f3 f4 f5, rfl, qq⟩⟩
    · refine thnF (T.item (X.blk s3 H3 scope ce fp) rfl rfl rfl i [] s5 _ H5 (fun _ _ => False) I5 (stat I5 n5) st5 go) fun r s6 ⟨u, hr, h6⟩ => ?_
      subst hr
      refine thnF h6 fun _ s7 ⟨x, H7, I7, r7, y7, st7, n7⟩ => ?_
      have I7' := I7.pinned (stat I7 n7) (T.obj _ _ st7)
      refine thnF (pg.run _ s7 _ H7 x u _ I7' r7 (step x H7 y7)) fun _ s8 ⟨σ8, H8, I8, hw8, q8⟩ => ?_
      refine thnF (pt.run _ s8 σ8 H8 _ I8 q8) fun b s9 ⟨H9, I9, q9⟩ => ?_
      have fin : ∀ {s' : Shared} {H' : Hp}, Inv (X.blk s3 H3 scope ce fp) ([] ++ pinsAt fp s7.heap) σ8 H' s' → Nx H' → ∃ m, m < n ∧ ∃ i H', Inv (X.blk s3 H3 scope ce fp) [] (wipe σ (own.map (·.2))) H' s' ∧ tn i s'.heap ∧ (∀ b ∈ fp, H' b = none) ∧ W i m H' := fun {s' H'} I' nx => by
        obtain ⟨m', hm, w'⟩ := hNx H' nx
        have pin' : ∀ b ∈ fp, ∀ o, s7.heap.get? b = some o → s'.heap.get? b = some o ∧ H' b = none := fun b hb o e =>
          let z := I'.pin (b, o) (List.mem_append_right _ (List.mem_append_right _ (mem_pinsAt hb e)))
          ⟨z.1, z.2.1⟩
        refine ⟨m', hm, i + 1, H', (I'.unpinned (pins := [])).weak (by rw [← hw8, wipe_length]) (fun j v e => ?_), T.keep _ _ _ st7 fun b hb o e => (pin' b hb o e).1, fun b hb => ?_, w'⟩
        · rw [← hw8] at e
          exact (wipe_some e).1
        · obtain ⟨o, e, _⟩ := T.obj _ _ st7 b hb
          exact (pin' b hb o e).2
      cases b with
      | false =>
        simp only [Bool.false_eq_true, if_false] at q9 ⊢
        exact fin I9 q9
      | true =>
        simp only [if_true] at q9 ⊢
        refine thnF (pe.run _ s9 σ8 H9 _ I9 q9) fun z s10 ⟨yv, H10, I10, r10, acc, hD10, hz10, nx⟩ => ?_
        exact app_ok (X := X.blk s3 H3 scope ce fp) I10 hD10 hz10 r10 fun s11 I11 => fin I11 nx
  exact codeAny_compStart_list loop (T.self X.A 0 _ _ _ st4 loop)
end
end HX
namespace HQ
open PySem PySem.Spec PyProof.Rows L2
theorem sift_entry : entryFor table "_heapq.heapify.sift" = some Builtin.«_heapq.heapify.sift» := entryFor_of_tree (by kernel_rfl)
theorem sift_plain : plainId "_heapq.heapify.sift" = true := by decide +kernel
def swapI (l : List Int) (i j : Nat) : List Int := (l.set i (l.getD j 0)).set j (l.getD i 0)
def upF : Nat → List Int → Nat → List Int
  | 0, l, _ => l
  | f + 1, l, pos => if pos > 0 then (if l.getD pos 0 < l.getD ((pos - 1) / 2) 0 then upF f (swapI l ((pos - 1) / 2) pos) ((pos - 1) / 2) else l) else l
def kidI (l : List Int) (pos : Nat) : Nat := if 2 * pos + 1 + 1 < l.length then (if l.getD (2 * pos + 1) 0 < l.getD (2 * pos + 1 + 1) 0 then 2 * pos + 1 else 2 * pos + 1 + 1) else 2 * pos + 1
def downF : Nat → List Int → Nat → List Int
  | 0, l, pos => upF pos l pos
  | f + 1, l, pos => if pos < l.length / 2 then downF f (swapI l (kidI l pos) pos) (kidI l pos) else upF pos l pos
theorem swapI_len (l : List Int) (i j : Nat) : (swapI l i j).length = l.length := by unfold swapI; rw [List.length_set, List.length_set]
abbrev lsO (its : List Value) (n : Nat) : Obj := { cls := .type "list", data := .seq its.toArray n }
theorem map_lsO (f : Array Value → Array Value) {its its' : List Value} (h : f its.toArray = its'.toArray) (n : Nat) : ∃ n', Obj.mapSeq f (lsO its n) = lsO its' n' := by
  have e : Obj.mapSeq f (lsO its n) = { cls := .type "list", data := .seq (f its.toArray) (if ((f its.toArray).size == its.toArray.size) = true then n else n + 1) } := rfl
  rw [e, h]
  exact ⟨_, rfl⟩
theorem val_at {ns : List Int} {its : List Value} (r : Vals (ns.map V.int) its) {i : Nat} (h : i < ns.length) : ∃ t, its.toArray[i]? = some (.int (ns.getD i 0) t) := by
  have e : (ns.map V.int)[i]? = some (.int (ns.getD i 0)) := by rw [List.getElem?_map, List.getD_eq_getElem?_getD, List.getElem?_eq_getElem h]; rfl
  obtain ⟨u, hu, ru⟩ := r.get e
  obtain ⟨t, rfl⟩ := ru
  exact ⟨t, by simpa using hu⟩
theorem vals_size {ns : List Int} {its : List Value} (r : Vals (ns.map V.int) its) : its.toArray.size = ns.length := by
  have := r.length
  rw [List.length_map] at this
  simp [this]
section
variable {prog : Program} {w : World} {A : Around} {E : Value → Shared → Prop} {s : Shared}
theorem rlt {x y : Int} {t u : Tok} {Q : Bool → Shared → Prop} (h : Q (decide (x < y)) s) : wpAny (model prog w) A (do truthOfDropped (← richCompare .Lt (.int x t) (.int y u))) Q E s := by
  refine wpAny_bind (richCompare_gives (op := .Lt) (typeIs_int s _ t) (typeIs_int s _ u) F.slot_int_lt F.entry_int_lt (F.args_int_lt_2 _ _) (gives_int_lt _ _ t u) (fun x => nomatch x) ?_)
  exact wpAny_of_eq (a := decide (x < y)) rfl h
theorem swap_map {ns : List Int} {its : List Value} (r : Vals (ns.map V.int) its) {i j n : Nat} {x y : Value} (hi : i < ns.length) (hj : j < ns.length) (hx : its.toArray[i]? = some x) (hy : its.toArray[j]? = some y) :
    ∃ its', Obj.mapSeq (fun xs => (xs.setIfInBounds i y).setIfInBounds j x) (lsO its n) = lsO its' n ∧ Vals ((swapI ns i j).map V.int) its' := by
  refine ⟨(its.set i y).set j x, by simp [Obj.mapSeq, lsO], ?_⟩
  obtain ⟨t, ht⟩ := val_at r hi
  obtain ⟨u, hu⟩ := val_at r hj
  rw [hx] at ht
  rw [hy] at hu
  cases ht
  cases hu
  unfold swapI
  rw [List.map_set, List.map_set]
  have ri : RelV (.int (ns.getD i 0)) (.int (ns.getD i 0) t) := ⟨_, rfl⟩
  have rj : RelV (.int (ns.getD j 0)) (.int (ns.getD j 0) u) := ⟨_, rfl⟩
  exact (r.set rj i).set ri j
theorem swap_ok {a : Addr} {i j n : Nat} {ns : List Int} {its : List Value} {x y : Value} {Q : Unit → Shared → Prop} (hi : i < ns.length) (hj : j < ns.length) (hz : ns.length ≤ sizeLine) (ho : s.heap.get? a = some (lsO its n)) (r : Vals (ns.map V.int) its) (hx : its.toArray[i]? = some x) (hy : its.toArray[j]? = some y)
    (hQ : ∀ h' its' n', Vals ((swapI ns i j).map V.int) its' → h'.get? a = some (lsO its' n') → (∀ b o, b ≠ a → s.heap.get? b = some o → h'.get? b = some o) → Q () { s with heap := h' }) :
    wpAny (model prog w) A (updateSeq a fun xs => (xs.setIfInBounds i y).setIfInBounds j x) Q E s := by
  obtain ⟨its', e1, r1⟩ := swap_map (n := n) r hi hj hx hy
  have hsz := vals_size r
  refine wpAny_updateSeq ho rfl (hQ _ its' n r1 ?_ fun b o hb e => (Heap.get?_update_other _ _ (Ne.symm hb)).trans e) (by rw [hsz]; exact hz) (by rw [Array.size_setIfInBounds, Array.size_setIfInBounds, hsz]; omega)
  rw [Heap.get?_update_self _ ho (by rw [e1] <;> rfl), e1]
theorem up_loop {a : Addr} {res : Value} {R : Result → Shared → Prop} : ∀ (f pos : Nat) (ns : List Int) (its : List Value) (n : Nat) (h : Heap) (tk : Nat) (t1 t2 t3 : Tok), pos ≤ f → pos < ns.length → ns.length ≤ sizeLine → h.get? a = some (lsO its n) → Vals (ns.map V.int) its →
    (∀ h' its' n' tk', Vals ((upF f ns pos).map V.int) its' → h'.get? a = some (lsO its' n') → (∀ b o, b ≠ a → h.get? b = some o → h'.get? b = some o) → R (.ok (.ret res)) { s with heap := h', toks := tk' }) →
    codeAny (model prog w) A (.builtin "_heapq.heapify.sift" ⟨[.ref a, .bool false, .bool false, .int (pos : Int) t1, .int ((0 : Nat) : Int) t2, res, .int (-1) t3], []⟩) R { s with heap := h, toks := tk } := by
  intro f
  induction f with
  | zero =>
    intro pos ns its n h tk t1 t2 t3 hf hp hz ho r hR
    have h0 : pos = 0 := by omega
    subst h0
    refine codeAny_builtin sift_entry ?_
    rw [Around.under_plainId sift_plain _]
    unfold Builtin.«_heapq.heapify.sift»
    dsimp only
    refine wpAny_bind ?_
    show wpAny _ _ (seqItems? (.ref a) >>= _) _ _ _
    refine wpAny_bind (wpAny_seqItems ho rfl (wpAny_pure ?_))
    rw [if_neg (by decide), if_neg (by decide), if_pos (by decide)]
    exact wpAny_pure (hR h its n tk r ho fun b o _ e => e)
  | succ f ih =>
    intro pos ns its n h tk t1 t2 t3 hf hp hz ho r hR
    refine codeAny_builtin sift_entry ?_
    rw [Around.under_plainId sift_plain _]
    unfold Builtin.«_heapq.heapify.sift»
    dsimp only
    refine wpAny_bind ?_
    show wpAny _ _ (seqItems? (.ref a) >>= _) _ _ _
    refine wpAny_bind (wpAny_seqItems ho rfl (wpAny_pure ?_))
    rw [if_neg (by decide)]
    rw [show ((pos : Int)).toNat = pos from Int.toNat_natCast pos]
    by_cases hp0 : pos > 0
    · rw [if_pos (by exact hp0)]
      have hpar : (pos - 1) / 2 < ns.length := by omega
      obtain ⟨u1, e1⟩ := val_at r hp
      obtain ⟨u2, e2⟩ := val_at r hpar
      refine wpAny_bind ?_
      show wpAny _ _ (match its.toArray[pos]? with | some v => pure v | none => _) _ _ _
      rw [e1]
      refine wpAny_pure (wpAny_bind ?_)
      show wpAny _ _ (match its.toArray[(pos - 1) / 2]? with | some v => pure v | none => _) _ _ _
      rw [e2]
      refine wpAny_pure ?_
      rw [if_neg (by decide)]
      refine wpAny_bind ?_
      show wpAny _ _ (holding _ _ >>= _) _ _ _
      refine wpAny_bind (wpAny_holding (rlt ?_))
      refine wpAny_bind ?_
      show wpAny _ _ (seqItems? (.ref a) >>= _) _ _ _
      refine wpAny_bind (wpAny_seqItems ho rfl (wpAny_pure ?_))
      dsimp only
      rw [if_neg (by simp)]
      refine wpAny_pure ?_
      have eU : upF (f + 1) ns pos = if ns.getD pos 0 < ns.getD ((pos - 1) / 2) 0 then upF f (swapI ns ((pos - 1) / 2) pos) ((pos - 1) / 2) else ns := by
        show (if pos > 0 then _ else _) = _
        rw [if_pos hp0]
      rw [eU] at hR
      by_cases hlt : ns.getD pos 0 < ns.getD ((pos - 1) / 2) 0
      · rw [if_pos hlt] at hR
        rw [if_pos (decide_eq_true hlt)]
        refine wpAny_bind ?_
        show wpAny _ _ (_ >>= _) _ _ _
        refine wpAny_bind ?_
        show wpAny _ _ (seqItems? (.ref a) >>= _) _ _ _
        refine wpAny_bind (wpAny_seqItems ho rfl (wpAny_pure (wpAny_bind ?_)))
        show wpAny _ _ (match its.toArray[(pos - 1) / 2]? with | some v => pure v | none => _) _ _ _
        rw [e2]
        refine wpAny_pure (wpAny_bind ?_)
        show wpAny _ _ (match its.toArray[pos]? with | some v => pure v | none => _) _ _ _
        rw [e1]
        refine wpAny_pure (swap_ok (s := { s with heap := h, toks := tk }) hpar hp hz ho r e2 e1 fun h' its' n' r' ho' hk => ?_)
        · show wpAny _ _ (pure (PySem.Fin.again _)) _ _ _
          refine wpAny_pure ⟨plainId_quiet sift_plain _, ?_⟩
          refine ih ((pos - 1) / 2) (swapI ns ((pos - 1) / 2) pos) its' n' h' tk _ _ _ (by omega) (by rw [swapI_len]; exact hpar) (by rw [swapI_len]; exact hz) ho' r' fun h2 its2 n2 tk2 r2 ho2 hk2 => hR h2 its2 n2 tk2 r2 ho2 fun b o hb e => hk2 b o hb (hk b o hb e)
      · rw [if_neg hlt] at hR
        rw [if_neg (by rw [decide_eq_false hlt]; decide), if_pos (by decide)]
        exact wpAny_pure (hR h its n tk r ho fun b o _ e => e)
    · have h0 : pos = 0 := by omega
      subst h0
      rw [if_neg (by decide), if_pos (by decide)]
      exact wpAny_pure (hR h its n tk r ho fun b o _ e => e)
theorem down_loop {a : Addr} {res : Value} {R : Result → Shared → Prop} : ∀ (f pos : Nat) (ns : List Int) (its : List Value) (n : Nat) (h : Heap) (tk : Nat) (t1 t2 t3 : Tok), ns.length ≤ pos + f → pos < ns.length → ns.length ≤ sizeLine → h.get? a = some (lsO its n) → Vals (ns.map V.int) its →
    (∀ h' its' n' tk', Vals ((downF f ns pos).map V.int) its' → h'.get? a = some (lsO its' n') → (∀ b o, b ≠ a → h.get? b = some o → h'.get? b = some o) → R (.ok (.ret res)) { s with heap := h', toks := tk' }) →
    codeAny (model prog w) A (.builtin "_heapq.heapify.sift" ⟨[.ref a, .bool false, .bool true, .int (pos : Int) t1, .int ((0 : Nat) : Int) t2, res, .int (-1) t3], []⟩) R { s with heap := h, toks := tk } := by
  intro f
  induction f with
  | zero =>
    intro pos ns its n h tk t1 t2 t3 hf hp
    exact absurd hp (by omega)
  | succ f ih =>
    intro pos ns its n h tk t1 t2 t3 hf hp hz ho r hR
    refine codeAny_builtin sift_entry ?_
    rw [Around.under_plainId sift_plain _]
    unfold Builtin.«_heapq.heapify.sift»
    dsimp only
    refine wpAny_bind ?_
    show wpAny _ _ (seqItems? (.ref a) >>= _) _ _ _
    refine wpAny_bind (wpAny_seqItems ho rfl (wpAny_pure ?_))
    have hsz := vals_size r
    rw [if_pos rfl]
    rw [show ((pos : Int)).toNat = pos from Int.toNat_natCast pos]
    by_cases hp0 : pos < ns.length / 2
    · have eD : downF (f + 1) ns pos = downF f (swapI ns (kidI ns pos) pos) (kidI ns pos) := by
        show (if pos < ns.length / 2 then _ else _) = _
        rw [if_pos hp0]
      rw [eD] at hR
      rw [if_pos (by rw [hsz]; exact hp0)]
      have hl : 2 * pos + 1 < ns.length := by omega
      obtain ⟨u0, e0⟩ := val_at r hp
      obtain ⟨u1, e1⟩ := val_at r hl
      have fin : ∀ (c : Nat), kidI ns pos = c → c < ns.length → pos < c → ∀ h' its' n', Vals ((swapI ns c pos).map V.int) its' → h'.get? a = some (lsO its' n') → (∀ b o, b ≠ a → h.get? b = some o → h'.get? b = some o) →
          ∀ t1 t2 t3, codeAny (model prog w) A (.builtin "_heapq.heapify.sift" ⟨[.ref a, .bool false, .bool true, .int (c : Int) t1, .int ((0 : Nat) : Int) t2, res, .int (-1) t3], []⟩) R { s with heap := h', toks := tk } := fun c ec hc hpc h' its' n' r' ho' hk t1 t2 t3 => by
        rw [ec] at hR
        exact ih c (swapI ns c pos) its' n' h' tk t1 t2 t3 (by rw [swapI_len]; omega) (by rw [swapI_len]; exact hc) (by rw [swapI_len]; exact hz) ho' r' fun h2 its2 n2 tk2 r2 ho2 hk2 => hR h2 its2 n2 tk2 r2 ho2 fun b o hb e => hk2 b o hb (hk b o hb e)
      by_cases h2 : 2 * pos + 1 + 1 < ns.length
      · rw [if_pos (by rw [hsz]; exact h2)]
        obtain ⟨u2, e2⟩ := val_at r h2
        refine wpAny_bind ?_
        show wpAny _ _ (match its.toArray[2 * pos + 1]? with | some v => pure v | none => _) _ _ _
        rw [e1]
        refine wpAny_pure (wpAny_bind ?_)
        show wpAny _ _ (match its.toArray[2 * pos + 1 + 1]? with | some v => pure v | none => _) _ _ _
        rw [e2]
        refine wpAny_pure ?_
        rw [if_neg (by decide)]
        refine wpAny_bind ?_
        show wpAny _ _ (holding _ _ >>= _) _ _ _
        refine wpAny_bind (wpAny_holding (rlt ?_))
        refine wpAny_bind ?_
        show wpAny _ _ (seqItems? (.ref a) >>= _) _ _ _
        refine wpAny_bind (wpAny_seqItems ho rfl (wpAny_pure ?_))
        dsimp only
        rw [if_neg (by simp)]
        refine wpAny_pure ?_
        by_cases hlt : ns.getD (2 * pos + 1) 0 < ns.getD (2 * pos + 1 + 1) 0
        · have ek : kidI ns pos = 2 * pos + 1 := by unfold kidI; rw [if_pos h2, if_pos hlt]
          rw [if_neg (by rw [decide_eq_true hlt]; decide)]
          refine wpAny_bind ?_
          show wpAny _ _ (_ >>= _) _ _ _
          refine wpAny_bind ?_
          show wpAny _ _ (seqItems? (.ref a) >>= _) _ _ _
          refine wpAny_bind (wpAny_seqItems ho rfl (wpAny_pure (wpAny_bind ?_)))
          show wpAny _ _ (match its.toArray[2 * pos + 1]? with | some v => pure v | none => _) _ _ _
          rw [e1]
          refine wpAny_pure (wpAny_bind ?_)
          show wpAny _ _ (match its.toArray[pos]? with | some v => pure v | none => _) _ _ _
          rw [e0]
          refine wpAny_pure (swap_ok (s := { s with heap := h, toks := tk }) hl hp hz ho r e1 e0 fun h' its' n' r' ho' hk => ?_)
          show wpAny _ _ (pure (PySem.Fin.again _)) _ _ _
          exact wpAny_pure ⟨plainId_quiet sift_plain _, fin _ ek hl (by omega) h' its' n' r' ho' hk _ _ _⟩
        · have ek : kidI ns pos = 2 * pos + 1 + 1 := by unfold kidI; rw [if_pos h2, if_neg hlt]
          rw [if_pos (by rw [decide_eq_false hlt]; decide)]
          refine wpAny_bind ?_
          show wpAny _ _ (_ >>= _) _ _ _
          refine wpAny_bind ?_
          show wpAny _ _ (seqItems? (.ref a) >>= _) _ _ _
          refine wpAny_bind (wpAny_seqItems ho rfl (wpAny_pure (wpAny_bind ?_)))
          show wpAny _ _ (match its.toArray[2 * pos + 1 + 1]? with | some v => pure v | none => _) _ _ _
          rw [e2]
          refine wpAny_pure (wpAny_bind ?_)
          show wpAny _ _ (match its.toArray[pos]? with | some v => pure v | none => _) _ _ _
          rw [e0]
          refine wpAny_pure (swap_ok (s := { s with heap := h, toks := tk }) h2 hp hz ho r e2 e0 fun h' its' n' r' ho' hk => ?_)
          show wpAny _ _ (pure (PySem.Fin.again _)) _ _ _
          exact wpAny_pure ⟨plainId_quiet sift_plain _, fin _ ek h2 (by omega) h' its' n' r' ho' hk _ _ _⟩
      · have ek : kidI ns pos = 2 * pos + 1 := by unfold kidI; rw [if_neg h2]
        rw [if_neg (by rw [hsz]; exact h2)]
        refine wpAny_bind ?_
        show wpAny _ _ (_ >>= _) _ _ _
        refine wpAny_bind ?_
        show wpAny _ _ (seqItems? (.ref a) >>= _) _ _ _
        refine wpAny_bind (wpAny_seqItems ho rfl (wpAny_pure (wpAny_bind ?_)))
        show wpAny _ _ (match its.toArray[2 * pos + 1]? with | some v => pure v | none => _) _ _ _
        rw [e1]
        refine wpAny_pure (wpAny_bind ?_)
        show wpAny _ _ (match its.toArray[pos]? with | some v => pure v | none => _) _ _ _
        rw [e0]
        refine wpAny_pure (swap_ok (s := { s with heap := h, toks := tk }) hl hp hz ho r e1 e0 fun h' its' n' r' ho' hk => ?_)
        show wpAny _ _ (pure (PySem.Fin.again _)) _ _ _
        exact wpAny_pure ⟨plainId_quiet sift_plain _, fin _ ek hl (by omega) h' its' n' r' ho' hk _ _ _⟩
    · have eD : downF (f + 1) ns pos = upF pos ns pos := by
        show (if pos < ns.length / 2 then _ else _) = _
        rw [if_neg hp0]
      rw [eD] at hR
      rw [if_neg (by rw [hsz]; exact hp0)]
      show wpAny _ _ (pure (PySem.Fin.again _)) _ _ _
      exact wpAny_pure ⟨plainId_quiet sift_plain _, up_loop pos pos ns its n h tk _ _ _ (Nat.le_refl _) hp hz ho r hR⟩
end
theorem push_entry : entryFor table "_heapq.heappush" = some Builtin.«_heapq.heappush» := entryFor_of_tree (by kernel_rfl)
theorem push_plain : plainId "_heapq.heappush" = true := by decide +kernel
theorem push_kind : builtinKind "_heapq.heappush" = none := by decide +kernel
theorem push_args (a b : Value) : argsOk "_heapq.heappush" ⟨[a, b], []⟩ := by unfold argsOk; kernel_rfl
theorem pop_entry : entryFor table "_heapq.heappop" = some Builtin.«_heapq.heappop» := entryFor_of_tree (by kernel_rfl)
theorem pop_plain : plainId "_heapq.heappop" = true := by decide +kernel
theorem pop_kind : builtinKind "_heapq.heappop" = none := by decide +kernel
theorem pop_args (a : Value) : argsOk "_heapq.heappop" ⟨[a], []⟩ := by unfold argsOk; kernel_rfl
/-- the list behind a push, behind a pop -/
def pushI (ns : List Int) (x : Int) : List Int := upF ns.length (ns ++ [x]) ns.length
def popI (ns : List Int) : List Int := if ns.length = 1 then [] else downF (ns.length - 1) (ns.dropLast.set 0 (ns.getD (ns.length - 1) 0)) 0
def rPush : List V → Hp → VK → Prop := fun xs H Q => ∃ (a : Addr) (ns : List Int) (x : Int), xs = [.ref a, .int x] ∧ H a = some (.lst (ns.map V.int)) ∧ ns.length < sizeLine ∧ Q .non (upd H a (.lst ((pushI ns x).map V.int)))
def rPop : List V → Hp → VK → Prop := fun xs H Q => ∃ (a : Addr) (ns : List Int), xs = [.ref a] ∧ H a = some (.lst (ns.map V.int)) ∧ 0 < ns.length ∧ Q (.int (ns.getD 0 0)) (upd H a (.lst ((popI ns).map V.int)))
theorem upF_len : ∀ (f : Nat) (l : List Int) (p : Nat), (upF f l p).length = l.length
  | 0, _, _ => rfl
  | f + 1, l, p => by
    show (if p > 0 then (if _ then _ else _) else _ : List Int).length = _
    by_cases h : p > 0
    · rw [if_pos h]
      by_cases h2 : l.getD p 0 < l.getD ((p - 1) / 2) 0
      · rw [if_pos h2, upF_len f, swapI_len]
      · rw [if_neg h2]
    · rw [if_neg h]
theorem downF_len : ∀ (f : Nat) (l : List Int) (p : Nat), (downF f l p).length = l.length
  | 0, l, p => upF_len _ _ _
  | f + 1, l, p => by
    show (if p < l.length / 2 then _ else _ : List Int).length = _
    by_cases h : p < l.length / 2
    · rw [if_pos h, downF_len f, swapI_len]
    · rw [if_neg h, upF_len]
section
variable {X : Cx}
theorem inv_lst {pins : List (Addr × Obj)} {σ : L2.St} {H : Hp} {s : Shared} {p : Addr} {xs ys : List V} {its' : List Value} {n' : Nat} {h' : Heap} (I : Inv X pins σ H s) (h : H p = some (.lst xs)) (e : h'.get? p = some (lsO its' n')) (hk : ∀ b o, b ≠ p → s.heap.get? b = some o → h'.get? b = some o) (r : Vals ys its') (hz : ys.length ≤ sizeLine) (t : Nat) :
    Inv X pins σ (upd H p (.lst ys)) { s with heap := h', toks := t } :=
  I.write (x := p) (e := p) (by rw [h]; trivial) (.inl rfl) (fun b u hb q => hk b u hb q) ⟨_, e⟩ ⟨hz, its', n', r, e⟩
theorem cr_push (hc : X.calm = true) : CallR X (.builtin "_heapq.heappush") rPush := by
  intro pins s σ H xs us Q I rx h
  obtain ⟨a, ns, x, rfl, ha, hz, hq⟩ := h
  cases rx with
  | cons r1 rr =>
    cases rr with
    | cons r2 rr =>
      cases rr
      cases r1
      obtain ⟨tx, rfl⟩ := r2
      obtain ⟨its, n, r, ho, _⟩ := I.lst ha
      refine PyProof.Rows.kmb_tree push_kind push_plain push_entry (push_args _ _) ?_
      unfold Builtin.«_heapq.heappush»
      refine wpAny_bind ?_
      show wpAny _ _ (noKeywords _ _ >>= _) _ _ _
      refine wpAny_bind (m := noKeywords _ _) (wpAny_pure ?_)
      refine wpAny_bind (m := checkCount _ _ _ _) (wpAny_pure ?_)
      dsimp only
      refine wpAny_bind ?_
      show wpAny _ _ (isInstance _ _ >>= _) _ _ _
      refine wpAny_bind (wpAny_isInstance (T := "list") (b := true) ⟨_, ho, rfl⟩ (by rfl) ?_)
      rw [if_pos rfl]
      refine wpAny_pure (wpAny_pure ?_)
      dsimp only
      have hsz := vals_size r
      obtain ⟨n1, eo⟩ : ∃ n1, Obj.mapSeq (fun xs : Array Value => xs.push (.int x tx)) (lsO its n) = lsO (its ++ [.int x tx]) n1 := map_lsO _ (by simp) n
      have rx : RelV (.int x) (.int x tx) := ⟨_, rfl⟩
      have r' : Vals ((ns ++ [x]).map V.int) (its ++ [.int x tx]) := by rw [List.map_append]; exact r.append (.cons rx .nil)
      have hl : (ns ++ [x]).length = ns.length + 1 := by rw [List.length_append]; rfl
      have hz' : (ns ++ [x]).length ≤ sizeLine := by rw [hl]; exact hz
      refine wpAny_bind (wpAny_updateSeq ho rfl ?_ (by rw [hsz]; exact Nat.le_of_lt hz) (by rw [Array.size_push, hsz]; omega))
      have ho' : (s.heap.update a (Obj.mapSeq fun xs : Array Value => xs.push (.int x tx))).get? a = some (lsO (its ++ [.int x tx]) n1) := by rw [Heap.get?_update_self _ ho (by rw [eo] <;> rfl), eo]
      have hk : ∀ b o, b ≠ a → s.heap.get? b = some o → (s.heap.update a (Obj.mapSeq fun xs : Array Value => xs.push (.int x tx))).get? b = some o := fun b o hb e => (Heap.get?_update_other _ _ (Ne.symm hb)).trans e
      generalize s.heap.update a (Obj.mapSeq fun xs : Array Value => xs.push (.int x tx)) = h1 at *
      refine wpAny_bind ?_
      show wpAny _ _ (seqItems? (.ref a) >>= _) _ _ _
      refine wpAny_bind (wpAny_seqItems (s := { s with heap := h1 }) ho' rfl (wpAny_pure ?_))
      show wpAny _ _ (pure (PySem.Fin.again _)) _ _ _
      refine wpAny_pure ⟨plainId_quiet sift_plain _, ?_⟩
      have hsz' : (its ++ [Value.int x tx]).toArray.size - 1 = ns.length := by rw [vals_size r', hl]; rfl
      rw [hsz']
      exact up_loop (s := s) ns.length ns.length (ns ++ [x]) _ n1 h1 s.toks _ _ _ (Nat.le_refl _) (by omega) hz' ho' r' fun h' its' n' tk' r2 ho2 hk2 => ⟨.non, _, inv_lst I ha ho2 (fun b o hb e => hk2 b o hb (hk b o hb e)) r2 (by rw [List.length_map, upF_len]; exact hz') tk', rfl, hq⟩
theorem cr_pop (hc : X.calm = true) : CallR X (.builtin "_heapq.heappop") rPop := by
  intro pins s σ H xs us Q I rx h
  obtain ⟨a, ns, rfl, ha, hn, hq⟩ := h
  cases rx with
  | cons r1 rr =>
    cases rr
    cases r1
    obtain ⟨its, n, r, ho, hz⟩ := I.lst ha
    rw [List.length_map] at hz
    have hsz := vals_size r
    obtain ⟨tl, el⟩ := val_at r (i := ns.length - 1) (by omega)
    obtain ⟨t0, e0⟩ := val_at r (i := 0) hn
    refine PyProof.Rows.kmb_tree pop_kind pop_plain pop_entry (pop_args _) ?_
    unfold Builtin.«_heapq.heappop»
    show wpAny _ _ (_ >>= _) _ _ _
    refine wpAny_bind ?_
    show wpAny _ _ (oneArg _ _ >>= _) _ _ _
    refine wpAny_bind (m := oneArg _ _) (wpAny_pure ?_)
    refine wpAny_bind ?_
    show wpAny _ _ (isInstance _ _ >>= _) _ _ _
    refine wpAny_bind (wpAny_isInstance (T := "list") (b := true) ⟨_, ho, rfl⟩ (by rfl) ?_)
    dsimp only
    rw [if_pos rfl]
    refine wpAny_pure (wpAny_pure ?_)
    dsimp only
    refine wpAny_bind ?_
    show wpAny _ _ (seqItems? (.ref a) >>= _) _ _ _
    refine wpAny_bind (wpAny_seqItems ho rfl (wpAny_pure ?_))
    have eb : its.toArray.back? = some (.int (ns.getD (ns.length - 1) 0) tl) := by
      rw [← el, Array.back?, hsz]
    rw [eb]
    dsimp only
    obtain ⟨n1, eo⟩ : ∃ n1, Obj.mapSeq (fun xs : Array Value => xs.pop) (lsO its n) = lsO its.dropLast n1 := map_lsO _ (by simp) n
    have r' : Vals (ns.dropLast.map V.int) its.dropLast := by
      have h1 := r.length
      rw [List.length_map] at h1
      have := r.take (ns.length - 1)
      rw [← List.map_take, ← List.dropLast_eq_take, h1, ← List.dropLast_eq_take] at this
      exact this
    refine wpAny_bind (wpAny_updateSeq ho rfl ?_ (by rw [hsz]; exact hz) (by rw [Array.size_pop, hsz]; omega))
    have ho' : (s.heap.update a (Obj.mapSeq fun xs : Array Value => xs.pop)).get? a = some (lsO its.dropLast n1) := by rw [Heap.get?_update_self _ ho (by rw [eo] <;> rfl), eo]
    have hk : ∀ b o, b ≠ a → s.heap.get? b = some o → (s.heap.update a (Obj.mapSeq fun xs : Array Value => xs.pop)).get? b = some o := fun b o hb e => (Heap.get?_update_other _ _ (Ne.symm hb)).trans e
    generalize s.heap.update a (Obj.mapSeq fun xs : Array Value => xs.pop) = h1 at *
    have hdl : ns.dropLast.length = ns.length - 1 := List.length_dropLast
    rw [hsz]
    by_cases h1n : ns.length = 1
    · rw [if_pos (by rw [h1n]; rfl)]
      have e : popI ns = [] := if_pos h1n
      rw [e] at hq
      rw [h1n]
      have r0 : Vals (([] : List Int).map V.int) its.dropLast := by
        have : ns.dropLast = [] := List.eq_nil_of_length_eq_zero (by rw [hdl, h1n])
        rw [this] at r'; exact r'
      exact wpAny_pure ⟨.int (ns.getD 0 0), _, inv_lst I ha ho' hk r0 (Nat.zero_le _) s.toks, ⟨_, rfl⟩, hq⟩
    · rw [if_neg (by intro z; exact h1n (by simpa using z))]
      have e : popI ns = downF (ns.length - 1) (ns.dropLast.set 0 (ns.getD (ns.length - 1) 0)) 0 := if_neg h1n
      rw [e] at hq
      refine wpAny_bind ?_
      show wpAny _ _ (match its.toArray[0]? with | some v => pure v | none => _) _ _ _
      rw [e0]
      refine wpAny_pure ?_
      have rl : RelV (.int (ns.getD (ns.length - 1) 0)) (.int (ns.getD (ns.length - 1) 0) tl) := ⟨_, rfl⟩
      have r2 : Vals ((ns.dropLast.set 0 (ns.getD (ns.length - 1) 0)).map V.int) (its.dropLast.set 0 (.int (ns.getD (ns.length - 1) 0) tl)) := by rw [List.map_set]; exact r'.set rl 0
      obtain ⟨n2, eo2⟩ : ∃ n2, Obj.mapSeq (fun xs : Array Value => xs.setIfInBounds 0 (.int (ns.getD (ns.length - 1) 0) tl)) (lsO its.dropLast n1) = lsO (its.dropLast.set 0 (.int (ns.getD (ns.length - 1) 0) tl)) n2 := map_lsO _ (by simp) n1
      have hsz' := vals_size r'
      have hl2 : (ns.dropLast.set 0 (ns.getD (ns.length - 1) 0)).length = ns.length - 1 := by rw [List.length_set, hdl]
      refine wpAny_bind (wpAny_updateSeq (s := { s with heap := h1 }) ho' rfl ?_ (by rw [hsz', hdl]; omega) (by rw [Array.size_setIfInBounds, hsz', hdl]; omega))
      have ho2 : (h1.update a (Obj.mapSeq fun xs : Array Value => xs.setIfInBounds 0 (.int (ns.getD (ns.length - 1) 0) tl))).get? a = some (lsO (its.dropLast.set 0 (.int (ns.getD (ns.length - 1) 0) tl)) n2) := by rw [Heap.get?_update_self _ ho' (by rw [eo2] <;> rfl), eo2]
      have hk2 : ∀ b o, b ≠ a → h1.get? b = some o → (h1.update a (Obj.mapSeq fun xs : Array Value => xs.setIfInBounds 0 (.int (ns.getD (ns.length - 1) 0) tl))).get? b = some o := fun b o hb e => (Heap.get?_update_other _ _ (Ne.symm hb)).trans e
      dsimp only
      generalize h1.update a (Obj.mapSeq fun xs : Array Value => xs.setIfInBounds 0 (.int (ns.getD (ns.length - 1) 0) tl)) = h2 at *
      show wpAny _ _ (pure (PySem.Fin.again _)) _ _ _
      refine wpAny_pure ⟨plainId_quiet sift_plain _, ?_⟩
      exact down_loop (s := s) (ns.length - 1) 0 _ _ n2 h2 s.toks _ _ _ (by rw [hl2]; omega) (by rw [hl2]; omega) (by rw [hl2]; omega) ho2 r2 fun h' its' n' tk' r3 ho3 hk3 => ⟨.int (ns.getD 0 0), _, inv_lst I ha ho3 (fun b o hb e => hk3 b o hb (hk2 b o hb (hk b o hb e))) r3 (by rw [List.length_map, downF_len, hl2]; omega) tk', ⟨_, rfl⟩, hq⟩
end
end HQ
namespace HQ
open PySem PySem.Spec PyProof.Rows L2
/-! ## heaps as lists: what is in them -/
theorem swap_perm {l : List Int} {i j : Nat} (hi : i < l.length) (hj : j < l.length) : (swapI l i j).Perm l := by
  rw [List.perm_iff_count]
  intro b
  unfold swapI
  have gi : l.getD i 0 = l[i] := by rw [List.getD_eq_getElem?_getD, List.getElem?_eq_getElem hi]; rfl
  have gj : l.getD j 0 = l[j] := by rw [List.getD_eq_getElem?_getD, List.getElem?_eq_getElem hj]; rfl
  rw [gi, gj, List.count_set (by rw [List.length_set]; exact hj), List.count_set hi, List.getElem_set]
  have ci : (if (l[i] == b) = true then 1 else 0) ≤ l.count b := by
    by_cases h : (l[i] == b) = true
    · rw [if_pos h]
      exact List.count_pos_iff.mpr (by rw [← eq_of_beq h]; exact List.getElem_mem hi)
    · rw [if_neg h]; exact Nat.zero_le _
  by_cases e : i = j
  · subst e
    rw [if_pos rfl]
    omega
  · rw [if_neg e]
    have cj : (if (l[j] == b) = true then 1 else 0) ≤ l.count b := by
      by_cases h : (l[j] == b) = true
      · rw [if_pos h]
        exact List.count_pos_iff.mpr (by rw [← eq_of_beq h]; exact List.getElem_mem hj)
      · rw [if_neg h]; exact Nat.zero_le _
    by_cases h1 : (l[i] == b) = true <;> by_cases h2 : (l[j] == b) = true <;> simp only [h1, h2, if_true, if_false, Bool.false_eq_true] at ci cj ⊢ <;> omega
theorem up_perm : ∀ (f : Nat) (l : List Int) (p : Nat), p < l.length → (upF f l p).Perm l
  | 0, _, _, _ => .refl _
  | f + 1, l, p, h => by
    show (if p > 0 then (if _ then _ else _) else _ : List Int).Perm l
    by_cases h0 : p > 0
    · rw [if_pos h0]
      by_cases h2 : l.getD p 0 < l.getD ((p - 1) / 2) 0
      · rw [if_pos h2]
        exact (up_perm f _ _ (by rw [swapI_len]; omega)).trans (swap_perm (by omega) h)
      · rw [if_neg h2]
    · rw [if_neg h0]
theorem kid_lt {l : List Int} {p : Nat} (h : p < l.length / 2) : kidI l p < l.length ∧ p < kidI l p := by
  unfold kidI
  by_cases h2 : 2 * p + 1 + 1 < l.length
  · rw [if_pos h2]
    by_cases h3 : l.getD (2 * p + 1) 0 < l.getD (2 * p + 1 + 1) 0
    · rw [if_pos h3]; omega
    · rw [if_neg h3]; omega
  · rw [if_neg h2]; omega
theorem down_perm : ∀ (f : Nat) (l : List Int) (p : Nat), p < l.length → (downF f l p).Perm l
  | 0, l, p, h => up_perm p l p h
  | f + 1, l, p, h => by
    show (if p < l.length / 2 then _ else _ : List Int).Perm l
    by_cases h0 : p < l.length / 2
    · rw [if_pos h0]
      have hk := kid_lt h0
      exact (down_perm f _ _ (by rw [swapI_len]; exact hk.1)).trans (swap_perm hk.1 h)
    · rw [if_neg h0]
      exact up_perm p l p h
theorem push_perm (ns : List Int) (x : Int) : (pushI ns x).Perm (x :: ns) := (up_perm _ _ _ (by rw [List.length_append]; show _ < _ + 1; omega)).trans (List.perm_append_comm.trans (List.Perm.refl _))
theorem pop_perm {ns : List Int} (h : 0 < ns.length) : (ns.getD 0 0 :: popI ns).Perm ns := by
  obtain ⟨x, rest, rfl⟩ : ∃ x rest, ns = x :: rest := by
    cases ns with
    | nil => cases h
    | cons x rest => exact ⟨x, rest, rfl⟩
  show (x :: popI (x :: rest)).Perm (x :: rest)
  refine .cons x ?_
  unfold popI
  by_cases h1 : (x :: rest).length = 1
  · rw [if_pos h1]
    have : rest = [] := List.eq_nil_of_length_eq_zero (by rw [List.length_cons] at h1; omega)
    rw [this]
  · rw [if_neg h1]
    obtain ⟨y, r2, rfl⟩ : ∃ y r2, rest = y :: r2 := by
      cases rest with
      | nil => exact absurd rfl h1
      | cons y r2 => exact ⟨y, r2, rfl⟩
    have hl : (x :: y :: r2).dropLast = x :: (y :: r2).dropLast := rfl
    refine (down_perm _ _ _ (by rw [List.length_set, hl]; exact Nat.succ_pos _)).trans ?_
    rw [hl]
    show ((x :: y :: r2).getD (r2.length + 1) 0 :: (y :: r2).dropLast).Perm _
    have hg : (x :: y :: r2).getD (r2.length + 1) 0 = (y :: r2).getLast (by simp) := by
      show (y :: r2).getD r2.length 0 = _
      rw [List.getD_eq_getElem?_getD, List.getLast_eq_getElem, List.getElem?_eq_getElem (show r2.length < (y :: r2).length by simp)]; rfl
    rw [hg]
    have := List.dropLast_concat_getLast (l := y :: r2) (by simp)
    exact (List.perm_append_comm (l₁ := [(y :: r2).getLast (by simp)]) (l₂ := (y :: r2).dropLast)).trans (by rw [this])
end HQ
namespace HQ
open PySem PySem.Spec PyProof.Rows L2
/-! ## heaps as lists: their order -/
theorem getD_set0 {l : List Int} {p k : Nat} {v : Int} (hp : p < l.length) : (l.set p v).getD k 0 = if k = p then v else l.getD k 0 := by
  rw [List.getD_eq_getElem?_getD, List.getD_eq_getElem?_getD, List.getElem?_set]
  by_cases e : k = p
  · subst e; rw [if_pos rfl, if_pos rfl, if_pos hp]; rfl
  · rw [if_neg fun z => e z.symm, if_neg e]
theorem swap_get {l : List Int} {i j k : Nat} (hi : i < l.length) (hj : j < l.length) : (swapI l i j).getD k 0 = if k = j then l.getD i 0 else if k = i then l.getD j 0 else l.getD k 0 := by
  unfold swapI
  rw [getD_set0 (by rw [List.length_set]; exact hj), getD_set0 hi]
def HeapOk (l : List Int) : Prop := ∀ i, 0 < i → i < l.length → l.getD ((i - 1) / 2) 0 ≤ l.getD i 0
def UpOk (l : List Int) (p : Nat) : Prop := (∀ i, 0 < i → i < l.length → i ≠ p → l.getD ((i - 1) / 2) 0 ≤ l.getD i 0) ∧ (0 < p → ∀ i, 0 < i → i < l.length → (i - 1) / 2 = p → l.getD ((p - 1) / 2) 0 ≤ l.getD i 0)
def DnOk (l : List Int) (p : Nat) : Prop := (∀ i, 0 < i → i < l.length → i ≠ p → (i - 1) / 2 ≠ p → l.getD ((i - 1) / 2) 0 ≤ l.getD i 0) ∧ (0 < p → ∀ i, 0 < i → i < l.length → (i - 1) / 2 = p → l.getD ((p - 1) / 2) 0 ≤ l.getD i 0)
theorem up_ok : ∀ (f : Nat) (l : List Int) (p : Nat), p < l.length → p ≤ f → UpOk l p → HeapOk (upF f l p)
  | 0, l, p, hp, hf, h => fun i h0 hi => h.1 i h0 hi (by omega)
  | f + 1, l, p, hp, hf, h => by
    show HeapOk (if p > 0 then (if _ then _ else _) else _ : List Int)
    by_cases h0 : p > 0
    · rw [if_pos h0]
      have hq : (p - 1) / 2 < p := by omega
      by_cases h2 : l.getD p 0 < l.getD ((p - 1) / 2) 0
      · rw [if_pos h2]
        generalize hqe : (p - 1) / 2 = q at *
        have hql : q < l.length := by omega
        refine up_ok f _ q (by rw [swapI_len]; omega) (by omega) ⟨fun i i0 il ne => ?_, fun q0 i i0 il hi => ?_⟩
        · rw [swapI_len] at il
          rw [swap_get hql hp, swap_get hql hp]
          by_cases e1 : i = p
          · subst e1
            rw [if_pos rfl, hqe, if_neg (by omega), if_pos rfl]; omega
          · rw [if_neg e1, if_neg ne]
            by_cases e2 : (i - 1) / 2 = p
            · rw [if_pos e2]
              have := h.2 h0 i i0 il e2
              rw [hqe] at this; exact this
            · rw [if_neg e2]
              have := h.1 i i0 il e1
              by_cases e3 : (i - 1) / 2 = q
              · rw [if_pos e3]
                rw [e3] at this; omega
              · rw [if_neg e3]; exact this
        · rw [swapI_len] at il
          rw [swap_get hql hp, swap_get hql hp]
          have hqq := h.1 q q0 hql (by omega)
          rw [if_neg (by omega), if_neg (by omega)]
          by_cases e1 : i = p
          · rw [if_pos e1]; exact hqq
          · rw [if_neg e1, if_neg (by omega)]
            have := h.1 i i0 il e1
            rw [hi] at this
            omega
      · rw [if_neg h2]
        intro i i0 il
        by_cases e : i = p
        · rw [e]; omega
        · exact h.1 i i0 il e
    · rw [if_neg h0]
      exact fun i i0 il => h.1 i i0 il (by omega)
theorem kid_eq {l : List Int} {p : Nat} (h : p < l.length / 2) : (kidI l p = 2 * p + 1 ∨ kidI l p = 2 * p + 2) ∧ kidI l p < l.length ∧ ∀ i, 0 < i → i < l.length → (i - 1) / 2 = p → l.getD (kidI l p) 0 ≤ l.getD i 0 := by
  unfold kidI
  by_cases h2 : 2 * p + 1 + 1 < l.length
  · rw [if_pos h2]
    by_cases h3 : l.getD (2 * p + 1) 0 < l.getD (2 * p + 1 + 1) 0
    · rw [if_pos h3]
      refine ⟨.inl rfl, by omega, fun i i0 il hi => ?_⟩
      have : i = 2 * p + 1 ∨ i = 2 * p + 1 + 1 := by omega
      rcases this with e | e <;> rw [e] <;> omega
    · rw [if_neg h3]
      refine ⟨.inr rfl, by omega, fun i i0 il hi => ?_⟩
      have : i = 2 * p + 1 ∨ i = 2 * p + 1 + 1 := by omega
      rcases this with e | e <;> rw [e] <;> omega
  · rw [if_neg h2]
    refine ⟨.inl rfl, by omega, fun i i0 il hi => ?_⟩
    have : i = 2 * p + 1 := by omega
    rw [this]; exact Int.le_refl _
theorem down_ok : ∀ (f : Nat) (l : List Int) (p : Nat), p < l.length → l.length ≤ f + p → DnOk l p → HeapOk (downF f l p)
  | 0, l, p, hp, hf, h => by omega
  | f + 1, l, p, hp, hf, h => by
    show HeapOk (if p < l.length / 2 then _ else _ : List Int)
    by_cases h0 : p < l.length / 2
    · rw [if_pos h0]
      obtain ⟨k1, k2, k3⟩ := kid_eq h0
      generalize kidI l p = c at *
      have hcp : (c - 1) / 2 = p := by rcases k1 with e | e <;> rw [e] <;> omega
      have hc0 : p < c := by rcases k1 with e | e <;> omega
      refine down_ok f _ c (by rw [swapI_len]; exact k2) (by rw [swapI_len]; omega) ⟨fun i i0 il ne np => ?_, fun c0 i i0 il hi => ?_⟩
      · rw [swapI_len] at il
        rw [swap_get k2 hp, swap_get k2 hp]
        by_cases e1 : i = p
        · subst e1
          rw [if_pos rfl, if_neg (by omega), if_neg (by omega)]
          exact h.2 i0 c (by omega) k2 hcp
        · rw [if_neg e1, if_neg ne]
          by_cases e2 : (i - 1) / 2 = p
          · rw [if_pos e2]; exact k3 i i0 il e2
          · rw [if_neg e2, if_neg np]
            exact h.1 i i0 il e1 e2
      · rw [swapI_len] at il
        rw [swap_get k2 hp, swap_get k2 hp, hcp, if_pos rfl, if_neg (by omega), if_neg (by omega)]
        have := h.1 i i0 il (by omega) (by omega)
        rw [hi] at this; exact this
    · rw [if_neg h0]
      exact up_ok p l p hp (Nat.le_refl _) ⟨fun i i0 il ne => h.1 i i0 il ne (by omega), fun p0 i i0 il hi => by omega⟩
theorem heap_min {l : List Int} (h : HeapOk l) : ∀ i, i < l.length → l.getD 0 0 ≤ l.getD i 0 := by
  intro i
  induction i using Nat.strongRecOn with
  | _ i ih =>
    intro hi
    by_cases e : i = 0
    · rw [e]; exact Int.le_refl _
    · exact Int.le_trans (ih ((i - 1) / 2) (by omega) (by omega)) (h i (by omega) hi)
theorem heap_least {l : List Int} (h : HeapOk l) : ∀ z ∈ l, l.getD 0 0 ≤ z := fun z hz => by
  obtain ⟨i, hi, e⟩ := List.getElem_of_mem hz
  have := heap_min h i hi
  rw [List.getD_eq_getElem?_getD (i := i), List.getElem?_eq_getElem hi] at this
  rw [← e]; exact this
theorem getD_app {l : List Int} {x : Int} {i : Nat} (h : i < l.length) : (l ++ [x]).getD i 0 = l.getD i 0 := by
  rw [List.getD_eq_getElem?_getD, List.getD_eq_getElem?_getD, List.getElem?_append_left h]
theorem push_ok {l : List Int} (x : Int) (h : HeapOk l) : HeapOk (pushI l x) := by
  refine up_ok _ _ _ (by rw [List.length_append]; show _ < _ + 1; omega) (Nat.le_refl _) ⟨fun i i0 il ne => ?_, fun p0 i i0 il hi => ?_⟩
  · rw [List.length_append] at il
    have il : i < l.length + 1 := il
    rw [getD_app (by omega), getD_app (by omega)]
    exact h i i0 (by omega)
  · rw [List.length_append] at il
    have il : i < l.length + 1 := il
    omega
theorem pop_ok {l : List Int} (h : HeapOk l) : HeapOk (popI l) := by
  unfold popI
  by_cases h1 : l.length = 1
  · rw [if_pos h1]
    exact fun i i0 il => absurd il (Nat.not_lt_zero _)
  · rw [if_neg h1]
    by_cases h0 : l.length = 0
    · have : l = [] := List.eq_nil_of_length_eq_zero h0
      subst this
      intro i i0 il
      exact absurd il (Nat.not_lt_zero _)
    · have hl : (l.dropLast.set 0 (l.getD (l.length - 1) 0)).length = l.length - 1 := by rw [List.length_set, List.length_dropLast]
      have hg : ∀ k, 0 < k → k < l.length - 1 → (l.dropLast.set 0 (l.getD (l.length - 1) 0)).getD k 0 = l.getD k 0 := fun k k0 hk => by
        rw [getD_set0 (by rw [List.length_dropLast]; omega), if_neg (by omega), List.getD_eq_getElem?_getD, List.getD_eq_getElem?_getD, List.getElem?_dropLast, if_pos hk]
      refine down_ok _ _ _ (by rw [hl]; omega) (by rw [hl]; omega) ⟨fun i i0 il ne np => ?_, fun p0 => absurd p0 (Nat.lt_irrefl 0)⟩
      rw [hl] at il
      rw [hg i i0 il, hg _ (by omega) (by omega)]
      exact h i i0 (by omega)
theorem heap_asc {l : List Int} (h : l.Pairwise (· ≤ ·)) : HeapOk l := fun i i0 il => by
  rw [List.getD_eq_getElem?_getD, List.getD_eq_getElem?_getD, List.getElem?_eq_getElem il, List.getElem?_eq_getElem (show (i - 1) / 2 < l.length by omega)]
  exact List.pairwise_iff_getElem.mp h _ _ _ _ (by omega)
end HQ
/-! a dict comprehension whose keys are tuples of ints and texts -/
namespace L2
open PySem PySem.Spec PyProof.Rows
theorem put_tup {X : Cx} {ps : List (Addr × Obj)} {σ : St} {H : Hp} {s : Shared} {E : Value → Shared → Prop} {b D : Addr} {es : List (List Key × V)} {k : List Key} {v : V} {r : Value} {Q : Unit → Shared → Prop}
    (hu : X.A.units < cLine) (J : Inv X ps σ H s) (hb : H b = some (.tup (k.map kV))) (hD : H D = some (.dT es)) (hn : es.length < sizeLine) (hv : RelV v r)
    (go : ∀ s2, Inv X ps σ (upd H D (.dT (putK es k v))) s2 → Q () s2) : wpAny (model X.prog X.w) X.A (dictSet D (.ref b) r) Q E s := by
  obtain ⟨le, low, xs, rel, at_⟩ := dt_of J.hok hD
  have l1 : xs.length ≤ sizeLine := Paired.length rel ▸ le
  have l2 : (putK es k v).length ≤ sizeLine := Nat.le_trans (length_putK es k v) hn
  refine wpAny_dictSet_heap (hsz := l1) hu (key_of J.hok hb) at_ fun h2 d2 sb => go _ ?_
  obtain ⟨o2, e2, ep2, c1, c2, c3, c4, _, c6⟩ := d2
  refine d_write J (by rw [hD]; exact True.intro) sb ⟨o2, c1⟩ ⟨l2, low, _, (rel.put k hb hv).keeps fun c ys hc => ?_, o2, e2, ep2, c1, c2, c3, c4, c6⟩
  exact (upd_ne (ne_of hc hD (fun z => nomatch z))).trans hc
section
variable {X : Cx}
/-- one turn: the target, the test, the key, the value, the store -/
def dctTurn (D : Addr) (g : TG) (tt : TT) (tk tv : TE) (vs : List Nat) (σ : St) (Nx : Hp → Prop) (x : V) (H : Hp) : Prop :=
  g x (wipe σ vs) H fun τ G1 => wipe τ vs = wipe σ vs ∧ tt τ G1 fun b G2 => if b = true then tk τ G2 fun y G3 => tv τ G3 fun z G4 =>
    ∃ (es : List (List Key × V)) (k : List Key) (c : Addr), y = .ref c ∧ G4 c = some (.tup (k.map kV)) ∧ G4 D = some (.dT es) ∧ es.length < sizeLine ∧ Nx (upd G4 D (.dT (putK es k z))) else Nx G2
def tDct (wi : TI) (g : TG) (tt : TT) (tk tv : TE) (vs : List Nat) : TE := fun σ H Q => wi σ H fun J H1 => ∀ D, H1 D = none → ∃ W : Nat → Nat → Hp → Prop, (∃ m, W 0 m (upd H1 D (.dT []))) ∧
  ∀ i m G, W i m G → (J.stop i G ∧ Q (.ref D) G) ∨ (J.go i G ∧ ∃ Nx : Hp → Prop, (∀ G2, Nx G2 → ∃ m2, m2 < m ∧ W (i + 1) m2 G2) ∧ ∀ x G2, J.yld i G x G2 → dctTurn D g tt tk tv vs σ Nx x G2)
abbrev InBlk (X : Cx) (scope : Scope) (F : Cx → Prop) : Prop := ∀ (s : Shared) (H : Hp) (C : Addr) (cl : List (Str × Addr)) (fp : List Addr), F (X.blk s H scope (compEnvC scope cl C X.env) fp)
theorem pe_dct {kx vx tg iter : Expr} {ifs : List Expr} {scope : Scope} {own : List (Str × Nat)} {pos : Pos} {wi : TI} {g : TG} {tt : TT} {tk tv : TE} (calm : X.calm = true) (nd : X.N.Nodup) (hu : X.A.units < cLine)
    (walk : PI X tg iter wi) (ok : BlkOk X.N X.env.scope scope own) (bg : InBlk X scope fun Y => PG Y tg g) (bt : InBlk X scope fun Y => PTs Y ifs tt) (bk : InBlk X scope fun Y => PE Y kx tk) (bv : InBlk X scope fun Y => PE Y vx tv)
    (plain : ∀ x, foldedSetIterable iter X.env x = pure x := by intro _; rfl) : PE X (.DictComp kx vx [⟨tg, iter, ifs, 0⟩] scope pos) (tDct wi g tt tk tv (own.map (·.2))) := by
  refine ⟨fun ps s σ H Q I hyp => ?_⟩
  rw [arm_eval_DictComp]
  have clo := closure_ok (env := X.env) (scope := scope) fun y hy e => (ok.free y hy e).elim (fun k => I.ok.has _ (.inl k)) (fun k => I.ok.has _ (.inr k))
  refine wpAny_comprehension_free (use := none) rfl plain clo ok.kind (fun y hy e => (ok.uniq y hy).trans (congrArg some e)) (thn (walk.run ps s σ H _ I hyp) fun _ s1 got => thn got fun _ s2 more => ?_)
  obtain ⟨it, fp, tn, J, H2, rfl, I2, T, here, fpok, rest⟩ := more
  refine wpAny_newObj_type (newEnv_comp ?_)
  let D : Addr := s2.heap.objs.size
  have free : H2 D = none := I2.hok.fresh (Nat.le_refl _)
  obtain ⟨W, ⟨m0, start⟩, turn⟩ := rest D free
  let s3 : Shared := { s2 with heap := s2.heap.push { cls := .type "dict", data := .dict #[] } }
  have old : ∀ b o, s2.heap.get? b = some o → s3.heap.get? b = some o := fun b o e => Heap.get?_push_of_some _ e
  have I3 : Inv X ps σ (upd H2 D (.dT [])) s3 := I2.laid (t' := s2.toks) old (Nat.le_refl _) (dt_empty s2.heap I2.big)
  have small : ∀ b ∈ fp, b < s2.heap.objs.size := fun b hb => (T.obj _ _ here b hb).elim fun _ e => Heap.lt_size e.1
  have fp3 : ∀ b ∈ fp, FpOk X ps (upd H2 D (.dT [])) b ∧ b < s3.heap.objs.size := fun b hb =>
    ⟨⟨(upd_ne (Nat.ne_of_lt (small b hb))).trans (fpok b hb).1, (fpok b hb).2⟩, Nat.lt_of_lt_of_eq (Nat.lt_succ_of_lt (small b hb)) (Heap.size_push ..).symm⟩
  have here3 : tn 0 s3.heap := T.keep _ _ _ here fun b _ o e => old b o e
  have I4 := block_start I3 ok nd fp3
  generalize hH3 : upd H2 D (.dT []) = H3 at I3 I4 fp3 start
  generalize hC : s3.heap.objs.size = C at I4 ⊢
  generalize hce : compEnvC scope (cellsFrom (C + 1) scope.names (cloFrom X.env.cells scope.names [])) C X.env = ce at I4
  have locC : ce.locals = C := by rw [← hce]; rfl
  have at_ : ∀ F : Cx → Prop, InBlk X scope F → F (X.blk s3 H3 scope ce fp) := fun F hF => by rw [← hce]; exact hF ..
  have pg := at_ _ bg
  have pt := at_ _ bt
  have pk := at_ _ bk
  have pv := at_ _ bv
  let B : Cx := X.blk s3 H3 scope ce fp
  let s4 : Shared := { s3 with heap := pushCells (s3.heap.push { cls := .type "dict", data := .dict #[] }) scope.names }
  show codeAny _ _ (.compStart (.DictComp kx vx [⟨tg, iter, ifs, 0⟩] scope pos) 0 (.ref it) (.ref D) (compEnvC scope (cellsFrom (C + 1) scope.names (cloFrom X.env.cells scope.names [])) C X.env)) _ s4
  rw [hce]
  have here4 : tn 0 s4.heap := T.keep _ _ _ here3 fun b _ o e => pushCells_keeps _ _ _ _ (Heap.get?_push_of_some _ e)
  have away : ∀ {τ : St} {G : Hp} {t : Shared}, Inv B [] τ G t → (∀ b ∈ fp, G b = none) → ∀ b ∈ fp, FpOk B [] G b := fun {τ G t} J hn b hb =>
    ⟨hn b hb, (J.ok.exf b hb).1, J.ok.exfs b hb, .inl hb, fun x c e => (J.ok.exf b hb).2 x c e, fun p hp => nomatch (show p ∈ ([] : List (Addr × Obj)) ++ [] from hp)⟩
  let Iv : Nat → Shared → Prop := fun n t => ∃ i G, Inv B [] (wipe σ (own.map (·.2))) G t ∧ tn i t.heap ∧ (∀ b ∈ fp, G b = none) ∧ W i n G
  refine codeAny_compStart_dict ?loop (T.self X.A 0 _ _ _ here4 ?loop)
  refine compLoop_anyD Iv ?_ m0 ⟨0, H3, I4, here4, fun b hb => (fp3 b hb).1.1, start⟩
  rintro n t ⟨i, G, J, st, no, w⟩
  rcases turn i n G w with ⟨stop, fin⟩ | ⟨go, Nx, hNx, step⟩
  · -- the walk is over
    refine thnF (T.done B rfl rfl rfl calm i [] t _ G (fun _ _ => False) J (away J no) st stop) fun r t2 ⟨er, J2⟩ => ?_
    subst er
    have back : Inv X ps σ G t2 := I3.call' (ch := fp) J2.os J2.base J2.hok J2.bare fun b hb => ⟨(fp3 b hb).1.2.2.2.1, (fp3 b hb).1.2.1, (fp3 b hb).1.2.2.2.2.1, (fp3 b hb).1.2.2.2.2.2⟩
    have noC : G C = none := locC ▸ (show G ce.locals = none from J2.free)
    obtain ⟨m, hm, _⟩ := J2.loc
    have fo := I3.fpOk (Nat.le_of_eq hC) noC
    refine ⟨m, locC ▸ (show t2.heap.Ns ce.locals m from hm), fun h3 sb => ?_⟩
    obtain ⟨f0, f1, f2, f3, f4, f5⟩ := fo
    exact ⟨.ref D, G, back.turned (t' := t2.toks) (fun b o hb e => (sb.2 b hb).trans e) f0 f1 f3 f4 f5, rfl, fin⟩
  · refine thnF (T.item B rfl rfl rfl calm i [] t _ G (fun _ _ => False) J (away J no) st go) fun r t2 ⟨u, er, more⟩ => ?_
    subst er
    refine thnF more fun _ t3 ⟨x, G3, J3, rx, hy, st3, no3⟩ => ?_
    have J3p := J3.pinned (away J3 no3) (T.obj _ _ st3)
    refine thnF (pg.run _ t3 _ G3 x u _ J3p rx (step x G3 hy)) fun _ t4 ⟨τ, G4, J4, hw, q4⟩ => ?_
    refine thnF (pt.run _ t4 τ G4 _ J4 q4) fun b t5 ⟨G5, J5, q5⟩ => ?_
    have again : ∀ {t' : Shared} {G' : Hp}, Inv B ([] ++ pinsAt fp t3.heap) τ G' t' → Nx G' → ∃ m, m < n ∧ Iv m t' := fun {t' G'} J' nx => by
      obtain ⟨m2, lt, w2⟩ := hNx G' nx
      have kept : ∀ c ∈ fp, ∀ o, t3.heap.get? c = some o → t'.heap.get? c = some o ∧ G' c = none := fun c hc o e =>
        let z := J'.pin (c, o) (List.mem_append_right _ (List.mem_append_right _ (mem_pinsAt hc e)))
        ⟨z.1, z.2.1⟩
      have len : (wipe σ (own.map (·.2))).length = τ.length := by rw [← hw, wipe_length]
      exact ⟨m2, lt, i + 1, G', (J'.unpinned (pins := [])).weak len (fun j v e => (wipe_some (hw ▸ e)).1), T.keep _ _ _ st3 fun c hc o e => (kept c hc o e).1,
        fun c hc => (T.obj _ _ st3 c hc).elim fun o e => (kept c hc o e.1).2, w2⟩
    cases b with
    | false =>
      simp only [Bool.false_eq_true, if_false] at q5 ⊢
      exact again J5 q5
    | true =>
      simp only [if_true] at q5 ⊢
      refine thnF (pk.run _ t5 τ G5 _ J5 q5) fun kv t6 ⟨y, G6, J6, ry, q6⟩ => ?_
      refine thnF (pv.run _ t6 τ G6 _ J6 q6) fun vv t7 ⟨z, G7, J7, rz, es, k, c, ey, hc, hD, hl, nx⟩ => ?_
      subst ey
      obtain rfl : kv = Value.ref c := ry
      exact put_tup (X := B) hu J7 hc hD hl rz fun t8 J8 => again J8 nx
end
end L2
/-! y = {k: v for ..}, y a plain local: the value goes straight to its name -/
namespace L2
open PySem PySem.Spec PyProof.Rows
section
variable {X : Cx}
theorem sw_trueD {kx vx : Expr} {gs : List Comprehension} {scope : Scope} {pos py : Pos} {y : Str} {l : Nat} {env : Env} (hk : env.scope.kind = .function) (hy : env.scope.names.lookup y = some .local) (hl : (py.line == pos.line) = true)
    (ha : (scope.names.any fun (n, k) => n == y && (k == .local || k == .cell)) = false) : swapsWith (.DictComp kx vx gs scope pos) (some (.Name y py)) l env = pure true := by
  have e1 : env.kindOf y = some .local := hy
  have e2 : env.blockKind = .function := by unfold Env.blockKind; rw [hk]; rfl
  unfold swapsWith
  simp only [e1, e2, ha, hl, Expr.pos]
  rfl
theorem ps_setDc {i : Nat} {y : Str} {py : Pos} {kx vx tg iter : Expr} {ifs : List Expr} {scope : Scope} {own : List (Str × Nat)} {pos spos : Pos} {wi : TI} {g : TG} {tt : TT} {tk tv : TE} (calm : X.calm = true) (nd : X.N.Nodup) (at_ : X.N[i]? = some y) (loc : X.env.scope.names.lookup y = some .local)
    (sw : swapsWith (.DictComp kx vx [⟨tg, iter, ifs, 0⟩] scope pos) (some (.Name y py)) spos.line X.env = pure true) (walk : PI X tg iter wi) (ok : BlkOk X.N X.env.scope scope own)
    (bg : InBlk X scope fun Y => PG Y tg g) (bt : InBlk X scope fun Y => PTs Y ifs tt) (bk : InBlk X scope fun Y => PE Y kx tk) (bv : InBlk X scope fun Y => PE Y vx tv) (plain : ∀ x, foldedSetIterable iter X.env x = pure x := by intro _; rfl) :
    PS X (.Assign [.Name y py] (.DictComp kx vx [⟨tg, iter, ifs, 0⟩] scope pos) spos) (tAsg (tDc wi g tt tk tv (own.map (·.2))) (gName i)) := by
  refine ⟨fun ps s σ H D I hyp => ?_⟩
  rw [exec_Assign_Name_used _ _ _ _ sw]
  refine wpAny_bind (wpAny_standAt (wpAny_bind ?_))
  show wpAny _ X.A (do let _ ← comprehension (.DictComp kx vx [⟨tg, iter, ifs, 0⟩] scope pos) scope X.env (firstIterPos [⟨tg, iter, ifs, 0⟩] pos) newDict false (eval iter X.env) (some (assign (.Name y py) X.env))) _ _ s
  have hyp2 : tDc wi g tt tk tv (own.map (·.2)) σ H (fun x G => gName i x σ G D.nx) := hyp
  refine wpAny_bind (thn (dc_core (Qf := fun _ t => SP X ps D .next t) calm nd I walk ok bg bt bk bv plain hyp2 fun L C t m G J fin hn fo => ?_) fun _ t ht => wpAny_pure (wpAny_pure ht))
  show wpAny _ _ (assign (.Name y py) X.env (.ref L)) _ _ _
  refine wpAny_assign_Name (store_ok2 (v := V.ref L) J nd at_ (.inl loc) rfl (fun t2 J2 ⟨b, sb, hb⟩ => ?_) (.inr loc))
  obtain ⟨f0, f1, f2, f3, f4, f5⟩ := fo
  have away : C ≠ b := by
    rcases hb with z | z
    · exact z ▸ f1
    · exact fun e => f4 y b z e.symm
  exact ⟨m, hn.sameBut sb away, fun h3 sb3 => ⟨_, G, J2.turned (t' := t2.toks) (fun c o hc e => (sb3.2 c hc).trans e) f0 f1 f3 f4 f5, fin⟩⟩
end
end L2
namespace G
open PySem PySem.Spec PyProof.Rows L2
/-! ## max(xs, default=d) of whole numbers -/
theorem reads_ints {h : Heap} : ∀ {its : List Value} {ns : List Int}, IntsAre its ns → ReadsAll h its (ns.map PyData.int) []
  | _, _, .nil => .nil
  | _, _, .cons n t r => ReadsAll.cons (as := []) (bs := []) (.int n t) (reads_ints r)
theorem depth_ints : ∀ ns : List Int, PyData.depthAll (ns.map PyData.int) ≤ 5
  | [] => by simp [PyData.depthAll]
  | n :: r => by
    have := depth_ints r
    simp only [List.map_cons, PyData.depthAll, PyData.depth]
    omega
def rMaxDf (K : PySem.W.Frag) : List V → List V → Hp → VK → Prop := fun xs zs H Q => ∃ (a : Addr) (ns : List Int) (d : Int), xs = [.ref a] ∧ zs = [.int d] ∧ SqL K H a (ns.map V.int) ∧ (ns = [] → Q (.int d) H) ∧ (∀ n r, ns = n :: r → Q (.int (r.foldl max n)) H)
theorem cr_maxDf {X : Cx} (hc : X.calm = true) (hr : X.A.units + 200 < cLine) : CallRK X (.builtin "max") ["default"] (rMaxDf X.K) := by
  intro pins s σ H xs zs us ws Q I r rz h
  obtain ⟨a, ns, d, rfl, rfl, hs, q0, q1⟩ := h
  obtain ⟨its, rv, hl, _⟩ := I.list hs
  rw [Vals.ref1 r]
  obtain ⟨u, rfl, t, rfl⟩ := vals1 rz
  refine PySem.W.max_list_default (xs := ns.map PyData.int) (as := []) (I.ok.hd hc) hl.isList (reads_ints rv.ints) ?_ ?_ (fun h0 h' tk k => ?_) (fun y ys i v h' tk bs hxs hv hrd k => ?_)
  · refine ⟨fun x hx y hy => ?_, fun x hx => ?_⟩
    · obtain ⟨i, _, rfl⟩ := List.mem_map.mp hx
      obtain ⟨j, _, rfl⟩ := List.mem_map.mp hy
      rfl
    · obtain ⟨i, _, rfl⟩ := List.mem_map.mp hx
      exact fun z => by cases z
  · have := depth_ints ns
    omega
  · exact ⟨.int d, H, I.kept (t' := tk) k, ⟨_, rfl⟩, q0 (List.map_eq_nil_iff.mp h0)⟩
  · cases ns with
    | nil => cases hxs
    | cons n r =>
      rw [List.map_cons] at hxs
      injection hxs with e1 e2
      subst e1 e2
      rw [PySem.W.maxD_ints] at hrd
      cases hrd with
      | int i t => exact ⟨.int _, H, I.kept (t' := tk) k, ⟨_, rfl⟩, q1 n r rfl⟩
end G
namespace XS
open PySem PySem.Spec PyProof.Rows L2 PySem.Froz
/-! sets of texts: set(xs), len, in, sorted, add -/
structure TxAt (P : Program) (w : World) (h : Heap) (a : Addr) (l : List Str) : Prop where
  ex : ∃ D : SD, h.get? a = some (sObj "set" D) ∧ TxOk P w D l ∧ Ris D.2.2.place.toList ∧ (w.params.followText "set-order" = true ∨ D.2.2.led = true)
  one : l.Nodup
  few : l.length < 4000
theorem tail_ris {ep : Nat} {es : Array (Int × Value)} {t : SetTable} {d : Bool} (r : Ris t.place.toList) : Ris (tailTx ep es t d).2.2.place.toList ∧ (tailTx ep es t d).2.2.led = t.led := by
  unfold tailTx
  split
  · exact ⟨relayAll_ris _ _ _, relayAll_led _ _ _⟩
  · exact ⟨r, rfl⟩
theorem add_ris {D : SD} {h : Int} {v : Value} (r : Ris D.2.2.place.toList) : Ris (addTx h v D).2.2.place.toList ∧ (addTx h v D).2.2.led = D.2.2.led := by
  have r1 := layNew_ris D.2.2 D.1 h v r
  have e1 := layNew_led D.2.2 D.1 h v
  unfold addTx
  refine (fun z => ⟨(tail_ris z.1).1, (tail_ris z.1).2.trans z.2⟩) (?_ : Ris (SetTable.place _).toList ∧ SetTable.led _ = D.2.2.led)
  split
  · exact ⟨r1, e1⟩
  · exact ⟨r1, e1⟩
section
variable {P : Program} {w : World} {A : Around} {E : Value → Shared → Prop} {s : Shared} {a : Addr} {l : List Str}
theorem TxAt.at {h h' : Heap} (R : TxAt P w h a l) (k : ∀ o, h.get? a = some o → h'.get? a = some o) : TxAt P w h' a l := by
  obtain ⟨⟨D, ho, r⟩, x, y⟩ := R
  exact ⟨⟨D, k _ ho, r⟩, x, y⟩
theorem TxAt.setOf {h : Heap} (R : TxAt P w h a l) : h.SetOf (strKind P w) a (fun k => decide (k ∈ l)) l.length := by
  obtain ⟨⟨D, ho, F, _⟩, _, f⟩ := R
  exact ⟨_, D.1, D.2.1, D.2.2, ho, ⟨rfl, rfl, rfl⟩, rfl, F.el, (fun k => by rw [decide_eq_true_eq]; exact F.mem k), by rw [F.sz]; unfold scanBound; omega, F.fit, F.sz⟩
/-- a member added -/
theorem add_at {k : Str} {u : Tok} {Q : Bool → Shared → Prop} (R : TxAt P w s.heap a l) (hb : l.length + 1 < 4000)
    (hQ : ∀ h' l' b, Heap.SameBut a s.heap h' → TxAt P w h' a l' → (k ∈ l ∧ l' = l ∨ k ∉ l ∧ l' = k :: l) → Q b { s with heap := h' }) : wpAny (model P w) A (setAddHashed a (.str k u) (hashStr w k)) Q E s := by
  by_cases hk : k ∈ l
  · have R' := R
    obtain ⟨⟨D, ho, F, hr, hl⟩, ho1, hf1⟩ := R
    obtain ⟨es, ep, t⟩ := D
    have hs : es.size = l.length := F.sz
    have hel : ElemsOf (strKind P w) es.toList := F.el
    have hd : (sObj "set" (es, ep, t)).data = .set es ep t := rfl
    unfold setAddHashed setAddHashedIn
    refine wpAny_holding (wpAny_bind (wpAny_setState_of ho hd F.fit ?_))
    dsimp only
    rw [byScan_of rfl (by rw [hs]; unfold scanBound; omega) hel]
    simp only [↓reduceIte]
    unfold setAddByScan
    refine wpAny_bind (wpAny_bind (wpAny_rule (wpAny_bind (wpAny_setScan_of (knd := strKind P w) (k := k) (is_str k u) ho hd F.fit hel ?_))))
    cases hfi : List.findIdx? (fun e => (strKind P w).is k e.2) es.toList with
    | none =>
      obtain ⟨e, he, q⟩ := (F.mem k).mp hk
      have c := List.findIdx?_eq_none_iff.mp hfi e he
      rw [q] at c
      cases c
    | some j =>
      dsimp only
      exact wpAny_pure (wpAny_pure (hQ s.heap l _ (Heap.SameBut.refl a s.heap) R' (.inl ⟨hk, rfl⟩)))
  · obtain ⟨⟨D, ho, F, hr, hl⟩, ho1, hf1⟩ := R
    refine add_x (u := u) ho F hk (by unfold scanBound; omega) (hQ _ (k :: l) _ ⟨Heap.size_update _ _ _, fun b hb => Heap.get?_update_other _ _ (Ne.symm hb)⟩ ⟨⟨_, get_upd _ ho rfl, add_ok u F, (add_ris hr).1, hl.imp id fun z => (add_ris hr).2.trans z⟩, List.nodup_cons.mpr ⟨hk, ho1⟩, hb⟩ (.inr ⟨hk, rfl⟩))
/-- set.add -/
theorem add_call {k : Str} {u : Tok} {Q : Value → Shared → Prop} (R : TxAt P w s.heap a l) (hb : l.length + 1 < 4000)
    (hQ : ∀ h' l', Heap.SameBut a s.heap h' → TxAt P w h' a l' → (k ∈ l ∧ l' = l ∨ k ∉ l ∧ l' = k :: l) → Q .none { s with heap := h', toks := s.toks + 1 }) :
    wpAny (model P w) A (call (.builtin "set.add") [.ref a, .str k u]) Q E s := by
  refine wpAny_call_entry F.slot_set_add R.setOf.typeIs F.entry_set_add ?_ (F.args_set_add_2 _ _)
  unfold Builtin.«set.add» Builtin.Frozenset.oneOther
  simp only [List.isEmpty_nil, bind_assoc]
  unfold Builtin.Frozenset.addrOf setAdd
  refine wpAny_bind (wpAny_pure ?_)
  try dsimp only
  refine wpAny_bind (wpAny_pure ?_)
  try dsimp only
  refine wpAny_bind (wpAny_holding (wpAny_bind ((strKind P w).pyHash (strKind_is P w k u) ?_)))
  refine add_at (s := { s with toks := s.toks + 1 }) R hb fun h' l' b sb r z => ?_
  show wpAny _ _ (ret Value.none) _ _ _
  exact wpAny_pure ⟨_, rfl, hQ h' l' sb r z⟩
theorem tx_fresh {h : Heap} (ho : h.get? a = some { cls := .type "set", dict := none, data := .set #[] 0 (.fresh 0 0 (!w.params.followText "set-order")) }) : TxAt P w h a [] where
  ex := ⟨(#[], 0, .fresh 0 0 (!w.params.followText "set-order")), ho, TxOk.nil rfl, List.Pairwise.nil, by
    show _ ∨ (!w.params.followText "set-order") = true
    cases w.params.followText "set-order"
    · exact .inr rfl
    · exact .inl rfl⟩
  one := List.nodup_nil
  few := by show 0 < 4000; decide
/-- the first i of xs, each once -/
structure Part (xs : List Str) (i : Nat) (l : List Str) : Prop where
  mem : ∀ x, x ∈ l ↔ x ∈ xs.take i
  len : l.length ≤ i
theorem Part.next {xs : List Str} {i : Nat} {l l' : List Str} {k : Str} (p : Part xs i l) (hk : xs[i]? = some k) (z : k ∈ l ∧ l' = l ∨ k ∉ l ∧ l' = k :: l) : Part xs (i + 1) l' := by
  have e : ∀ x, x ∈ xs.take (i + 1) ↔ x ∈ xs.take i ∨ x = k := fun x => by rw [List.take_add_one, hk]; simp
  rcases z with ⟨h, rfl⟩ | ⟨h, rfl⟩
  · exact ⟨fun x => by rw [e, p.mem]; exact ⟨.inl, fun z => z.elim id fun q => q ▸ (p.mem k).mp h⟩, Nat.le_succ_of_le p.len⟩
  · exact ⟨fun x => by rw [e, List.mem_cons, p.mem]; exact Or.comm, Nat.succ_le_succ p.len⟩
end

section
variable {P : Program} {w : World} {A : Around} {E : Value → Shared → Prop} {s : Shared} {R : Result → Shared → Prop} {I : Addr} {fp wr : List Addr} {G : Array GenState → Array GenState → Prop} {n : Nat} {Pv : Nat → Value → Prop} {St : Nat → Shared → Prop}
theorem upd_loop (W : WalksS P w A.in1 I fp wr G n Pv St) (a : Addr) (ha : a ∉ fp) (xs : List Str) (hn : n = xs.length) (few : xs.length < 4000) (hv : ∀ i v, Pv i v → ∃ k u, xs[i]? = some k ∧ v = .str k u) :
    ∀ (m i : Nat) (s : Shared) (l : List Str), n - i = m → i ≤ n → St i s → TxAt P w s.heap a l → Part xs i l →
      (∀ s' l', Moved (a :: wr) G s s' → TxAt P w s'.heap a l' → Part xs n l' → R (.ok (.ret .none)) s') →
      codeAny (model P w) A (.builtin "set.update.loop" ⟨[.ref a, .ref I], []⟩) R s := by
  have aw : a ∉ wr := fun h => ha (W.sub _ h)
  have up : ∀ b ∈ wr, b ∈ a :: wr := fun b hb => List.mem_cons_of_mem _ hb
  intro m
  induction m with
  | zero =>
    intro i s l hm hi st T p hR
    obtain rfl : i = n := by omega
    refine codeAny_builtin F.entry_set_update_loop ?_
    rw [Around.under_plainId F.plain_set_update_loop _]
    show wpAny _ A.in1 (pyNext (.ref I) >>= _) _ _ s
    refine wpAny_bind (W.done s _ _ st fun s' mv => ?_)
    show wpAny _ A.in1 (ret Value.none) _ _ s'
    exact wpAny_pure (hR s' l (mv.mono up) (T.at fun o e => mv.heap a o aw e) p)
  | succ m ih =>
    intro i s l hm hi st T p hR
    have lt : i < n := by omega
    refine codeAny_builtin F.entry_set_update_loop ?_
    rw [Around.under_plainId F.plain_set_update_loop _]
    show wpAny _ A.in1 (pyNext (.ref I) >>= _) _ _ s
    refine wpAny_bind (W.item i s _ _ lt st fun v s' hP st' mv => ?_)
    obtain ⟨k, u, hk, rfl⟩ := hv i v hP
    have T1 : TxAt P w s'.heap a l := T.at fun o e => mv.heap a o aw e
    show wpAny _ A.in1 (holding [Value.str k u] (setAdd a (.str k u)) >>= _) _ _ s'
    refine wpAny_bind (wpAny_holding ?_)
    unfold setAdd
    refine wpAny_holding (wpAny_bind ((strKind P w).pyHash (strKind_is P w k u) ?_))
    refine add_at (s := { s' with toks := s'.toks + 1 }) T1 (by have := p.len; omega) fun h' l' b sb T2 z => ?_
    refine wpAny_pure ⟨plainId_quiet F.plain_set_update_loop _, ih (i + 1) _ l' (by omega) lt (W.frame _ s' _ _ st' (Nat.le_succ _) fun b hb o e => ?_) T2 (p.next hk z) fun s2 l2 mv2 T3 p3 => ?_⟩
    · rw [sb.2 b fun q => ha (q ▸ hb)]; exact e
    · refine hR s2 l2 (Moved.trans W.gtrans ((mv.mono up).then_heap (Nat.le_succ _) fun b o hb e => ?_) mv2) T3 p3
      rw [sb.2 b fun q => hb (q ▸ List.mem_cons_self)]; exact e
end

section
variable {P : Program} {w : World} {A : Around} {E : Value → Shared → Prop} {s : Shared}
/-- an empty set's object -/
def eO (w : World) : Obj := { cls := .type "set", dict := none, data := .set #[] 0 (.fresh 0 0 (!w.params.followText "set-order")) }
set_option maxRecDepth 100000 in
set_option maxHeartbeats 3200000 in
theorem set_list {l : Addr} {items : Array Value} (xs : List Str) {Q : Value → Shared → Prop} (hh : A.handled = none) (hl : s.heap.IsList l items) (hit : StrsAre items.toList xs) (few : xs.length < 4000)
    (h : ∀ (h' : Heap) (tk : Nat) (m : List Str), TxAt P w h' s.heap.objs.size m → Part xs xs.length m → (∀ b o, s.heap.get? b = some o → h'.get? b = some o) → Q (.ref s.heap.objs.size) { s with heap := h', toks := tk }) :
    wpAny (model P w) A (call (.type "set") [.ref l]) Q E s := by
  have isz : items.size = xs.length := by rw [← StrsAre.len_eq hit, Array.length_toList]
  obtain ⟨c, tl, hmro⟩ := F.called_set.mro
  have g1 := F.called_set.made
  have g2 := F.called_set.sub
  have g3 := F.called_set.notType
  have g4 := F.called_set.canCreate
  have g5 := F.typeCall_set_1 (.ref l)
  refine wpAny_call (codeAny_of_tree ?_)
  show wpAny _ _ (callAny (.type "set") _) _ _ _
  refine wpAny_pure ⟨Code.quiet_builtin _ (by decide +kernel), codeAny_builtin F.entry_type_call ?_⟩
  rw [Around.under_plain (weight_type_call_type "set" [.ref l] []) rfl]
  repeat (any_goals (first | assumption | wp_step))
  refine codeAny_mono (code_set_led1 (.ref l) (E := E) (Q₁ := fun ob s1 => ob = .ref s.heap.objs.size ∧ s1 = { s with heap := s.heap.push (eO w) }) ⟨rfl, rfl⟩) fun r s1 hr => ?_
  cases r with
  | error e => exact hr
  | ok fl =>
    cases fl with
    | ret ob =>
      obtain ⟨rfl, rfl⟩ := hr
      have hS : (s.heap.push (eO w)).get? s.heap.objs.size = some (eO w) := Heap.get?_push_size _ rfl
      have hT : Shared.TypeIs { s with heap := s.heap.push (eO w) } (.ref s.heap.objs.size) "set" := ⟨_, hS, rfl⟩
      have g6 := F.called_set.init.lookup
      have g7 := F.called_set.init.bind (.ref s.heap.objs.size)
      repeat (any_goals (first | assumption | wp_step))
      refine codeAny_mono (codeAny_call_builtin (R := wants (fun r s2 => r = .none ∧ ∃ h' tk m, s2 = { s with heap := h', toks := tk } ∧ TxAt P w h' s.heap.objs.size m ∧ Part xs xs.length m ∧
          (∀ b o, s.heap.get? b = some o → h'.get? b = some o)) E) F.called_set.init.plain F.entry_set_init (check_set_init_1 hT ?_)) fun r2 s2 hr2 => ?_
      · obtain ⟨⟨ocls, odict, odata, oslots⟩, hol, hcl, nl, hdl⟩ := hl
        simp only at hcl hdl
        subst hcl; subst hdl
        have hol' : (s.heap.push (eO w)).get? l = some { cls := .type "list", dict := odict, data := .seq items nl, slots := oslots } := Heap.get?_push_of_some _ hol
        have g8 := F.sub_list_set
        have g9 := F.sub_list_frozenset
        have g10 : (Value.type "list" == Value.type "dict") = false := by decide
        have hl1 : (s.heap.push (eO w)).IsList l items := ⟨_, hol', rfl, nl, rfl⟩
        unfold Builtin.«set.__init__» noKeywords Builtin.Frozenset.updateFrom
        generalize hPI : pyIter = PI
        wp_walk
        subst hPI
        refine wpAny_pyIter_list hl1 (wpAny_bind (wpAny_runValue ?_))
        have lS : l < s.heap.objs.size := Heap.lt_size hol
        have hh3 : A.in1.in1.in1.handled = none := by simp [hh]
        have nI : l ≠ (s.heap.push (eO w)).objs.size := by rw [Heap.size_push]; exact Nat.ne_of_lt (Nat.lt_succ_of_lt lS)
        have nf : s.heap.objs.size ∉ [(s.heap.push (eO w)).objs.size, l] := by
          rw [Heap.size_push]; simp only [List.mem_cons, List.mem_singleton, List.not_mem_nil, or_false, not_or]
          exact ⟨Nat.ne_of_lt (Nat.lt_succ_self _), Nat.ne_of_gt lS⟩
        refine upd_loop ((Walks.list hh3 _ l nI items).toS) s.heap.objs.size nf xs isz few (fun i v e => ?_) (items.size - 0) 0 _ [] (by omega) (Nat.zero_le _)
          ⟨⟨_, Heap.get?_push_size _ rfl, rfl, rfl⟩, (hl1.push _)⟩ (tx_fresh (Heap.get?_push_of_some _ hS)) ⟨fun x => by simp, Nat.le_refl _⟩ fun s' m mv T p => ?_
        · have q : items.toList[i]? = some v := by rw [Array.getElem?_toList]; exact e
          obtain ⟨t, rfl⟩ := SS.strs_at hit i v q
          have hi : i < xs.length := by rw [← StrsAre.len_eq hit]; exact (List.getElem?_eq_some_iff.mp q).1
          exact ⟨xs[i], t, List.getElem?_eq_getElem hi, by rw [List.getD_eq_getElem?_getD, List.getElem?_eq_getElem hi]; rfl⟩
        · obtain ⟨h', g', d', tk', os'⟩ := s'
          have e1 : g' = s.gens := mv.gens
          have e2 : d' = s.drawn := mv.drawn
          have e3 : os' = s.os := mv.os
          subst e1; subst e2; subst e3
          show wpAny _ _ _ _ _ _
          refine wpAny_pure ?_
          show wpAny _ _ (ret Value.none) _ _ _
          rw [isz] at p
          refine wpAny_pure ⟨rfl, h', tk', m, rfl, T, p, fun b o e => ?_⟩
          have hb : b < s.heap.objs.size := Heap.lt_size e
          refine mv.heap b o ?_ (Heap.get?_push_of_some _ (Heap.get?_push_of_some _ e))
          rw [Heap.size_push]; simp only [List.mem_cons, List.mem_singleton, List.not_mem_nil, or_false, not_or]
          exact ⟨Nat.ne_of_lt hb, Nat.ne_of_lt (Nat.lt_succ_of_lt hb)⟩
      · cases r2 with
        | error e => exact hr2
        | ok f2 =>
          cases f2 with
          | ret r =>
            obtain ⟨rfl, h', tk, m, rfl, T, p, k⟩ := hr2
            repeat (any_goals (first | assumption | wp_step))
            exact h _ _ _ T p k
          | _ => exact hr2.elim
    | _ => exact hr.elim
end

section
variable {P : Program} {w : World} {A : Around} {E : Value → Shared → Prop} {s : Shared}
set_option maxRecDepth 100000 in
set_option maxHeartbeats 3200000 in
theorem set_tuple {l : Addr} {items : Array Value} (xs : List Str) {Q : Value → Shared → Prop} (hh : A.handled = none) (hl : s.heap.IsTuple l items) (hit : StrsAre items.toList xs) (few : xs.length < 4000)
    (h : ∀ (h' : Heap) (tk : Nat) (m : List Str), TxAt P w h' s.heap.objs.size m → Part xs xs.length m → (∀ b o, s.heap.get? b = some o → h'.get? b = some o) → Q (.ref s.heap.objs.size) { s with heap := h', toks := tk }) :
    wpAny (model P w) A (call (.type "set") [.ref l]) Q E s := by
  have isz : items.size = xs.length := by rw [← StrsAre.len_eq hit, Array.length_toList]
  obtain ⟨c, tl, hmro⟩ := F.called_set.mro
  have g1 := F.called_set.made
  have g2 := F.called_set.sub
  have g3 := F.called_set.notType
  have g4 := F.called_set.canCreate
  have g5 := F.typeCall_set_1 (.ref l)
  refine wpAny_call (codeAny_of_tree ?_)
  show wpAny _ _ (callAny (.type "set") _) _ _ _
  refine wpAny_pure ⟨Code.quiet_builtin _ (by decide +kernel), codeAny_builtin F.entry_type_call ?_⟩
  rw [Around.under_plain (weight_type_call_type "set" [.ref l] []) rfl]
  repeat (any_goals (first | assumption | wp_step))
  refine codeAny_mono (code_set_led1 (.ref l) (E := E) (Q₁ := fun ob s1 => ob = .ref s.heap.objs.size ∧ s1 = { s with heap := s.heap.push (eO w) }) ⟨rfl, rfl⟩) fun r s1 hr => ?_
  cases r with
  | error e => exact hr
  | ok fl =>
    cases fl with
    | ret ob =>
      obtain ⟨rfl, rfl⟩ := hr
      have hS : (s.heap.push (eO w)).get? s.heap.objs.size = some (eO w) := Heap.get?_push_size _ rfl
      have hT : Shared.TypeIs { s with heap := s.heap.push (eO w) } (.ref s.heap.objs.size) "set" := ⟨_, hS, rfl⟩
      have g6 := F.called_set.init.lookup
      have g7 := F.called_set.init.bind (.ref s.heap.objs.size)
      repeat (any_goals (first | assumption | wp_step))
      refine codeAny_mono (codeAny_call_builtin (R := wants (fun r s2 => r = .none ∧ ∃ h' tk m, s2 = { s with heap := h', toks := tk } ∧ TxAt P w h' s.heap.objs.size m ∧ Part xs xs.length m ∧
          (∀ b o, s.heap.get? b = some o → h'.get? b = some o)) E) F.called_set.init.plain F.entry_set_init (check_set_init_1 hT ?_)) fun r2 s2 hr2 => ?_
      · obtain ⟨⟨ocls, odict, odata, oslots⟩, hol, hcl, nl, hdl⟩ := hl
        simp only at hcl hdl
        subst hcl; subst hdl
        have hol' : (s.heap.push (eO w)).get? l = some { cls := .type "tuple", dict := odict, data := .seq items nl, slots := oslots } := Heap.get?_push_of_some _ hol
        have g8 := F.sub_tuple_set
        have g9 := F.sub_tuple_frozenset
        have g10 : (Value.type "tuple" == Value.type "dict") = false := by decide
        have hl1 : (s.heap.push (eO w)).IsTuple l items := ⟨_, hol', rfl, nl, rfl⟩
        unfold Builtin.«set.__init__» noKeywords Builtin.Frozenset.updateFrom
        generalize hPI : pyIter = PI
        wp_walk
        subst hPI
        refine wpAny_pyIter_tuple hl1 (wpAny_bind (wpAny_runValue ?_))
        have lS : l < s.heap.objs.size := Heap.lt_size hol
        have hh3 : A.in1.in1.in1.handled = none := by simp [hh]
        have nI : l ≠ (s.heap.push (eO w)).objs.size := by rw [Heap.size_push]; exact Nat.ne_of_lt (Nat.lt_succ_of_lt lS)
        have nf : s.heap.objs.size ∉ [(s.heap.push (eO w)).objs.size, l] := by
          rw [Heap.size_push]; simp only [List.mem_cons, List.mem_singleton, List.not_mem_nil, or_false, not_or]
          exact ⟨Nat.ne_of_lt (Nat.lt_succ_self _), Nat.ne_of_gt lS⟩
        refine upd_loop ((Walks.tuple hh3 _ l nI items).toS) s.heap.objs.size nf xs isz few (fun i v e => ?_) (items.size - 0) 0 _ [] (by omega) (Nat.zero_le _)
          ⟨⟨_, Heap.get?_push_size _ rfl, rfl, rfl⟩, (hl1.push _)⟩ (tx_fresh (Heap.get?_push_of_some _ hS)) ⟨fun x => by simp, Nat.le_refl _⟩ fun s' m mv T p => ?_
        · have q : items.toList[i]? = some v := by rw [Array.getElem?_toList]; exact e
          obtain ⟨t, rfl⟩ := SS.strs_at hit i v q
          have hi : i < xs.length := by rw [← StrsAre.len_eq hit]; exact (List.getElem?_eq_some_iff.mp q).1
          exact ⟨xs[i], t, List.getElem?_eq_getElem hi, by rw [List.getD_eq_getElem?_getD, List.getElem?_eq_getElem hi]; rfl⟩
        · obtain ⟨h', g', d', tk', os'⟩ := s'
          have e1 : g' = s.gens := mv.gens
          have e2 : d' = s.drawn := mv.drawn
          have e3 : os' = s.os := mv.os
          subst e1; subst e2; subst e3
          show wpAny _ _ _ _ _ _
          refine wpAny_pure ?_
          show wpAny _ _ (ret Value.none) _ _ _
          rw [isz] at p
          refine wpAny_pure ⟨rfl, h', tk', m, rfl, T, p, fun b o e => ?_⟩
          have hb : b < s.heap.objs.size := Heap.lt_size e
          refine mv.heap b o ?_ (Heap.get?_push_of_some _ (Heap.get?_push_of_some _ e))
          rw [Heap.size_push]; simp only [List.mem_cons, List.mem_singleton, List.not_mem_nil, or_false, not_or]
          exact ⟨Nat.ne_of_lt hb, Nat.ne_of_lt (Nat.lt_succ_of_lt hb)⟩
      · cases r2 with
        | error e => exact hr2
        | ok f2 =>
          cases f2 with
          | ret r =>
            obtain ⟨rfl, h', tk, m, rfl, T, p, k⟩ := hr2
            repeat (any_goals (first | assumption | wp_step))
            exact h _ _ _ T p k
          | _ => exact hr2.elim
    | _ => exact hr.elim
end
end XS
namespace XS
open PySem PySem.Spec PyProof.Rows L2
def TxO (P : Program) (w : World) (a : Addr) (l : List Str) : HO := .ext fun h => TxAt P w h a l
section
variable {X : Cx}
theorem tx_new {w : World} {P : Program} {H : Hp} {h : Heap} {a : Addr} {l : List Str} (R : TxAt P w h a l) : ObjOk P w H h a (TxO P w a l) := by
  have ⟨⟨D, ho, _⟩, _, _⟩ := R
  exact ⟨R, ⟨_, ho⟩, fun h1 h2 p k => TxAt.at p k⟩
theorem tx_get {pins : List (Addr × Obj)} {σ : L2.St} {H : Hp} {s : Shared} {a : Addr} {l : List Str} (I : Inv X pins σ H s) (ha : H a = some (TxO X.prog X.w a l)) : TxAt X.prog X.w s.heap a l := (I.hok a _ ha).1
/-- set(xs) of a list or tuple of texts -/
def rSetX (P : Program) (w : World) (K : PySem.W.Frag) : List V → Hp → VK → Prop := fun vs H Q => ∃ (b : Addr) (xs : List Str), vs = [V.ref b] ∧ (SqL K H b (xs.map V.str) ∨ SqT K H b (xs.map V.str)) ∧ xs.length < 4000 ∧
  ∀ (p : Addr) (l : List Str), l.Nodup → (∀ x, x ∈ l ↔ x ∈ xs) → l.length ≤ xs.length → H p = none → Q (.ref p) (upd H p (TxO P w p l))
theorem cr_setX (hc : X.calm = true) : CallR X (.type "set") (rSetX X.prog X.w X.K) := by
  intro pins s σ H vs us Q I r h
  obtain ⟨b, xs, rfl, hq, few, q⟩ := h
  rw [Vals.ref1 r]
  have fin : ∀ (h' : Heap) (tk : Nat) (m : List Str), TxAt X.prog X.w h' s.heap.objs.size m → Part xs xs.length m → (∀ b o, s.heap.get? b = some o → h'.get? b = some o) → EP X pins σ Q (.ref s.heap.objs.size) { s with heap := h', toks := tk } := fun h' tk m T p k =>
    ⟨.ref s.heap.objs.size, upd H s.heap.objs.size (TxO X.prog X.w s.heap.objs.size m), I.laid (t' := tk) k (Nat.le_refl _) (tx_new T), rfl, q _ m T.one (fun x => by rw [p.mem, List.take_length]) p.len (I.hok.fresh (Nat.le_refl _))⟩
  rcases hq with hq | hq
  · obtain ⟨its, r, pl, hz⟩ := I.list hq
    exact set_list xs (I.ok.hd hc) pl.isList (by simpa using strsAre_of r) few fin
  · obtain ⟨its, r, pl, hz⟩ := I.tuple hq
    exact set_tuple xs (I.ok.hd hc) pl (by simpa using strsAre_of r) few fin
/-- len of a set of texts -/
def rLenX (P : Program) (w : World) : List V → Hp → VK → Prop := fun vs H Q => ∃ (a : Addr) (l : List Str), vs = [V.ref a] ∧ H a = some (TxO P w a l) ∧ Q (.int l.length) H
theorem cr_lenX : CallR X (.builtin "len") (rLenX X.prog X.w) := by
  intro pins s σ H vs us Q I r h
  obtain ⟨a, l, rfl, ha, q⟩ := h
  rw [Vals.ref1 r]
  obtain ⟨⟨D, ho, F, _⟩, _, few⟩ := tx_get I ha
  refine call_len_set (es := D.1) (ep := D.2.1) (t := D.2.2) ho ⟨rfl, rfl, rfl⟩ rfl F.fit (by rw [F.sz]; omega) ⟨.int l.length, H, I.tok _, ⟨_, by rw [F.sz]⟩, q⟩
end
end XS
namespace SUP
open PySem PySem.Spec PyProof.Rows L2 PySem.W
/-! ## an own error whose `__init__` begins with super().__init__(e, ..), over own classes over ValueError -/
/-- what the written part says of the class at C and of its `__init__` -/
structure SupT (K : PySem.W.Frag) (mg : Str → Option Value) (C f : Addr) (fd : FuncData) (qual : Str) (params : Arguments) (body : List Stmt) (scope : Scope) (file : Str) : Prop where
  oex : OexC K C
  ini : PySem.W.findIn K (.ref C) "__init__" = some (some (.ref f))
  tI : PySem.W.typeIn K (.ref f) = some (.type "function")
  msup : mg "super" = none
  any : PySem.W.nsIn K cStatics "thirdparty.any" = some none
  vE : PySem.W.subIn K (.ref C) (.type "ValueError") = some true
  sub : PySem.W.mroIn K C (.ref C) = some true
  sup : PySem.W.ks_superIn K C C "__init__" = some (some (.builtin "ValueError.__init__"))
  ex : ∃ (oc : Value) (od : Option Addr) (dV kV doc pm : Value) (an : Option Addr) (cda cc : Addr) (ct : Value) (osl : Array (Option Value)),
    fd = PySem.W.fnX "__init__" qual params body scope [("__class__", cc)] dV kV doc pm an (.ref cda) ct ∧ K.lookup f = some ⟨oc, od, .func fd, osl⟩ ∧ PySem.W.codeIn K (.ref cda) qual = true ∧
    (∃ (oc2 : Value) (od2 : Option Addr) (vs : Array Value) (sl2 : Array (Option Value)) (tf : Tok), K.lookup cda = some ⟨oc2, od2, .fields vs, sl2⟩ ∧ vs[2]? = some (.str file tf)) ∧
    ∃ (oc3 : Value) (od3 : Option Addr) (sl3 : Array (Option Value)), K.lookup cc = some ⟨oc3, od3, .cell (some (.ref C)), sl3⟩

section
variable {X : Cx} {pins : List (Addr × Obj)} {σ : L2.St} {H : Hp} {a C : Addr}
theorem inst_of {s : Shared} (I : Inv X pins σ H s) (ea : H a = some (exo a C none)) : ∃ t1 : Addr, PySem.W.InstAt s.heap a { cls := .ref C, dict := none, data := .fields #[.ref t1, .none, .none, .none, .bool false, .none] } C none := by
  obtain ⟨t1, ho⟩ := exo_at I.hok ea
  exact ⟨t1, ho, rfl, rfl, trivial⟩
/-- the bound `__init__` of ValueError, called -/
theorem call_mw {u : Addr} {A : Around} {E : Value → Shared → Prop} {us : List Value} {Q : Value → Shared → Prop} {s : Shared} (T : OexC X.K C) (I : Inv X pins σ H s) (hu : s.heap.get? u = some (PySem.W.kxs_mw "ValueError.__init__" a)) (ea : H a = some (exo a C none))
    (hl : us.length ≤ sizeLine) (h : ∀ s', Inv X pins σ H s' → Q .none s') : wpAny (model X.prog X.w) A (call (.ref u) us) Q E s := by
  obtain ⟨nm, q, N, bs, bm, sn, sub, ab, col, dd, k0, k1, k2, k3, k5, hC, hbm⟩ := T.cls
  obtain ⟨t1, ho⟩ := exo_at I.hok ea
  obtain ⟨hp, g, d, t, os⟩ := s
  refine wpAny_call (codeAny_of_tree ?_)
  show wpAny _ A.in1 (callAny (.ref u) ⟨us, []⟩) _ _ _
  simp only [callAny]
  refine wpAny_bind (wpAny_load hu ?_)
  simp only [PySem.W.kxs_mw, show (Value.type "method-wrapper" == Value.type "method" || Value.type "method-wrapper" == Value.type "builtin_function_or_method" || Value.type "method-wrapper" == Value.type "method-wrapper") = true by decide, if_true]
  refine PySem.W.KFB.if_so (by decide) ?_
  refine wpAny_bind (PySem.W.check_bound_init F.excBase_ValueError.toExcCallFacts (I.kIn _ _ hC) ho rfl ?_)
  refine wpAny_bind (wpAny_pure (wpAny_pure ?_))
  refine ⟨plainId_quiet F.excBase_ValueError.init.plain _, codeAny_builtin F.excBase_ValueError.initEntry ?_⟩
  refine PySem.W.exc_init_tree (cls := .ref C) (t0 := t1) (dv := none) (c2 := .none) (c3 := .none) (b4 := .bool false) ho hl fun h' k hx _ => ?_
  have J := I.write (t' := t) (x := a) (e := a) (o := exo a C none) (by rw [ea]; exact True.intro) (.inl rfl) k ⟨_, hx⟩ (exo_ok hx)
  have eu : upd H a (exo a C none) = H := by
    funext b
    by_cases hb : b = a
    · rw [hb, upd_same, ea]
    · rw [upd_ne hb]
  rw [eu] at J
  exact h _ J
end

section
variable {CX : CXT} {P : Program} {w : World} {K : PySem.W.Frag} {mg : Str → Option Value} {base : Heap} {N ps : List Str} {k : Nat} {C f : Addr} {fd : FuncData} {qual : Str} {params : Arguments} {body rest : List Stmt} {scope : Scope} {file : Str} {e : Expr} {es : List Expr} {p0 p1 p2 p3 p4 : Pos} {ar : Arg} {sp : Sp}
/-- the nested form of it -/
abbrev nf (qual : Str) (params : Arguments) (body : List Stmt) (scope : Scope) (cc cda : Addr) : NdefX.NF := ⟨"__init__", qual, params, body, scope, [("__class__", cc)], cda⟩
/-- THE RULE: such an `__init__` by what follows -/
theorem fn_sup (T : SupT K mg C f fd qual params body scope file) (hfile : ((P.main.file : Str) == file) = true) (htop : (P.main.scope.names.lookup ("super" : Str)).isSome = false)
    (hb : body = .Expr (.Call (.Attribute (.Call (.Name "super" p0) [] [] p1) "__init__" p2) (e :: es) [] p3) p4 :: rest)
    (S : NdefX.NScope N ps ["__class__"] scope) (hp : (params.posonlyargs ++ params.args).head? = some ar) (h0 : N[0]? = some ar.arg) (hks : scope.names.lookup ("super" : Str) = some .globalImplicit) (hka : scope.names.lookup ar.arg = some .local)
    (len : ∀ vs H Q E, sp vs H Q E → vs.length = ps.length)
    (hbody : ∀ (cda cc : Addr) (A : Around) (outer : List Env) (s : Shared) (H : Hp) (vs : List V) (Q : VK) (E : XK), Room k (A.deeper (NdefX.envF (nf qual params body scope cc cda) f s.heap.objs.size)) → sp vs H Q E →
      ∃ ta t, PA (NdefX.ncx CX P w K mg base N (nf qual params body scope cc cda) f A outer s H E) (e :: es) ta ∧ PSs (NdefX.ncx CX P w K mg base N (nf qual params body scope cc cda) f A outer s H E) rest t ∧
        ∃ a, vs[0]? = some (.ref a) ∧ H a = some (exo a C none) ∧ ta (NdefX.startF N vs [none]) H fun ws H1 => ws.length ≤ 1000 ∧ H1 a = some (exo a C none) ∧ t { nx := fun _ H' => Q .non H', rt := Q } (NdefX.startF N vs [none]) H1)
    (pl : Env → Sem Bool) (hev : ∀ env, eval (.Call (.Attribute (.Call (.Name "super" p0) [] [] p1) "__init__" p2) (e :: es) [] p3) env = (do
        let ov ← attributeBase (.Call (.Name "super" p0) [] [] p1) "__init__" env (eval (.Call (.Name "super" p0) [] [] p1) env)
        standAt p2.atName
        let (f, first) ← holding [ov] (getMethod ov "__init__" (pl env))
        callWith p3 f first (backTo p3 (starEach (e :: es) env)) []) := by intro _; rfl)
    (hst : ∀ env, starEach (e :: es) env = (false, eval e env) :: starEach es env := by intro _; rfl) (hpl : ∀ env, (backTo p3 (starEach es env)).any (·.1) = false := by intro _; rfl)
    (hsw : ∀ env, swapsWith (.Call (.Attribute (.Call (.Name "super" p0) [] [] p1) "__init__" p2) (e :: es) [] p3) none p4.line env = pure false := by intro _; rfl)
    (hps : ps.length ≥ 1) : FnOk P w K mg base CX (k + 1) f fd ps sp := by
  refine ⟨len, fun A outer s H args us vs Q E hr e0 hbi r hsp => ?_⟩
  obtain ⟨oc, od, dV, kV, doc, pm, an, cda, cc, ct, osl, hfd, lk, hcd, ⟨oc2, od2, fvs, sl2, tf, lk2, hvs⟩, oc3, od3, sl3, lk3⟩ := T.ex
  have hl := len _ _ _ _ hsp
  have hul : us.length = ps.length := by rw [← r.length, hl]
  have KX : K.In s.heap := e0.mod.kin.keeps fun b o e => (e0.bs b o e).1
  have lim : s.heap.NoLimit := e0.mod.nolimit.keeps fun b o e => (e0.bs b o e).1
  obtain ⟨ta, t, hpa, hpss, a, hva, haH, hq⟩ := hbody cda cc A outer s H vs Q E (hr.deeper _) hsp
  subst hfd
  have hloc : ∀ y ∈ ps.zip us, scope.names.lookup y.1 = some .local := fun ⟨n, v⟩ hy => S.par n (List.of_mem_zip hy).1
  refine ks_codeAny_call_defAt (fd := PySem.W.fnX "__init__" qual params body scope [("__class__", cc)] dV kV doc pm an (.ref cda) ct) hr.depth (KX _ _ lk) rfl lim (PySem.W.codeRec_of KX hcd) rfl hbi S.nocell hloc (fun h1 hns hk => ?_) S.co S.gen S.kind
  have kb : ∀ b o, base.get? b = some o → s.heap.get? b = some o ∧ H b = none := e0.bs
  have cat : NdefX.CellsAt [("__class__", cc)] ["__class__"] [none] s.heap H := {
    len := rfl
    all := fun y c hy => by
      have := PySem.mem_of_lookup hy
      simp only [List.mem_singleton, Prod.mk.injEq] at this
      obtain ⟨rfl, rfl⟩ := this
      exact ⟨(kb _ _ (e0.mod.kin _ _ lk3)).2, some (.ref C), _, KX _ _ lk3, rfl⟩
    inj := fun x y c h1 h2 => by
      have := PySem.mem_of_lookup h1
      have t2 := PySem.mem_of_lookup h2
      simp only [List.mem_singleton, Prod.mk.injEq] at this t2
      exact this.1.trans t2.1.symm
    has := fun i y hy => by
      cases i with
      | zero =>
        have : "__class__" = y := Option.some.inj hy
        subst this
        exact ⟨cc, by simp [List.lookup], fun v hv => by cases hv⟩
      | succ i => simp at hy }
  have I : Inv (NdefX.ncx CX P w K mg base N (nf qual params body scope cc cda) f A outer s H E) [] (NdefX.startF N vs [none]) H { s with heap := h1, toks := s.toks + (ps.zip us).length } :=
    NdefX.inv_startN S hr.hd e0 hl r cat hns hk
  show _root_.PySem.wpAt (model P w) _ (.func body (NdefX.envF (nf qual params body scope cc cda) f s.heap.objs.size)) (execs body (NdefX.envF (nf qual params body scope cc cda) f s.heap.objs.size)) _ _ _
  have hz : interactive (NdefX.envF (nf qual params body scope cc cda) f s.heap.objs.size) = false := by
    simp [interactive, S.kind]
  rw [show execs body (NdefX.envF (nf qual params body scope cc cda) f s.heap.objs.size) = execs (.Expr (.Call (.Attribute (.Call (.Name "super" p0) [] [] p1) "__init__" p2) (e :: es) [] p3) p4 :: rest) (NdefX.envF (nf qual params body scope cc cda) f s.heap.objs.size) from by rw [← hb]]
  refine ks_wpAt_execs_cons (ks_wpAt_Expr_any (ks_wpAt_MethodCall (pl := pl _) ?_ (hev _)) hz (hsw _))
  -- super()
  have KI : K.In ({ s with heap := h1, toks := s.toks + (ps.zip us).length } : Shared).heap := I.kIn
  obtain ⟨nm, q, Nn, bs, bm, sn, sub, ab, col, dd, k0, k1, k2, k3, k5, hC, hbm⟩ := T.oex.cls
  obtain ⟨t1, In⟩ := inst_of I haH
  obtain ⟨mb, bl1, bl2⟩ := e0.mod.blt
  refine ks_wpAt_super_base hks (S.frk _ List.mem_cons_self) (by decide) rfl (KI _ _ lk) rfl hp rfl (KI _ _ lk2) rfl hvs hfile htop ?_
  refine ks_loadName_global S.kind hks (Calls.loadGlobal_builtin (e0.mod.glob.keeps I.bk) T.msup (bl1.keeps I.bk) ((bl2 _ (by decide)).trans PyProof.Rows.Boot.«super») ⟨rfl, ?_⟩)
  refine wpAny_loadName_free S.kind (S.frk _ List.mem_cons_self) (by simp [List.lookup]) ⟨_, KI _ _ lk3, rfl⟩ ?_
  obtain ⟨m, hm, hmv⟩ := I.loc
  have hs0 : (NdefX.startF N vs [none])[0]? = some (some (.ref a)) := by
    unfold NdefX.startF
    rw [List.getElem?_append_left (by rw [List.length_map]; omega), List.getElem?_map, hva]; rfl
  obtain ⟨u, ru, lu⟩ := hmv 0 ar.arg (.ref a) h0 hs0 (.inl hka)
  obtain rfl : u = Value.ref a := ru
  have hma : m ar.arg = some (.ref a) := by
    rcases lu with ⟨_, h⟩ | ⟨h, _⟩
    · exact h
    · rcases h with h | h
      · have h' : scope.names.lookup ar.arg = some .cell := h
        rw [hka] at h'; cases h'
      · have h' : scope.names.lookup ar.arg = some .free := h
        rw [hka] at h'; cases h'
  refine wpAny_loadName_local S.kind hka hm hma ?_
  refine ks_wpAny_isType_cls (KI _ _ hC) rfl ⟨rfl, ?_⟩
  refine ks_wpAny_call_super (KI _ _ hC) rfl In.at_ rfl (fun c z => by cases z) (PySem.W.looks_mroIn KI T.sub) (fun h2 e2 kk2 => ?_)
  have I2 := I.kept (t' := s.toks + (ps.zip us).length) kk2
  -- the bound __init__
  have hcl : PySem.W.clsIn K C = some { name := nm, bases := bs, mro := .ref C :: bm, ns := Nn, qualname := q, hasDict := true, slotNames := sn, subclasses := sub, abstract := ab, collection := col, hasDel := false } := by unfold PySem.W.clsIn; rw [hC] <;> rfl
  have hal : PySem.W.alongIn K "__init__" (((Value.ref C :: bm).dropWhile (· != .ref C)).drop 1) = some (some (.builtin "ValueError.__init__")) := by
    have := T.sup
    unfold PySem.W.ks_superIn at this
    rw [hcl] at this
    exact this
  obtain ⟨t2, In2⟩ := inst_of I2 haH
  refine PySem.W.kxs_getMethod PySem.W.kxs_ValueError e2 (PySem.W.looks_opaque I2.kIn T.any) (l₀ := .ref C :: bm) (fun A Q E s k q => wpAny_bind ((PySem.W.looks_clsIn I2.kIn hcl) A _ E s k (wpAny_pure q))) rfl I2.kIn hal (In2.type.andThen (PySem.W.looks_subIn I2.kIn T.vE)) (PySem.W.ks_ne I2.kIn In2 hcl) (by decide) ?_
  show wpAny _ _ (callWith p3 (.ref h2.objs.size) [] (backTo p3 (starEach (e :: es) (NdefX.envF (nf qual params body scope cc cda) f s.heap.objs.size))) []) _ _ _
  rw [hst]
  refine PySem.W.kxs_callWith (i := "ValueError.__init__") (x := a) (by show (false || (backTo p3 (starEach es _)).any (·.1)) = false; rw [hpl]; rfl) ?_
  refine Calls.evalArgs_plain ?_
  have I4 := ClX.pin_new (a := h2.objs.size) (o := PySem.W.kxs_mw "ValueError.__init__" a) (t' := s.toks + (ps.zip us).length + 1) (h' := h2.push (PySem.W.kxs_mw "ValueError.__init__" a)) I2 (fun b o z => Heap.get?_push_of_some _ z) (Nat.le_refl _) (Heap.get?_push_size _ rfl) (fun v z => by cases z)
  have hst' := hst (NdefX.envF (nf qual params body scope cc cda) f s.heap.objs.size)
  have hrun := hpa.run p3 _ _ _ _ _ I4 hq
  refine wpAny_mono (hst' ▸ hrun) (fun xs s5 hh => ?_) (fun _ _ x => x)
  obtain ⟨ws, H5, I5, r5, hwl, ea5, qt⟩ := hh
  have hu5 := ClX.pin_at I5
  refine ⟨hu5, ?_⟩
  refine call_mw (X := NdefX.ncx CX P w K mg base N (nf qual params body scope cc cda) f A outer s H E) T.oex I5 hu5 ea5 (by show xs.length ≤ _; rw [← Paired.length r5, sizeLine_eq]; omega) fun s6 J => ?_
  refine wpAt_of_wpAny ?_
  refine wpAny_mono (hpss.run _ s6 _ _ _ J qt) (fun fl s' hs => ?_) fun e s' hs => hs
  have fin : ∀ {σ' : L2.St} {H' : Hp} {v : V} {u : Value} {pins}, Inv (NdefX.ncx CX P w K mg base N (nf qual params body scope cc cda) f A outer s H E) pins σ' H' s' → L2.RelV v u → Q v H' → CE outer P w H s Q u s' :=
    fun {σ' H' v u pins} J rv q => ⟨v, H', J.os, J.bare, J.base, J.hok, rv, q⟩
  cases fl with
  | ret u =>
    obtain ⟨v, σ', H', J, rv, q⟩ := hs
    exact fin J rv q
  | next =>
    obtain ⟨σ', H', J, q⟩ := hs
    exact fin (v := V.non) (u := Value.none) J rfl q
  | brk =>
    obtain ⟨_, _, _, q⟩ := hs
    exact False.elim q
  | cont =>
    obtain ⟨_, _, _, q⟩ := hs
    exact False.elim q
end
end SUP
/-! ## texts -/
namespace G
open PySem PySem.Spec PyProof.Rows L2 Evl TL
open PySem.StrLaws (At occBody occ_eq occ_first)
open PySem.Builtin.Str (occurrences)
/-- the text of these signs -/
def mk (l : List Nat) : Str := ⟨l.toArray⟩
theorem tl_mkS (l : List Nat) : tl (mk l) = l := rfl
theorem mk_tlS (x : Str) : mk (tl x) = x := mk_tl x
theorem mk_inj {a b : List Nat} : mk a = mk b ↔ a = b := ⟨fun h => by have := congrArg tl h; exact this, fun h => by rw [h]⟩
theorem mk_app (a b : List Nat) : mk a ++ mk b = mk (a ++ b) := ext_tl (by rw [tl_append, tl_mkS, tl_mkS, tl_mkS])
theorem mk_len (a : List Nat) : (mk a).length = a.length := by rw [len_tl, tl_mkS]
theorem mk_one (c : Nat) : (⟨#[c]⟩ : Str) = mk [c] := rfl
theorem decV_str (a b : Str) : decide (V.str a = V.str b) = decide (a = b) := by
  by_cases h : a = b
  · rw [h, decide_eq_true rfl, decide_eq_true rfl]
  · rw [decide_eq_false h, decide_eq_false fun q => h (V.str.inj q)]
theorem decV_mk (a b : List Nat) : decide (V.str (mk a) = V.str (mk b)) = decide (a = b) := by
  rw [decV_str]
  by_cases h : a = b
  · rw [h, decide_eq_true rfl, decide_eq_true rfl]
  · rw [decide_eq_false h, decide_eq_false fun q => h (mk_inj.mp q)]
theorem occ_from (x y : Str) (lo : Nat) : (occurrences x y lo x.length 1 = [] ∧ ∀ k, lo ≤ k → ¬ At x y x.length k) ∨ ∃ k r, occurrences x y lo x.length 1 = k :: r ∧ lo ≤ k ∧ At x y x.length k ∧ ∀ j, lo ≤ j → j < k → ¬ At x y x.length j := by
  rw [occ_eq]
  have hmem : ∀ k, At x y x.length k → lo ≤ k → k ∈ List.range' lo (x.length + 1 - lo) := fun k hk hl => by
    have := hk.1
    simp [List.mem_range'_1]; omega
  rcases occ_first x y x.length 1 (by decide) (List.range' lo (x.length + 1 - lo)) lo (fun i hi => by simp [List.mem_range'_1] at hi; omega) with ⟨h0, hn⟩ | ⟨pr, a, post, e, h0, ha, hn⟩
  · exact .inl ⟨by rw [h0], fun k hl hk => hn k (hmem k hk hl) hk⟩
  · have hal : lo ≤ a := by
      have : a ∈ List.range' lo (x.length + 1 - lo) := by rw [e]; simp
      simp [List.mem_range'_1] at this; omega
    refine .inr ⟨a, ((forIn (List.range' lo (x.length + 1 - lo)) ((#[] : Array Nat), lo) (occBody x y x.length 1)).run.fst.toList).tail, ?_, hal, ha, fun j hl hj hA => ?_⟩
    · generalize (forIn (List.range' lo (x.length + 1 - lo)) ((#[] : Array Nat), lo) (occBody x y x.length 1)).run.fst = arr at h0
      have h1 : arr.toList[0]? = some a := by simpa using h0
      cases hL : arr.toList with
      | nil => rw [hL] at h1; cases h1
      | cons b t => rw [hL] at h1; simp at h1; rw [h1]; rfl
    · have hm := hmem j hA hl
      rw [e] at hm
      have hs : (pr ++ a :: post).Pairwise (· < ·) := by rw [← e]; exact List.pairwise_lt_range'
      rcases List.mem_append.mp hm with z | z
      · exact hn j z hA
      · rcases List.mem_cons.mp z with z | z
        · omega
        · have := (List.pairwise_cons.mp (List.pairwise_append.mp hs).2.1).1 j z
          omega
theorem at_one {x : Str} {c k : Nat} : At x (mk [c]) x.length k ↔ (tl x)[k]? = some c := by
  rw [at_iff (by rw [tl_mkS]; simp), tl_mkS]
  unfold pre
  show (((tl x).drop k).take 1 == [c]) = true ↔ _
  rw [beq_iff_eq]
  have h0 : (tl x)[k]? = ((tl x).drop k)[0]? := by rw [List.getElem?_drop, Nat.add_zero]
  rw [h0]
  cases (tl x).drop k with
  | nil => simp
  | cons d r => simp
theorem find_hit {x : Str} {c i : Nat} {body rest : List Nat} (h : (tl x).drop i = body ++ c :: rest) (hb : c ∉ body) : Txt.find3 x (mk [c]) (i : Int) = ((i + body.length : Nat) : Int) := by
  unfold Txt.find3
  rw [show PySem.fromIndex x.length (i : Int) = i by unfold PySem.fromIndex; rw [if_neg (by omega)]; omega]
  have hat : ∀ j, (tl x)[i + j]? = (body ++ c :: rest)[j]? := fun j => by rw [← h, List.getElem?_drop]
  have hhit : At x (mk [c]) x.length (i + body.length) := at_one.mpr (by rw [hat, List.getElem?_append_right (Nat.le_refl _), Nat.sub_self]; rfl)
  rcases occ_from x (mk [c]) i with ⟨_, hn⟩ | ⟨k, r, e, hl, hA, hn⟩
  · exact absurd hhit (hn _ (by omega))
  · rw [e]
    show ((k : Nat) : Int) = _
    have h1 : ¬ i + body.length < k := fun q => hn _ (by omega) q hhit
    have h2 : ¬ k < i + body.length := fun q => by
      have := at_one.mp hA
      obtain ⟨j, rfl⟩ : ∃ j, k = i + j := ⟨k - i, by omega⟩
      rw [hat, List.getElem?_append_left (by omega)] at this
      exact hb (List.mem_of_getElem? this)
    omega
theorem find_miss {x : Str} {c i : Nat} (h : c ∉ (tl x).drop i) : Txt.find3 x (mk [c]) (i : Int) = -1 := by
  unfold Txt.find3
  rw [show PySem.fromIndex x.length (i : Int) = i by unfold PySem.fromIndex; rw [if_neg (by omega)]; omega]
  rcases occ_from x (mk [c]) i with ⟨e, _⟩ | ⟨k, r, e, hl, hA, hn⟩
  · rw [e]
  · have := at_one.mp hA
    obtain ⟨j, rfl⟩ : ∃ j, k = i + j := ⟨k - i, by omega⟩
    rw [← List.getElem?_drop] at this
    exact absurd (List.mem_of_getElem? this) h
theorem starts_at {x y : Str} {i : Nat} (hy : tl y ≠ []) : Txt.startswith3 x y (i : Int) = pre (tl y) ((tl x).drop i) := by
  unfold Txt.startswith3
  rw [show PySem.fromIndex x.length (i : Int) = i by unfold PySem.fromIndex; rw [if_neg (by omega)]; omega]
  have h := at_iff (x := x) hy i
  unfold At at h
  rw [Bool.eq_iff_iff, Bool.and_eq_true, decide_eq_true_iff]
  exact h
theorem pre_iff {S L : List Nat} : pre S L = true ↔ ∃ r, L = S ++ r := by
  unfold pre
  rw [beq_iff_eq]
  constructor
  · intro h; exact ⟨L.drop S.length, by conv => lhs; rw [← List.take_append_drop S.length L, h]⟩
  · rintro ⟨r, rfl⟩; exact List.take_left' rfl
/-- the signs of x from i to j -/
theorem cut_nat {x : Str} {i j : Nat} (hi : i ≤ j) (hj : j ≤ x.length) : cutS x (some (i : Int)) (some (j : Int)) = mk (((tl x).drop i).take (j - i)) := by
  unfold cutS
  have e1 : HT.sIx x.length 0 (some (i : Int)) = i := by rw [HT.sIx_nat]; omega
  have e2 : HT.sIx x.length x.length (some (j : Int)) = j := by rw [HT.sIx_nat]; omega
  rw [e1, e2]; rfl
section
variable {tt : TT} {te : TE} {vs : List Nat} {σ : L2.St} {H1 : Hp} {D : Addr} {Qd : Hp → Prop} {j : Nat}
theorem lcSm {z : Str} (g : Nat → V) (hn : z.length ≤ 100000) (hw : ∀ x, wipe ((wipe σ vs).set j (some x)) vs = wipe σ vs)
    (he : ∀ (i c : Nat) (H : Hp), (tl z)[i]? = some c → H = upd H1 D (.lst (((tl z).take i).map g)) → Val te ((wipe σ vs).set j (some (.str (mk [c])))) H (g c)) (q : Qd (upd H1 D (.lst ((tl z).map g)))) :
    ∃ W : Nat → Nat → Hp → Prop, (∃ m, W 0 m (upd H1 D (.lst []))) ∧ ∀ i m H, W i m H →
      ((Its z).stop i H ∧ Qd H) ∨ ((Its z).go i H ∧ ∃ Nx : Hp → Prop, (∀ H', Nx H' → ∃ m', m' < m ∧ W (i + 1) m' H') ∧ ∀ x H', (Its z).yld i H x H' → gName j x (wipe σ vs) H' fun σ2 H2 => wipe σ2 vs = wipe σ vs ∧ tYes σ2 H2 fun b H3 =>
        if b = true then te σ2 H3 fun y H4 => ∃ acc, H4 D = some (.lst acc) ∧ acc.length < sizeLine ∧ Nx (upd H4 D (.lst (acc ++ [y]))) else Nx H3) :=
  lc_it walk_str (fun i H => H = upd H1 D (.lst (((tl z).take i).map g))) (by rw [List.take_zero]; rfl) (fun _ _ _ _ => trivial)
    (fun i x H H' hi e y => by
      obtain ⟨rfl, c, hc, rfl⟩ := y
      have hc' : (tl z)[i]? = some c := by rw [← hc]; simp [tl]
      refine ⟨hw _, ?_⟩
      refine iteT (B := H' = upd H1 D (.lst (((tl z).take (i + 1)).map g))) ?_
      refine he i c H' hc' e _ ?_
      subst e
      refine ⟨_, upd_same, sz_lt ?_, ?_⟩
      · rw [List.length_map, List.length_take]; have := (List.getElem?_eq_some_iff.mp hc').1; rw [len_tl] at hn; omega
      · rw [upd_upd, List.take_add_one, hc', List.map_append]; rfl)
    (fun H e => by
      have en : z.cps.size = (tl z).length := by simp [tl]
      rw [e, en, List.take_length]; exact q)
end
end G
namespace G
open PySem PySem.Spec PyProof.Rows L2 Evl
/-! ## two lists side by side -/
def All2 {α β : Type} (R : α → β → Prop) (as : List α) (bs : List β) : Prop := as.length = bs.length ∧ ∀ (i : Nat) (a : α) (b : β), as[i]? = some a → bs[i]? = some b → R a b
theorem All2.nil {α β : Type} {R : α → β → Prop} : All2 R [] [] := ⟨rfl, fun _ _ _ h => nomatch h⟩
theorem All2.imp {α β : Type} {R S : α → β → Prop} {as : List α} {bs : List β} (h : All2 R as bs) (f : ∀ a b, R a b → S a b) : All2 S as bs := ⟨h.1, fun i a b h1 h2 => f _ _ (h.2 i a b h1 h2)⟩
theorem All2.snoc {α β : Type} {R : α → β → Prop} {as : List α} {bs : List β} {a : α} {b : β} (h : All2 R as bs) (r : R a b) : All2 R (as ++ [a]) (bs ++ [b]) := by
  refine ⟨by rw [List.length_append, List.length_append, h.1]; rfl, fun i x y h1 h2 => ?_⟩
  by_cases hi : i < as.length
  · rw [List.getElem?_append_left hi] at h1
    rw [List.getElem?_append_left (h.1 ▸ hi)] at h2
    exact h.2 i x y h1 h2
  · rw [List.getElem?_append_right (by omega)] at h1
    rw [List.getElem?_append_right (by rw [← h.1]; omega), ← h.1] at h2
    cases e : i - as.length with
    | zero =>
      rw [e] at h1 h2
      cases h1; cases h2; exact r
    | succ n => rw [e] at h1; exact nomatch h1
theorem All2.at_ {α β : Type} {R : α → β → Prop} {as : List α} {bs : List β} (h : All2 R as bs) {i : Nat} {a : α} (e : as[i]? = some a) : ∃ b, bs[i]? = some b ∧ R a b := by
  have hi : i < bs.length := by rw [← h.1]; exact (List.getElem?_eq_some_iff.mp e).1
  exact ⟨bs[i], List.getElem?_eq_getElem hi, h.2 i a _ e (List.getElem?_eq_getElem hi)⟩
theorem All2.of {α β : Type} {R : α → β → Prop} {as : List α} {bs : List β} (h : All2 R as bs) {i : Nat} {b : β} (e : bs[i]? = some b) : ∃ a, as[i]? = some a ∧ R a b := by
  have hi : i < as.length := by rw [h.1]; exact (List.getElem?_eq_some_iff.mp e).1
  exact ⟨as[i], List.getElem?_eq_getElem hi, h.2 i _ b (List.getElem?_eq_getElem hi) e⟩
theorem All2.cons {α β : Type} {R : α → β → Prop} {as : List α} {bs : List β} {a : α} {b : β} (r : R a b) (h : All2 R as bs) : All2 R (a :: as) (b :: bs) := by
  refine ⟨by rw [List.length_cons, List.length_cons, h.1], fun i x y h1 h2 => ?_⟩
  cases i with
  | zero => cases h1; cases h2; exact r
  | succ i => exact h.2 i x y h1 h2
theorem take_snoc1 {α : Type} {l : List α} {j : Nat} {x : α} (h : l[j]? = some x) : l.take (j + 1) = l.take j ++ [x] := by rw [List.take_add_one, h]; rfl
theorem refs_get {as : List Addr} {k : Nat} {x : V} (hx : (as.map V.ref)[k]? = some x) : ∃ a, as[k]? = some a ∧ x = .ref a := by
  rw [List.getElem?_map] at hx
  cases e : as[k]? with
  | none => rw [e] at hx; cases hx
  | some a => rw [e] at hx; cases hx; exact ⟨a, rfl, rfl⟩
/-! ## walks: any body -/
theorem wk_list {K : PySem.W.Frag} {a : Addr} {xs : List V} {body : (Hp → Prop) → V → Hp → Prop} {H0 : Hp} {Qd : Hp → Prop} (Pv : Nat → Hp → Prop) (h0 : Pv 0 H0) (hl : ∀ i H, i ≤ xs.length → Pv i H → SqL K H a xs)
    (hs : ∀ i x H, xs[i]? = some x → Pv i H → body (Pv (i + 1)) x H) (hd : ∀ H, Pv xs.length H → Qd H) :
    ∃ W : Nat → Nat → Hp → Prop, (∃ m, W 0 m H0) ∧ ∀ i m H, W i m H → ((Itl K a).stop i H ∧ Qd H) ∨ ((Itl K a).go i H ∧ ∃ Nx : Hp → Prop, (∀ H', Nx H' → ∃ m', m' < m ∧ W (i + 1) m' H') ∧ ∀ x H', (Itl K a).yld i H x H' → body Nx x H') := by
  refine ⟨fun i m H => m = xs.length - i ∧ i ≤ xs.length ∧ Pv i H, ⟨xs.length, by simp, Nat.zero_le _, h0⟩, ?_⟩
  rintro i m H ⟨rfl, hi, p⟩
  have q := hl i H hi p
  rcases Nat.lt_or_ge i xs.length with lt | ge
  · have e : xs[i]? = some xs[i] := List.getElem?_eq_getElem lt
    refine .inr ⟨⟨xs, xs[i], q, e⟩, Pv (i + 1), fun H' p' => ⟨xs.length - (i + 1), by omega, rfl, lt, p'⟩, fun x H' y => ?_⟩
    obtain ⟨rfl, y⟩ := y
    exact hs i x _ (y xs q) p
  · have e : i = xs.length := by omega
    subst e
    exact .inl ⟨⟨xs, q, Nat.le_refl _⟩, hd H p⟩
theorem wk_tup {K : PySem.W.Frag} {a : Addr} {xs : List V} {body : (Hp → Prop) → V → Hp → Prop} {H0 : Hp} {Qd : Hp → Prop} (Pv : Nat → Hp → Prop) (h0 : Pv 0 H0) (hl : ∀ i H, i ≤ xs.length → Pv i H → SqT K H a xs)
    (hs : ∀ i x H, xs[i]? = some x → Pv i H → body (Pv (i + 1)) x H) (hd : ∀ H, Pv xs.length H → Qd H) :
    ∃ W : Nat → Nat → Hp → Prop, (∃ m, W 0 m H0) ∧ ∀ i m H, W i m H → ((Itt K a).stop i H ∧ Qd H) ∨ ((Itt K a).go i H ∧ ∃ Nx : Hp → Prop, (∀ H', Nx H' → ∃ m', m' < m ∧ W (i + 1) m' H') ∧ ∀ x H', (Itt K a).yld i H x H' → body Nx x H') := by
  refine ⟨fun i m H => m = xs.length - i ∧ i ≤ xs.length ∧ Pv i H, ⟨xs.length, by simp, Nat.zero_le _, h0⟩, ?_⟩
  rintro i m H ⟨rfl, hi, p⟩
  have q := hl i H hi p
  rcases Nat.lt_or_ge i xs.length with lt | ge
  · have e : xs[i]? = some xs[i] := List.getElem?_eq_getElem lt
    refine .inr ⟨⟨xs, xs[i], q, e⟩, Pv (i + 1), fun H' p' => ⟨xs.length - (i + 1), by omega, rfl, lt, p'⟩, fun x H' y => ?_⟩
    obtain ⟨rfl, y⟩ := y
    exact hs i x _ (y xs q) p
  · have e : i = xs.length := by omega
    subst e
    exact .inl ⟨⟨xs, q, Nat.le_refl _⟩, hd H p⟩
theorem wk_it {J : It} {n : Nat} {Gd : Hp → Prop} {Y : Nat → Hp → V → Hp → Prop} (w : Walk J n Gd Y) {body : (Hp → Prop) → V → Hp → Prop} {H0 : Hp} {Qd : Hp → Prop} (Pv : Nat → Hp → Prop) (h0 : Pv 0 H0) (hG : ∀ i H, i ≤ n → Pv i H → Gd H)
    (hs : ∀ i x H H', i < n → Pv i H → Y i H x H' → body (Pv (i + 1)) x H') (hd : ∀ H, Pv n H → Qd H) :
    ∃ W : Nat → Nat → Hp → Prop, (∃ m, W 0 m H0) ∧ ∀ i m H, W i m H → (J.stop i H ∧ Qd H) ∨ (J.go i H ∧ ∃ Nx : Hp → Prop, (∀ H', Nx H' → ∃ m', m' < m ∧ W (i + 1) m' H') ∧ ∀ x H', J.yld i H x H' → body Nx x H') := by
  refine ⟨fun i m H => m = n - i ∧ i ≤ n ∧ Pv i H, ⟨n, by simp, Nat.zero_le _, h0⟩, ?_⟩
  rintro i m H ⟨rfl, hi, p⟩
  rcases Nat.lt_or_ge i n with lt | ge
  · exact .inr ⟨w.goes i H lt (hG i H hi p), Pv (i + 1), fun H' p' => ⟨n - (i + 1), by omega, rfl, lt, p'⟩, fun x H' y => hs i x H H' lt p (w.yields i H x H' lt (hG i H hi p) y)⟩
  · have e : i = n := by omega
    subst e
    exact .inl ⟨w.stops H (hG i H hi p), hd H p⟩
/-! ## tuples joined and cut, whatever object that is -/
theorem cat_tup {K : PySem.W.Frag} {H : Hp} {a b : Addr} {xs ys : List V} {Q : VK} (ha : H a = some (.tup xs)) (hb : H b = some (.tup ys)) (hl : xs.length + ys.length ≤ sizeLine) (q : ∀ c H', Ex H H' → H' c = some (.tup (xs ++ ys)) → Q (.ref c) H') : rCatA K (.ref a) (.ref b) H Q := by
  refine ⟨a, b, xs, ys, rfl, rfl, SqT.of ha, SqT.of hb, hl, fun e => ?_, fun _ e => ?_, fun _ _ p np => ?_⟩
  · subst e; exact q b H (Ex.refl _) hb
  · subst e; exact q a H (Ex.refl _) (by rw [List.append_nil]; exact ha)
  · exact q p _ (Ex.new np) upd_same
theorem cut_tup {K : PySem.W.Frag} {H : Hp} {a : Addr} {xs : List V} {lo hi : Option Int} {Q : VK} (ha : H a = some (.tup xs)) (q : ∀ c H', Ex H H' → H' c = some (.tup (cutV xs lo hi)) → Q (.ref c) H') : rSlA K (.ref a) lo hi H Q := by
  refine ⟨a, xs, rfl, SqT.of ha, fun e => ?_, fun _ p np => q p _ (Ex.new np) upd_same⟩
  refine q a H (Ex.refl _) ?_
  rw [ha]
  unfold cutV
  rw [e.1, e.2, List.drop_zero, Nat.sub_zero, List.take_length]
theorem cutV_head {xs : List V} {k : Nat} (h : k ≤ xs.length) : cutV xs none (some (k : Int)) = xs.take k := by
  unfold cutV
  rw [HT.sIx_none, HT.sIx_nat, List.drop_zero, Nat.sub_zero, Nat.min_eq_left h]
theorem cutV_tail {xs : List V} {k : Nat} (h : k ≤ xs.length) : cutV xs (some (k : Int)) none = xs.drop k := by
  unfold cutV
  rw [HT.sIx_none, HT.sIx_nat, Nat.min_eq_left h, List.take_of_length_le]
  rw [List.length_drop]; exact Nat.le_refl _
end G
namespace G
open PySem PySem.Spec PyProof.Rows L2 Evl
theorem tYes_in {σ : L2.St} {H : Hp} {A B : Hp → Prop} (h : A H) : tYes σ H (fun b H3 => if b = true then A H3 else B H3) := by
  show if true = true then A H else B H
  exact iteT h
def tabV (bs : List Bool) : HO := .tup (bs.map V.bl)
theorem inV_ints {k : Int} {l : List Int} : inV (.int k) (l.map V.int) = l.contains k := by
  unfold inV
  rw [List.any_map, List.contains_eq_any_beq]
  congr 1
  funext y
  show (y == k) = (k == y)
  rw [Bool.eq_iff_iff]; simp; exact eq_comm
theorem inV_bls {k : Bool} {l : List Bool} : inV (.bl k) (l.map V.bl) = l.contains k := by
  unfold inV
  rw [List.any_map, List.contains_eq_any_beq]
  congr 1
  funext y
  show (y == k) = (k == y)
  cases y <;> cases k <;> rfl
theorem flat_map {α : Type} {f : α → V} (h : ∀ x, flatV (f x) = true) (l : List α) : (l.map f).all flatV = true := by
  rw [List.all_map]
  exact List.all_eq_true.mpr fun x _ => h x
theorem tif_by {tt : TE} {σ : L2.St} {H : Hp} {Q : VK} (R : V → Hp → Prop) (h : ∀ Q' : VK, (∀ v H', R v H' → Q' v H') → tt σ H Q') (rest : ∀ v H', R v H' → Q v H') : tt σ H Q := h Q rest
theorem bl_eq (a b : Bool) : decide (V.bl a = V.bl b) = decide (a = b) := by cases a <;> cases b <;> rfl
end G
namespace G
open PySem PySem.Spec PyProof.Rows L2
def topS (i : Nat) : Stmt := PySem.Challenge.pw_signoff_k18_circuits_checked.main.body.getD i (.Pass ⟨0, 0, 0, 0⟩)
abbrev s_Looped_init : Stmt := inClass (topS 9) 0
abbrev s_check_circuit : Stmt := topS 14
abbrev s_check_nets : Stmt := topS 15
abbrev s_check_pin_range : Stmt := topS 16
abbrev s_check_reg : Stmt := topS 17
abbrev s_least_order : Stmt := topS 18
abbrev s_all_names : Stmt := topS 19
abbrev s_check_names : Stmt := topS 20
abbrev s_check_counts : Stmt := topS 21
abbrev s_check_paths : Stmt := topS 22
abbrev s_gates_read : Stmt := topS 23
abbrev s_cycle : Stmt := topS 24
abbrev s_law_pool : Stmt := topS 26
abbrev s_law_spread : Stmt := topS 27
abbrev s_law_draw : Stmt := topS 28
abbrev s_law_same : Stmt := topS 29
abbrev s_law_bits : Stmt := topS 30
abbrev s_law_table : Stmt := topS 31
abbrev s_law_register : Stmt := topS 32
abbrev s_law_shuffled : Stmt := topS 33
abbrev s_law_circuit : Stmt := topS 34
abbrev s_law_broken : Stmt := topS 35
abbrev s_law_cycle : Stmt := topS 36
abbrev s_law_told : Stmt := topS 37
abbrev s_law : Stmt := topS 38
end G
namespace G
open PySem PySem.Spec PyProof.Rows L2 Evl
structure TxtL (mg : Str → Option Value) : Prop where
  int : mg "int" = none
  len : mg "len" = none
  list : mg "list" = none
  range : mg "range" = none
section
variable {P : Program} {w : World} {K : PySem.W.Frag} {mg : Str → Option Value} {base : Heap}
def spSpread : Sp := fun vs H Q _ => ∃ (c : Int), vs = [.int c] ∧ ∀ v : Int, Q (.int v) H
theorem sc_law_spread : FnScope ["cell", "mixed", "total", "k"] ["cell"] (defScope s_law_spread) := ⟨rfl, rfl, rfl, by decide +kernel, rfl, by decide +kernel, by decide +kernel⟩
theorem ok_law_spread (D : Dfd K mg "_law_spread" s_law_spread ["cell"]) (T : TxtL mg) : Has P w K mg base 1 "_law_spread" ["cell"] spSpread := by
  refine D.has fun f fd F => F.ok sc_law_spread (fun vs H Q E h => ?_) (fun cdv A outer s H vs Q E hr h => ?_)
  · obtain ⟨c, rfl, _⟩ := h
    rfl
  · obtain ⟨c, rfl, q⟩ := h
    refine ⟨_, (pss_cons (ps_set (i := 1) sc_law_spread.nd rfl (.inl rfl) (pe_op op_mod (pe_callTy call_int1 (by rfl) T.int (by decide +kernel) (pa_cons (pv 0) pa_nil)) pe_int))
      (pss_cons (ps_set (i := 2) sc_law_spread.nd rfl (.inl rfl) pe_int)
      (pss_cons (ps_for PassesOwn.never rfl (pi_range1 rfl T.range (pa_cons pe_int pa_nil)) (pg_name (i := 3) sc_law_spread.nd rfl (.inl rfl))
        (pss_cons (ps_set (i := 1) sc_law_spread.nd rfl (.inl rfl) (pe_op op_mod (pe_callTy call_int1 (by rfl) T.int (by decide +kernel) (pa_cons (pe_op op_add (pe_op op_add (pe_op op_mul (pv 1) pe_int) pe_int) (pv 3)) pa_nil)) pe_int))
        (pss_one (ps_set (i := 2) sc_law_spread.nd rfl (.inl rfl) (pe_op op_add (pe_op op_mul (pv 2) pe_int) (pv 1))))))
      (pss_one (ps_ret (pv 2)))))), ?_⟩
    refine ⟨_, rfl, .inl ⟨_, rfl, _, _, rfl, rfl, (by show (0 : Int) < 2147483647; decide), 4, rfl, by decide, by decide, for_range (n := 4) (fun _ σ H' => H' = H ∧ ∃ (x y : Int) (z : Option V), σ = [some (.int c), some (.int x), some (.int y), z]) ⟨rfl, _, _, _, rfl⟩ ?_ ?_⟩⟩
    · rintro i σ H' hi ⟨rfl, x, y, z, rfl⟩
      refine ⟨_, rfl, _, _, rfl, rfl, .inr ⟨by decide, by decide⟩, _, _, rfl, rfl, _, rfl, _, _, rfl, rfl, .inl ⟨_, rfl, _, _, rfl, rfl, (by show (0 : Int) < 2147483647; decide), _, rfl, _, _, rfl, rfl, .inr ⟨by decide, by decide⟩, _, rfl, _, _, rfl, rfl, rfl, _, _, _, rfl⟩⟩
    · rintro σ H' ⟨rfl, x, y, z, rfl⟩
      exact ⟨_, rfl, q y⟩
/-- a draw below n -/
def spDraw : Sp := fun vs H Q _ => ∃ (p a : Addr) (n : Int), vs = [.ref p, .int n] ∧ 0 < n ∧ n.natAbs.log2 < 9000 ∧ PoolOk p a H ∧ ∀ (v : Int) (o : HO), 0 ≤ v → v < n → PoolOk p a (upd H p o) → Q (.int v) (upd H p o)
theorem sc_law_draw : FnScope ["pool", "many", "cell", "mixed", "value"] ["pool", "many"] (defScope s_law_draw) := ⟨rfl, rfl, rfl, by decide +kernel, rfl, by decide +kernel, by decide +kernel⟩
theorem ok_law_draw (D : Dfd K mg "_law_draw" s_law_draw ["pool", "many"]) (T : TxtL mg) (C : Has P w K mg base 1 "_law_spread" ["cell"] spSpread) : Has P w K mg base 2 "_law_draw" ["pool", "many"] spDraw := by
  obtain ⟨f_law_spread, d_law_spread, G_law_spread, g_law_spread, k_law_spread, b_law_spread⟩ := C
  refine D.has fun f fd F => F.ok sc_law_draw (fun vs H Q E h => ?_) (fun cdv A outer s H vs Q E hr h => ?_)
  · obtain ⟨p, a, n, rfl, _⟩ := h
    rfl
  · obtain ⟨p, a, n, rfl, n0, n9, hp, q⟩ := h
    refine ⟨_, (pss_cut (ps_if (PW.pt (pw_and (pt_cmpR op_le (pe_ix ix_list (pv 0) pe_int (fun _ _ => rfl)) pe_int (nomark _)) (pw_and1 (pt_cmpR op_lt (pe_ix ix_list (pv 0) pe_int (fun _ _ => rfl)) (pe_callB call_len_seq (by rfl) T.len (by decide +kernel) (pa_cons (pe_ix ix_list (pv 0) pe_int (fun _ _ => rfl)) pa_nil)) (nomark _)))))
      (pss_cons (ps_set (i := 2) sc_law_draw.nd rfl (.inl rfl) (pe_ix ix_list (pe_ix ix_list (pv 0) pe_int (fun _ _ => rfl)) (pe_ix ix_list (pv 0) pe_int (fun _ _ => rfl)) (fun _ _ => rfl)))
      (pss_cons (ps_asg (pe_op op_add (pe_ix ix_list (pv 0) pe_int (fun _ _ => rfl)) pe_int) (pg_sub (pv 0) pe_int set_list))
      (pss_cons (ps_asg (pv 2) (pg_sub (pv 0) pe_int set_list))
      (pss_one (ps_if (pt_cmpR op_lt (pv 2) pe_int (nomark _))
        (pss_one (ps_asg (pe_call G_law_spread hr (by rfl) g_law_spread k_law_spread b_law_spread .nil pass0 (pa_cons (pv 2) pa_nil)) (pg_sub (pv 0) pe_int set_list)))
        pss_nil)))))
      pss_nil)
    (pss_cons (ps_asg (pe_op op_add (pe_ix ix_list (pv 0) pe_int (fun _ _ => rfl)) pe_int) (pg_sub (pv 0) pe_int set_list))
    (pss_cons (ps_if (pt_cmpR op_le (pe_ix ix_list (pv 0) pe_int (fun _ _ => rfl)) pe_int (nomark _))
      (pss_cons (ps_set (i := 3) sc_law_draw.nd rfl (.inl rfl) (pe_op op_mod (pe_callTy call_int1 (by rfl) T.int (by decide +kernel) (pa_cons (pe_op op_add (pe_op op_add (pe_op op_mul (pe_ix ix_list (pv 0) pe_int (fun _ _ => rfl)) pe_int) (pe_op op_mul (pe_ix ix_list (pv 0) pe_int (fun _ _ => rfl)) pe_int)) pe_int) pa_nil)) pe_int))
      (pss_cons (ps_set (i := 3) sc_law_draw.nd rfl (.inl rfl) (pe_op op_mod (pe_callTy call_int1 (by rfl) T.int (by decide +kernel) (pa_cons (pe_op op_add (pe_op op_mul (pv 3) pe_int) (pe_ix ix_list (pv 0) pe_int (fun _ _ => rfl))) pa_nil)) pe_int))
      (pss_one (ps_ret (pe_op op_mod (pe_op op_fdiv (pv 3) pe_int) (pv 1))))))
      pss_nil)
    (pss_cons (ps_set (i := 4) sc_law_draw.nd rfl (.inl rfl) (pe_op op_mod (pe_callTy call_int1 (by rfl) T.int (by decide +kernel) (pa_cons (pe_ix ix_list (pv 0) pe_int (fun _ _ => rfl)) pa_nil)) (pv 1)))
    (pss_cons (ps_asg (pe_op op_fdivW (pe_ix ix_list (pv 0) pe_int (fun _ _ => rfl)) (pv 1)) (pg_sub (pv 0) pe_int set_list))
    (pss_one (ps_ret (pv 4)))))))), ?_⟩
    obtain ⟨ns, i, c, k, s5, hl, ha, hn⟩ := hp
    have hap : a ≠ p := hid_neq ha
    have haH := hid_get ha
    -- the pool as it stands after writes
    have pk : ∀ (i' : Nat) (c' k' s' : Int), PoolOk p a (upd H p (.lst [.ref a, .int i', .int c', .int k', .int s'])) := fun i' c' k' s' =>
      ⟨ns, i', c', k', s', upd_same, by rw [hid_upd]; exact ha, hn⟩
    refine ⟨fun σ H' => ∃ (i' : Nat) (c' k' s' : Int) (o1 : Option V), σ = [some (.ref p), some (.int n), o1, none, none] ∧ H' p = some (.lst [.ref a, .int i', .int c', .int k', .int s']) ∧ (∀ o, upd H' p o = upd H p o), ?_, ?_⟩
    · refine ⟨_, rfl, _, _, _, _, rfl, rfl, SqL.of hl, atI_nat (j := 2) rfl, _, _, rfl, rfl, _, rfl, ite2 (fun e1 => ?_) (fun e1 => ?_)⟩
      · refine ⟨_, rfl, _, _, _, _, rfl, rfl, SqL.of hl, atI_nat (j := 1) rfl, _, rfl, _, _, _, _, rfl, rfl, SqL.of hl, atI_nat (j := 0) rfl, _, _, rfl, .inl (SqL.of haH), _, _, rfl, rfl, _, rfl, ite2 (fun e2 => ?_) (fun e2 => ?_)⟩
        · have hi : i < (ns.map V.int).length := by have := of_decide_eq_true e2; omega
          have hi' : i < ns.length := by rw [List.length_map] at hi; exact hi
          have gi : (ns.map V.int)[i]? = some (.int ns[i]) := by rw [List.getElem?_map, List.getElem?_eq_getElem hi']; rfl
          refine ⟨_, rfl, _, _, _, _, rfl, rfl, SqL.of hl, atI_nat (j := 0) rfl, _, rfl, _, _, _, _, rfl, rfl, SqL.of hl, atI_nat (j := 1) rfl, _, _, _, _, rfl, rfl, SqL.of haH, atI_nat gi, ?_⟩
          refine ⟨_, rfl, _, _, _, _, rfl, rfl, SqL.of hl, atI_nat (j := 1) rfl, _, _, rfl, rfl, _, rfl, _, _, _, 1, rfl, rfl, hl, rfl, ?_⟩
          refine ⟨_, rfl, _, rfl, _, _, _, 2, rfl, rfl, upd_same, rfl, ?_⟩
          refine ⟨_, rfl, _, _, rfl, rfl, _, rfl, ite2 (fun e3 => ?_) (fun e3 => ?_)⟩
          · refine ⟨_, rfl, _, rfl, fun v => ⟨_, rfl, _, _, _, 2, rfl, rfl, upd_same, rfl, ?_⟩⟩
            exact ⟨i + 1, v, k, s5, _, rfl, upd_same, fun o => by rw [upd_upd, upd_upd, upd_upd]⟩
          · exact ⟨i + 1, ns[i], k, s5, _, rfl, upd_same, fun o => by rw [upd_upd, upd_upd]⟩
        · exact ⟨i, c, k, s5, _, rfl, hl, fun _ => rfl⟩
      · exact iteF ⟨i, c, k, s5, _, rfl, hl, fun _ => rfl⟩
    · rintro σ H' ⟨i, c, k, s5, o1, rfl, hl', hu⟩
      refine ⟨_, rfl, _, _, _, _, rfl, rfl, SqL.of hl', atI_nat (j := 3) rfl, _, _, rfl, rfl, _, rfl, _, _, _, 3, rfl, rfl, hl', rfl, ?_⟩
      refine ⟨_, rfl, _, _, _, _, rfl, rfl, SqL.of upd_same, atI_nat (j := 2) rfl, _, _, rfl, rfl, _, rfl, ite2 (fun e1 => ?_) (fun e1 => ?_)⟩
      · refine ⟨_, rfl, _, _, _, _, rfl, rfl, SqL.of upd_same, atI_nat (j := 4) rfl, _, _, rfl, rfl, .inr ⟨by decide, by decide⟩, _, rfl, _, _, _, _, rfl, rfl, SqL.of upd_same, atI_nat (j := 3) rfl, _, _, rfl, rfl, .inr ⟨by decide, by decide⟩, _, _, rfl, rfl, _, _, rfl, rfl, .inl ⟨_, rfl, _, _, rfl, rfl, (by show (0 : Int) < 2147483647; decide), ?_⟩⟩
        refine ⟨_, rfl, _, _, rfl, rfl, .inr ⟨by decide, by decide⟩, _, rfl, _, _, _, _, rfl, rfl, SqL.of upd_same, atI_nat (j := 3) rfl, _, _, rfl, rfl, .inl ⟨_, rfl, _, _, rfl, rfl, (by show (0 : Int) < 2147483629; decide), ?_⟩⟩
        refine ⟨_, rfl, _, _, rfl, rfl, ⟨by decide, by decide⟩, _, rfl, _, _, rfl, rfl, n0, ?_⟩
        show Q _ _
        rw [hu]
        exact q _ _ (Int.emod_nonneg _ (by omega)) (Int.emod_lt_of_pos _ n0) (pk i c (k + 1) s5)
      · refine ⟨_, rfl, _, _, _, _, rfl, rfl, SqL.of upd_same, atI_nat (j := 2) rfl, .inl ⟨_, rfl, _, rfl, _, _, rfl, rfl, n0, ?_⟩⟩
        refine ⟨_, rfl, _, _, _, _, rfl, rfl, SqL.of upd_same, atI_nat (j := 2) rfl, _, rfl, _, _, rfl, rfl, ⟨n0, n9⟩, _, rfl, _, _, _, 2, rfl, rfl, upd_same, rfl, _, rfl, ?_⟩
        show Q _ _
        rw [upd_upd, hu]
        exact q _ _ (Int.emod_nonneg _ (by omega)) (Int.emod_lt_of_pos _ n0) (pk i (c / n) (k + 1) s5)
/-- the same, the heap behind it a letter -/
def spDrawX : Sp := fun vs H Q _ => ∃ (p a : Addr) (n : Int), vs = [.ref p, .int n] ∧ 0 < n ∧ n ≤ 2 ^ 70 ∧ PoolOk p a H ∧ ∀ (v : Nat) (H' : Hp), (v : Int) < n → Px p a H H' → (∀ b, b ≠ p → H' b = H b) → Q (.int v) H'
theorem log2_small {n : Int} (h0 : 0 < n) (h : n ≤ 2 ^ 70) : n.natAbs.log2 < 9000 := by
  have h1 : n.natAbs < 2 ^ 71 := by omega
  have := PySem.Flt.log2_lt_of (by decide : 0 < 71) h1
  omega
theorem drawX (C : Has P w K mg base 2 "_law_draw" ["pool", "many"] spDraw) : Has P w K mg base 2 "_law_draw" ["pool", "many"] spDrawX :=
  C.imp fun vs H Q E h => by
    obtain ⟨p, a, n, rfl, h0, h1, hp, q⟩ := h
    refine ⟨p, a, n, rfl, h0, log2_small h0 h1, hp, fun v o v0 v1 hq => ?_⟩
    have e : v = ((v.toNat : Nat) : Int) := by omega
    rw [e]
    exact q v.toNat _ (by omega) (Px.draw hp hq) fun b hb => upd_ne hb
end
end G
namespace G
open PySem PySem.Spec PyProof.Rows L2 Evl
/-! ## data -/
inductive D where
  | non | bl (b : Bool) | int (i : Int) | str (s : Str) | tup (l : List D) | lst (l : List D)
def okD : Nat → D → Prop
  | 0, .tup _ => False
  | 0, .lst _ => False
  | n + 1, .tup l => l.length < 2 ^ 61 ∧ ∀ d ∈ l, okD n d
  | n + 1, .lst l => l.length < 2 ^ 61 ∧ ∀ d ∈ l, okD n d
  | _, _ => True
inductive Rep (H : Hp) : V → D → Prop where
  | non : Rep H .non .non
  | bl (b : Bool) : Rep H (.bl b) (.bl b)
  | int (i : Int) : Rep H (.int i) (.int i)
  | str (s : Str) : Rep H (.str s) (.str s)
  | tup {a : Addr} {xs : List V} {ds : List D} (h : H a = some (.tup xs)) (hl : xs.length = ds.length) (hr : ∀ (i : Nat) (x : V) (d : D), xs[i]? = some x → ds[i]? = some d → Rep H x d) : Rep H (.ref a) (.tup ds)
  | lst {a : Addr} {xs : List V} {ds : List D} (h : H a = some (.lst xs)) (hl : xs.length = ds.length) (hr : ∀ (i : Nat) (x : V) (d : D), xs[i]? = some x → ds[i]? = some d → Rep H x d) : Rep H (.ref a) (.lst ds)
theorem Rep.ex {H H' : Hp} (e : Ex H H') {x : V} {d : D} (r : Rep H x d) : Rep H' x d := by
  induction r with
  | non => exact .non
  | bl b => exact .bl b
  | int i => exact .int i
  | str s => exact .str s
  | tup h hl _ ih => exact .tup (e _ _ h) hl ih
  | lst h hl _ ih => exact .lst (e _ _ h) hl ih
theorem okD.mono : ∀ {n m : Nat} {d : D}, n ≤ m → okD n d → okD m d
  | 0, 0, d, _, h => h
  | 0, m + 1, .non, _, _ => trivial
  | 0, m + 1, .bl _, _, _ => trivial
  | 0, m + 1, .int _, _, _ => trivial
  | 0, m + 1, .str _, _, _ => trivial
  | 0, m + 1, .tup _, _, h => h.elim
  | 0, m + 1, .lst _, _, h => h.elim
  | n + 1, m + 1, .non, _, _ => trivial
  | n + 1, m + 1, .bl _, _, _ => trivial
  | n + 1, m + 1, .int _, _, _ => trivial
  | n + 1, m + 1, .str _, _, _ => trivial
  | n + 1, m + 1, .tup l, le, h => ⟨h.1, fun d hd => okD.mono (Nat.le_of_succ_le_succ le) (h.2 d hd)⟩
  | n + 1, m + 1, .lst l, le, h => ⟨h.1, fun d hd => okD.mono (Nat.le_of_succ_le_succ le) (h.2 d hd)⟩
structure TxtS (mg : Str → Option Value) : Prop where
  isinstance : mg "isinstance" = none
  tuple : mg "tuple" = none
  list : mg "list" = none
  len : mg "len" = none
  range : mg "range" = none
  bool : mg "bool" = none
  int : mg "int" = none
  str : mg "str" = none
section
variable {P : Program} {w : World} {K : PySem.W.Frag} {mg : Str → Option Value} {base : Heap}
/-- equal data: the answer is True -/
def spSame : Nat → Sp
  | 0 => fun _ _ _ _ => False
  | n + 1 => fun vs H Q _ => ∃ (x y : V) (d : D), vs = [x, y] ∧ Rep H x d ∧ Rep H y d ∧ okD n d ∧ Q (.bl true) H
theorem sc_law_same : FnScope ["actual", "due", "k"] ["actual", "due"] (defScope s_law_same) := ⟨rfl, rfl, rfl, by decide +kernel, rfl, by decide +kernel, by decide +kernel⟩
theorem fn_law_same {f : Addr} {fd : FuncData} (F : Fun K "_law_same" "_law_same" s_law_same f fd) (g_law_same : mg "_law_same" = some (.ref f)) (b_law_same : Binds K fd ["actual", "due"] []) (T : TxtS mg) : ∀ n, FnOk P w K mg base CX0 n f fd ["actual", "due"] (spSame n)
  | 0 => ⟨fun _ _ _ _ h => h.elim, fun _ _ _ _ _ _ _ _ _ _ _ _ _ h => h.elim⟩
  | n + 1 => by
    have G_law_same := fn_law_same F g_law_same b_law_same T n
    have k_law_same := F.kp
    refine F.ok sc_law_same (fun vs H Q E h => ?_) (fun cdv A outer s H vs Q E hr h => ?_)
    · obtain ⟨x, y, d, rfl, _⟩ := h
      rfl
    · obtain ⟨x, y, d, rfl, rx, ry, hd, q⟩ := h
      refine ⟨_, (pss_cons (ps_if (PW.pt (pw_or (pt_val (pe_callB call_isi (by rfl) T.isinstance (by decide +kernel) (pa_cons (pv 1) (pa_cons (pe_bltn (v := .ty "tuple") (by rfl) T.tuple (by decide +kernel) rfl) pa_nil)))) (pw_or1 (pt_val (pe_callB call_isi (by rfl) T.isinstance (by decide +kernel) (pa_cons (pv 1) (pa_cons (pe_bltn (v := .ty "list") (by rfl) T.list (by decide +kernel) rfl) pa_nil)))))))
      (pss_cons (ps_if (PW.pt (pw_or (pt_cmpR op_ne (pe_callB call_isi (by rfl) T.isinstance (by decide +kernel) (pa_cons (pv 1) (pa_cons (pe_bltn (v := .ty "tuple") (by rfl) T.tuple (by decide +kernel) rfl) pa_nil))) (pe_callB call_isi (by rfl) T.isinstance (by decide +kernel) (pa_cons (pv 0) (pa_cons (pe_bltn (v := .ty "tuple") (by rfl) T.tuple (by decide +kernel) rfl) pa_nil))) (nomark _)) (pw_or1 (pt_cmpR op_ne (pe_callB call_isi (by rfl) T.isinstance (by decide +kernel) (pa_cons (pv 1) (pa_cons (pe_bltn (v := .ty "list") (by rfl) T.list (by decide +kernel) rfl) pa_nil))) (pe_callB call_isi (by rfl) T.isinstance (by decide +kernel) (pa_cons (pv 0) (pa_cons (pe_bltn (v := .ty "list") (by rfl) T.list (by decide +kernel) rfl) pa_nil))) (nomark _)))))
        (pss_one (ps_ret pe_bl))
        pss_nil)
      (pss_cons (ps_if (pt_cmpR op_ne (pe_callB call_len_seq (by rfl) T.len (by decide +kernel) (pa_cons (pv 0) pa_nil)) (pe_callB call_len_seq (by rfl) T.len (by decide +kernel) (pa_cons (pv 1) pa_nil)) (nomark _))
        (pss_one (ps_ret pe_bl))
        pss_nil)
      (pss_cons (ps_for PassesOwn.never rfl (pi_range1 rfl T.range (pa_cons (pe_callB call_len_seq (by rfl) T.len (by decide +kernel) (pa_cons (pv 1) pa_nil)) pa_nil)) (pg_name (i := 2) sc_law_same.nd rfl (.inl rfl))
        (pss_one (ps_if (pt_not (pt_val (pe_call G_law_same hr (by rfl) g_law_same k_law_same b_law_same .nil pass0 (pa_cons (pe_ix ix_seq (pv 0) (pv 2) (fun _ _ => rfl)) (pa_cons (pe_ix ix_seq (pv 1) (pv 2) (fun _ _ => rfl)) pa_nil)))))
          (pss_one (ps_ret pe_bl))
          pss_nil)))
      (pss_one (ps_ret pe_bl)))))
      pss_nil)
    (pss_cons (ps_if (pt_cmpR op_isN (pv 1) pe_non (nomark _))
      (pss_one (ps_ret (pe_cmpR op_isN (pv 0) pe_non (nomark _))))
      pss_nil)
    (pss_cons (ps_if (pt_val (pe_callB call_isi (by rfl) T.isinstance (by decide +kernel) (pa_cons (pv 1) (pa_cons (pe_bltn (v := .ty "bool") (by rfl) T.bool (by decide +kernel) rfl) pa_nil))))
      (pss_one (ps_ret (pe_and (pe_callB call_isi (by rfl) T.isinstance (by decide +kernel) (pa_cons (pv 0) (pa_cons (pe_bltn (v := .ty "bool") (by rfl) T.bool (by decide +kernel) rfl) pa_nil))) (pe_one (pe_cmpR op_eq (pv 0) (pv 1) (nomark _))))))
      pss_nil)
    (pss_cons (ps_if (pt_val (pe_callB call_isi (by rfl) T.isinstance (by decide +kernel) (pa_cons (pv 1) (pa_cons (pe_bltn (v := .ty "int") (by rfl) T.int (by decide +kernel) rfl) pa_nil))))
      (pss_one (ps_ret (pe_and (pe_callB call_isi (by rfl) T.isinstance (by decide +kernel) (pa_cons (pv 0) (pa_cons (pe_bltn (v := .ty "int") (by rfl) T.int (by decide +kernel) rfl) pa_nil))) (pe_and (pe_not (pe_callB call_isi (by rfl) T.isinstance (by decide +kernel) (pa_cons (pv 0) (pa_cons (pe_bltn (v := .ty "bool") (by rfl) T.bool (by decide +kernel) rfl) pa_nil)))) (pe_one (pe_cmpR op_eq (pv 0) (pv 1) (nomark _)))))))
      pss_nil)
    (pss_one (ps_ret (pe_and (pe_callB call_isi (by rfl) T.isinstance (by decide +kernel) (pa_cons (pv 0) (pa_cons (pe_bltn (v := .ty "str") (by rfl) T.str (by decide +kernel) rfl) pa_nil))) (pe_one (pe_cmpR op_eq (pv 0) (pv 1) (nomark _)))))))))), ?_⟩
      cases rx with
      | non =>
        cases ry
        refine ⟨_, rfl, _, _, _, _, _, rfl, .ty "tuple", .base .non, kit_ty (a := "NoneType") (r := false) (by decide +kernel), _, rfl, iteF ⟨_, rfl, _, _, _, _, _, rfl, .ty "list", .base .non, kit_ty (a := "NoneType") (r := false) (by decide +kernel), _, rfl, iteF ⟨_, rfl, rfl, _, rfl, iteT ⟨_, rfl, rfl, ?_⟩⟩⟩⟩
        exact q
      | bl b =>
        cases ry
        refine ⟨_, rfl, _, _, _, _, _, rfl, .ty "tuple", .base (.bl _), kit_ty (a := "bool") (r := false) (by decide +kernel), _, rfl, iteF ⟨_, rfl, _, _, _, _, _, rfl, .ty "list", .base (.bl _), kit_ty (a := "bool") (r := false) (by decide +kernel), _, rfl, iteF ⟨_, rfl, rfl, _, rfl, iteF ⟨_, rfl, _, _, _, _, _, rfl, .ty "bool", .base (.bl _), kit_ty (a := "bool") (r := true) (by decide +kernel), _, rfl, iteT ⟨_, rfl, _, _, _, _, _, rfl, .ty "bool", .base (.bl _), kit_ty (a := "bool") (r := true) (by decide +kernel), _, rfl, iteT ⟨_, rfl, _, rfl, rfl, ?_⟩⟩⟩⟩⟩⟩
        rw [decide_eq_true rfl]
        exact q
      | int b =>
        cases ry
        refine ⟨_, rfl, _, _, _, _, _, rfl, .ty "tuple", .base (.int _), kit_ty (a := "int") (r := false) (by decide +kernel), _, rfl, iteF ⟨_, rfl, _, _, _, _, _, rfl, .ty "list", .base (.int _), kit_ty (a := "int") (r := false) (by decide +kernel), _, rfl, iteF ⟨_, rfl, rfl, _, rfl, iteF ⟨_, rfl, _, _, _, _, _, rfl, .ty "bool", .base (.int _), kit_ty (a := "int") (r := false) (by decide +kernel), _, rfl, iteF ⟨_, rfl, _, _, _, _, _, rfl, .ty "int", .base (.int _), kit_ty (a := "int") (r := true) (by decide +kernel), _, rfl, iteT ⟨_, rfl, _, _, _, _, _, rfl, .ty "int", .base (.int _), kit_ty (a := "int") (r := true) (by decide +kernel), _, rfl, iteT ⟨_, rfl, _, _, _, _, _, rfl, .ty "bool", .base (.int _), kit_ty (a := "int") (r := false) (by decide +kernel), _, rfl, _, rfl, iteT ⟨_, rfl, _, rfl, rfl, ?_⟩⟩⟩⟩⟩⟩⟩⟩
        rw [decide_eq_true rfl]
        exact q
      | str b =>
        cases ry
        refine ⟨_, rfl, _, _, _, _, _, rfl, .ty "tuple", .base (.str _), kit_ty (a := "str") (r := false) (by decide +kernel), _, rfl, iteF ⟨_, rfl, _, _, _, _, _, rfl, .ty "list", .base (.str _), kit_ty (a := "str") (r := false) (by decide +kernel), _, rfl, iteF ⟨_, rfl, rfl, _, rfl, iteF ⟨_, rfl, _, _, _, _, _, rfl, .ty "bool", .base (.str _), kit_ty (a := "str") (r := false) (by decide +kernel), _, rfl, iteF ⟨_, rfl, _, _, _, _, _, rfl, .ty "int", .base (.str _), kit_ty (a := "str") (r := false) (by decide +kernel), _, rfl, iteF ⟨_, rfl, _, _, _, _, _, rfl, .ty "str", .base (.str _), kit_ty (a := "str") (r := true) (by decide +kernel), _, rfl, iteT ⟨_, rfl, _, rfl, rfl, ?_⟩⟩⟩⟩⟩⟩⟩
        rw [decide_eq_true rfl]
        exact q
      | @tup a xs ds hx lx rx =>
        cases ry with
        | @tup b ys _ hy ly ry =>
          cases n with
          | zero => exact hd.elim
          | succ m =>
            obtain ⟨hlen, hall⟩ := hd
            refine ⟨_, rfl, _, _, _, _, _, rfl, .ty "tuple", .base (.tup hy), kit_ty (a := "tuple") (r := true) (by decide +kernel), _, rfl, iteT (iteT ⟨_, rfl, _, _, _, _, _, rfl, .ty "tuple", .base (.tup hy), kit_ty (a := "tuple") (r := true) (by decide +kernel), _, rfl, _, _, _, _, _, rfl, .ty "tuple", .base (.tup hx), kit_ty (a := "tuple") (r := true) (by decide +kernel), rfl, _, rfl, iteF ⟨_, rfl, _, _, _, _, _, rfl, .ty "list", .base (.tup hy), kit_ty (a := "tuple") (r := false) (by decide +kernel), _, rfl, _, _, _, _, _, rfl, .ty "list", .base (.tup hx), kit_ty (a := "tuple") (r := false) (by decide +kernel), rfl, _, rfl, iteF ⟨_, rfl, _, _, rfl, .inr (SqT.of hx), _, rfl, _, _, rfl, .inr (SqT.of hy), rfl, _, rfl, ?_⟩⟩⟩)⟩
            have el : decide (V.int (xs.length : Int) = V.int (ys.length : Int)) = true := decide_eq_true (by rw [lx, ly])
            rw [el]
            refine ⟨_, rfl, _, _, rfl, .inr (SqT.of hy), _, rfl, by omega, by omega, for_range (n := (ys.length : Int).toNat) (fun _ σ H' => H' = H ∧ ∃ z : Option V, σ = [some (.ref a), some (.ref b), z]) ⟨rfl, _, rfl⟩ ?_ ?_⟩
            · rintro i σ H' hi ⟨rfl, z, rfl⟩
              have hi' : i < ds.length := by omega
              have e0 : (0 : Int) + (i : Int) = (i : Int) := Int.zero_add _
              have g1 : xs[i]? = some xs[i] := List.getElem?_eq_getElem (by omega)
              have g2 : ys[i]? = some ys[i] := List.getElem?_eq_getElem (by omega)
              have g3 : ds[i]? = some ds[i] := List.getElem?_eq_getElem hi'
              rw [e0]
              refine ⟨_, rfl, _, rfl, .inr (.inl ⟨_, _, _, _, rfl, rfl, SqT.of hx, atI_nat g1, _, rfl, _, rfl, .inr (.inl ⟨_, _, _, _, rfl, rfl, SqT.of hy, atI_nat g2, ?_⟩)⟩)⟩
              exact ⟨_, _, ds[i], rfl, rx i _ _ g1 g3, ry i _ _ g2 g3, hall _ (List.getElem_mem hi'), _, rfl, rfl, _, rfl⟩
            · rintro σ H' ⟨rfl, z, rfl⟩
              exact q
      | @lst a xs ds hx lx rx =>
        cases ry with
        | @lst b ys _ hy ly ry =>
          cases n with
          | zero => exact hd.elim
          | succ m =>
            obtain ⟨hlen, hall⟩ := hd
            refine ⟨_, rfl, _, _, _, _, _, rfl, .ty "tuple", .base (.lst hy), kit_ty (a := "list") (r := false) (by decide +kernel), _, rfl, iteF ⟨_, rfl, _, _, _, _, _, rfl, .ty "list", .base (.lst hy), kit_ty (a := "list") (r := true) (by decide +kernel), _, rfl, iteT ⟨_, rfl, _, _, _, _, _, rfl, .ty "tuple", .base (.lst hy), kit_ty (a := "list") (r := false) (by decide +kernel), _, rfl, _, _, _, _, _, rfl, .ty "tuple", .base (.lst hx), kit_ty (a := "list") (r := false) (by decide +kernel), rfl, _, rfl, iteF ⟨_, rfl, _, _, _, _, _, rfl, .ty "list", .base (.lst hy), kit_ty (a := "list") (r := true) (by decide +kernel), _, rfl, _, _, _, _, _, rfl, .ty "list", .base (.lst hx), kit_ty (a := "list") (r := true) (by decide +kernel), rfl, _, rfl, iteF ⟨_, rfl, _, _, rfl, .inl (SqL.of hx), _, rfl, _, _, rfl, .inl (SqL.of hy), rfl, _, rfl, ?_⟩⟩⟩⟩⟩
            have el : decide (V.int (xs.length : Int) = V.int (ys.length : Int)) = true := decide_eq_true (by rw [lx, ly])
            rw [el]
            refine ⟨_, rfl, _, _, rfl, .inl (SqL.of hy), _, rfl, by omega, by omega, for_range (n := (ys.length : Int).toNat) (fun _ σ H' => H' = H ∧ ∃ z : Option V, σ = [some (.ref a), some (.ref b), z]) ⟨rfl, _, rfl⟩ ?_ ?_⟩
            · rintro i σ H' hi ⟨rfl, z, rfl⟩
              have hi' : i < ds.length := by omega
              have e0 : (0 : Int) + (i : Int) = (i : Int) := Int.zero_add _
              have g1 : xs[i]? = some xs[i] := List.getElem?_eq_getElem (by omega)
              have g2 : ys[i]? = some ys[i] := List.getElem?_eq_getElem (by omega)
              have g3 : ds[i]? = some ds[i] := List.getElem?_eq_getElem hi'
              rw [e0]
              refine ⟨_, rfl, _, rfl, .inl ⟨_, _, _, _, rfl, rfl, SqL.of hx, atI_nat g1, _, rfl, _, rfl, .inl ⟨_, _, _, _, rfl, rfl, SqL.of hy, atI_nat g2, ?_⟩⟩⟩
              exact ⟨_, _, ds[i], rfl, rx i _ _ g1 g3, ry i _ _ g2 g3, hall _ (List.getElem_mem hi'), _, rfl, rfl, _, rfl⟩
            · rintro σ H' ⟨rfl, z, rfl⟩
              exact q
theorem ok_law_same (D : Dfd K mg "_law_same" s_law_same ["actual", "due"]) (T : TxtS mg) (n : Nat) : Has P w K mg base n "_law_same" ["actual", "due"] (spSame n) := by
  obtain ⟨f, fd, F, g, b⟩ := D
  exact ⟨f, fd, fn_law_same F g b T n, g, F.kp, b⟩
end
/-! ## data made of flat lists -/
theorem rep_map {H : Hp} {α : Type} {f : α → V} {g : α → D} {l : List α} (h : ∀ x, Rep H (f x) (g x)) : (l.map f).length = (l.map g).length ∧ ∀ (i : Nat) (x : V) (d : D), (l.map f)[i]? = some x → (l.map g)[i]? = some d → Rep H x d := by
  refine ⟨by rw [List.length_map, List.length_map], fun i x d hx hd => ?_⟩
  rw [List.getElem?_map] at hx hd
  cases e : l[i]? with
  | none => rw [e] at hx; cases hx
  | some y =>
    rw [e] at hx hd
    have e1 : f y = x := Option.some.inj hx
    have e2 : g y = d := Option.some.inj hd
    rw [← e1, ← e2]
    exact h y
theorem rep_ints {H : Hp} {a : Addr} {l : List Int} (h : H a = some (.lst (l.map V.int))) : Rep H (.ref a) (.lst (l.map D.int)) :=
  let r := rep_map (H := H) (f := V.int) (g := D.int) (l := l) fun i => .int i
  .lst h r.1 r.2
theorem rep_bls {H : Hp} {a : Addr} {l : List Bool} (h : H a = some (.tup (l.map V.bl))) : Rep H (.ref a) (.tup (l.map D.bl)) :=
  let r := rep_map (H := H) (f := V.bl) (g := D.bl) (l := l) fun i => .bl i
  .tup h r.1 r.2
theorem okD_ints {l : List Int} (h : l.length < 2 ^ 61) : okD 1 (.lst (l.map D.int)) := ⟨by rw [List.length_map]; exact h, fun d hd => by obtain ⟨_, _, rfl⟩ := List.mem_map.mp hd; trivial⟩
end G
namespace G
open PySem PySem.Spec PyProof.Rows L2 Evl
section
variable {P : Program} {w : World} {K : PySem.W.Frag} {mg : Str → Option Value} {base : Heap}
theorem cutV_mem {xs : List V} {lo hi : Option Int} {i : Nat} {x : V} (h : (cutV xs lo hi)[i]? = some x) : x ∈ xs := by
  unfold cutV at h
  exact List.mem_of_mem_drop (List.mem_of_mem_take (List.mem_of_getElem? h))
theorem int_of {ns : List Int} {x : V} (h : x ∈ ns.map V.int) : ∃ z, x = .int z := by
  obtain ⟨z, _, e⟩ := List.mem_map.mp h
  exact ⟨z, e.symm⟩
def spPool (K : PySem.W.Frag) : Sp := fun vs H Q _ => ∃ (s : Addr) (ns : List Int), vs = [.ref s] ∧ SqL K H s (ns.map V.int) ∧ ns.length ≤ 1000 ∧ ∀ (p a : Addr) (H' : Hp), PoolOk p a H' → Ex H H' → H p = none → Q (.ref p) H'
theorem sc_law_pool : FnScope ["script", "salt", "cell"] ["script"] (defScope s_law_pool) := ⟨rfl, rfl, rfl, by decide +kernel, rfl, by decide +kernel, by decide +kernel⟩
theorem ok_law_pool (D : Dfd K mg "_law_pool" s_law_pool ["script"]) (T : TxtL mg) : Has P w K mg base 1 "_law_pool" ["script"] (spPool K) := by
  refine D.has fun f fd F => F.ok sc_law_pool (fun vs H Q E h => ?_) (fun cdv A outer s H vs Q E hr h => ?_)
  · obtain ⟨c, _, rfl, _⟩ := h
    rfl
  · obtain ⟨sa, ns, rfl, hs, hn, q⟩ := h
    refine ⟨_, (pss_cons (ps_set (i := 1) sc_law_pool.nd rfl (.inl rfl) pe_int)
      (pss_cons (ps_for PassesOwn.never rfl (pi_list (pe_slice sl_list (pv 0) po_none (po_some pe_int))) (pg_name (i := 2) sc_law_pool.nd rfl (.inl rfl))
        (pss_one (ps_set (i := 1) sc_law_pool.nd rfl (.inl rfl) (pe_op op_mod (pe_callTy call_int1 (by rfl) T.int (by decide +kernel) (pa_cons (pe_op op_add (pe_op op_mul (pv 1) pe_int) (pv 2)) pa_nil)) pe_int))))
      (pss_one (ps_ret (pe_lst (pa_cons (pe_callTy call_list_of (by rfl) T.list (by decide +kernel) (pa_cons (pv 0) pa_nil)) (pa_cons pe_int (pa_cons pe_int (pa_cons pe_int (pa_cons (pv 1) pa_nil)))))))))), ?_⟩
    refine ⟨_, rfl, _, rfl, sa, _, rfl, hs, fun c nc => ⟨c, rfl, ⟨_, SqL.of upd_same⟩, for_list (K := K) (a := c) (xs := cutV (ns.map V.int) none (some 63)) (fun _ σ H' => H' = upd H c (.lst (cutV (ns.map V.int) none (some 63))) ∧ ∃ (x : Int) (z : Option V), σ = [some (.ref sa), some (.int x), z]) ⟨rfl, _, _, rfl⟩ ?_ ?_ ?_⟩⟩
    · rintro i σ H' _ ⟨rfl, _⟩
      exact SqL.of upd_same
    · rintro i x σ H' hi ⟨rfl, y, z, rfl⟩
      obtain ⟨m, rfl⟩ := int_of (cutV_mem hi)
      exact ⟨_, rfl, _, _, rfl, rfl, .inr ⟨by decide, by decide⟩, _, rfl, _, _, rfl, rfl, .inl ⟨_, rfl, _, _, rfl, rfl, (by show (0 : Int) < 1000003; decide), rfl, _, _, rfl⟩⟩
    · rintro σ H' ⟨rfl, y, z, rfl⟩
      have e1 : Ex H (upd H c (.lst (cutV (ns.map V.int) none (some 63)))) := Ex.new nc
      refine ⟨_, rfl, _, _, rfl, .inl (ex_l e1 hs), fun l nl => ⟨_, rfl, (by show 5 ≤ sizeLine; decide), fun p np => ?_⟩⟩
      have e2 := e1.trans (Ex.new (o := .lst (ns.map V.int)) nl)
      have npl : l ≠ p := ne_of_none upd_same np
      exact q p l _ ⟨ns, 0, 0, 0, y, upd_same, by rw [hid_ne npl, upd_ne npl]; exact upd_same, hn⟩ (e2.trans (Ex.new np)) (fresh_back e2 np)
end
end G
namespace G
open PySem PySem.Spec PyProof.Rows L2 Evl
def bitsOf (x m : Nat) : List Bool := (List.range m).map fun k => x.testBit k
theorem bitsOf_len (x m : Nat) : (bitsOf x m).length = m := by unfold bitsOf; rw [List.length_map, List.length_range]
theorem bitsOf_succ (x m : Nat) : bitsOf x (m + 1) = bitsOf x m ++ [x.testBit m] := by unfold bitsOf; rw [List.range_succ, List.map_append]; rfl
theorem bit_at (x i : Nat) : decide (V.int (((x / 2 ^ i : Nat) : Int) % 2) = V.int 1) = x.testBit i := by
  rw [Nat.testBit_eq_decide_div_mod_eq, Bool.eq_iff_iff, decide_eq_true_iff, decide_eq_true_iff, V.int.injEq]
  omega
theorem half_at (x i : Nat) : ((x / 2 ^ i : Nat) : Int) / 2 = ((x / 2 ^ (i + 1) : Nat) : Int) := by
  rw [Nat.pow_succ, ← Nat.div_div_eq_div_mul]
  omega
section
variable {P : Program} {w : World} {K : PySem.W.Frag} {mg : Str → Option Value} {base : Heap}
def spBits : Sp := fun vs H Q _ => ∃ (x m : Nat), vs = [.int x, .int m] ∧ m ≤ 1000 ∧ ∀ (t : Addr) (H' : Hp), H t = none → Ex H H' → H' t = some (.tup ((bitsOf x m).map V.bl)) → Q (.ref t) H'
theorem sc_law_bits : FnScope ["index", "many", "out", "k"] ["index", "many"] (defScope s_law_bits) := ⟨rfl, rfl, rfl, by decide +kernel, rfl, by decide +kernel, by decide +kernel⟩
theorem ok_law_bits (D : Dfd K mg "_law_bits" s_law_bits ["index", "many"]) (T : TxtS mg) : Has P w K mg base 1 "_law_bits" ["index", "many"] spBits := by
  refine D.has fun f fd F => F.ok sc_law_bits (fun vs H Q E h => ?_) (fun cdv A outer s H vs Q E hr h => ?_)
  · obtain ⟨c, _, rfl, _⟩ := h
    rfl
  · obtain ⟨x, m, rfl, hm, q⟩ := h
    refine ⟨_, (pss_cons (ps_set (i := 2) sc_law_bits.nd rfl (.inl rfl) (pe_lst pa_nil))
    (pss_cons (ps_for PassesOwn.never rfl (pi_range1 rfl T.range (pa_cons (pv 1) pa_nil)) (pg_name (i := 3) sc_law_bits.nd rfl (.inl rfl))
      (pss_cons (ps_expr (pe_bm PySem.F.plainAttrs_list PySem.F.slot_list_append PySem.F.type_list_append mt_append (pv 2) (pa_cons (pe_cmpR op_eq (pe_op op_mod (pe_callTy call_int1 (by rfl) T.int (by decide +kernel) (pa_cons (pv 0) pa_nil)) pe_int) pe_int (nomark _)) pa_nil)))
      (pss_one (ps_set (i := 0) sc_law_bits.nd rfl (.inl rfl) (pe_op op_fdiv (pv 0) pe_int)))))
    (pss_one (ps_ret (pe_callTy call_tuple_of (by rfl) T.tuple (by decide +kernel) (pa_cons (pv 2) pa_nil)))))), ?_⟩
    refine ⟨Nat.zero_le _, fun o no => ⟨_, rfl, _, rfl, by omega, by omega, for_range (n := ((m : Int)).toNat) (fun i σ H' => H' = upd H o (.lst ((bitsOf x i).map V.bl)) ∧ ∃ z : Option V, σ = [some (.int ((x / 2 ^ i : Nat) : Int)), some (.int m), some (.ref o), z]) ⟨rfl, _, by rw [Nat.pow_zero, Nat.div_one]; rfl⟩ ?_ ?_⟩⟩
    · rintro i σ H' hi ⟨rfl, z, rfl⟩
      refine ⟨_, rfl, .inl ⟨rfl, _, SqL.of upd_same⟩, _, rfl, .inl ⟨_, rfl, _, _, rfl, rfl, (by show (0 : Int) < 2; decide), rfl, o, _, _, rfl, rfl, upd_same, ?_, _, rfl, _, _, rfl, rfl, ⟨by decide, by decide⟩, ?_, some (.int (0 + (i : Int))), ?_⟩⟩
      · exact sz_lt (by rw [List.length_map, bitsOf_len]; omega)
      · rw [upd_upd, bit_at, bitsOf_succ, List.map_append]; rfl
      · rw [← half_at]; rfl
    · rintro σ H' ⟨rfl, z, rfl⟩
      refine ⟨_, rfl, _, _, rfl, .inl ⟨SqL.of upd_same, fun t nt => ?_⟩⟩
      have e1 : Ex H (upd H o (.lst ((bitsOf x ((m : Int)).toNat).map V.bl))) := Ex.new no
      exact q t _ (fresh_back e1 nt) (e1.trans (Ex.new nt)) upd_same
end
end G
namespace G
open PySem PySem.Spec PyProof.Rows L2 Evl
theorem pow7 : ∀ {m : Nat}, m ≤ 6 → ([.int 1, .int 2, .int 4, .int 8, .int 16, .int 32, .int 64] : List V)[m]? = some (.int ((2 ^ m : Nat) : Int))
  | 0, _ => rfl | 1, _ => rfl | 2, _ => rfl | 3, _ => rfl | 4, _ => rfl | 5, _ => rfl | 6, _ => rfl
  | n + 7, h => by omega
theorem pow6 : ∀ {m : Nat}, m ≤ 5 → ([.int 1, .int 2, .int 4, .int 8, .int 16, .int 32] : List V)[m]? = some (.int ((2 ^ m : Nat) : Int))
  | 0, _ => rfl | 1, _ => rfl | 2, _ => rfl | 3, _ => rfl | 4, _ => rfl | 5, _ => rfl
  | n + 6, h => by omega
theorem pow_le64 {m : Nat} (h : m ≤ 6) : 2 ^ m ≤ 64 := Nat.le_trans (Nat.pow_le_pow_right (by decide) h) (by decide)
theorem pow_pos2 (m : Nat) : 0 < 2 ^ m := Nat.pow_pos (by decide)
theorem divW_small {i : Int} {j : Nat} (h : 0 < j) (h9 : j ≤ 1000) : CDivW i (j : Int) := wide_div (b := 20) (by omega) (by
  rw [Int.natAbs_natCast]
  exact Nat.lt_of_le_of_lt h9 (by decide)) (by decide) (by decide)
section
variable {P : Program} {w : World} {K : PySem.W.Frag} {mg : Str → Option Value} {base : Heap}
/-- a table of m inputs -/
def spTable : Sp := fun vs H Q _ => ∃ (p a : Addr) (m : Nat), vs = [.ref p, .int m] ∧ m ≤ 6 ∧ PoolOk p a H ∧ ∀ (t : Addr) (bs : List Bool) (H' : Hp), bs.length = 2 ^ m → Px p a H H' → H t = none → H' t = some (.tup (bs.map V.bl)) → Q (.ref t) H'
theorem sc_law_table : FnScope ["pool", "many", "size", "kind", "value", "low", "place", "number", "bit", "k"] ["pool", "many"] (defScope s_law_table) := ⟨rfl, rfl, rfl, by decide +kernel, rfl, by decide +kernel, by decide +kernel⟩
theorem ok_law_table (D : Dfd K mg "_law_table" s_law_table ["pool", "many"]) (T : TxtS mg) (C : Has P w K mg base 2 "_law_draw" ["pool", "many"] spDrawX) (C2 : Has P w K mg base 1 "_law_bits" ["index", "many"] spBits) : Has P w K mg base 3 "_law_table" ["pool", "many"] spTable := by
  obtain ⟨f_law_draw, d_law_draw, G_law_draw, g_law_draw, k_law_draw, b_law_draw⟩ := C
  obtain ⟨f_law_bits, d_law_bits, G_law_bits, g_law_bits, k_law_bits, b_law_bits⟩ := C2
  refine D.has fun f fd F => F.ok sc_law_table (fun vs H Q E h => ?_) (fun cdv A outer s H vs Q E hr h => ?_)
  · obtain ⟨c, _, _, rfl, _⟩ := h
    rfl
  · obtain ⟨p, a, m, rfl, hm, hp, q⟩ := h
    have h64 := pow_le64 hm
    have hpos := pow_pos2 m
    refine ⟨_, (pss_cons (ps_set (i := 2) sc_law_table.nd rfl (.inl rfl) (pe_ix ix_list (pe_lst (pa_cons pe_int (pa_cons pe_int (pa_cons pe_int (pa_cons pe_int (pa_cons pe_int (pa_cons pe_int (pa_cons pe_int pa_nil)))))))) (pv 1) (fun _ _ => rfl)))
    (pss_cons (ps_set (i := 3) sc_law_table.nd rfl (.inl rfl) (pe_call G_law_draw hr (by rfl) g_law_draw k_law_draw b_law_draw .nil pass0 (pa_cons (pv 0) (pa_cons pe_int pa_nil))))
    (pss_cons (ps_if (pt_cmpR op_eq (pv 3) pe_int (nomark _))
      (pss_cons (ps_set (i := 4) sc_law_table.nd rfl (.inr rfl) (pe_cmpR op_eq (pe_call G_law_draw hr (by rfl) g_law_draw k_law_draw b_law_draw .nil pass0 (pa_cons (pv 0) (pa_cons pe_int pa_nil))) pe_int (nomark _)))
      (pss_one (ps_ret (pe_callTy call_tuple_of (by rfl) T.tuple (by decide +kernel) (pa_cons (pe_lc (own := [("k", 9)]) (g := gName 9) (tt := tYes) rfl sc_law_table.nd (pi_range1 rfl T.range (pa_cons (pv 2) pa_nil)) (blkOk_by (N := ["pool", "many", "size", "kind", "value", "low", "place", "number", "bit", "k"]) (sc := defScope s_law_table) (own := [("k", 9)]) (by decide +kernel)) (fun _ _ _ _ _ => (pg_name (i := 9) sc_law_table.nd rfl (.inl rfl))) (fun _ _ _ _ _ => pts_nil) (fun _ _ _ _ _ => (pv 4))) pa_nil)))))
      pss_nil)
    (pss_cut (ps_if (PW.pt (pw_and (pt_cmpR op_eq (pv 3) pe_int (nomark _)) (pw_and1 (pt_cmpR op_gt (pv 1) pe_int (nomark _)))))
      (pss_cons (ps_set (i := 5) sc_law_table.nd rfl (.inr rfl) (pe_ix ix_list (pe_lst (pa_cons pe_int (pa_cons pe_int (pa_cons pe_int (pa_cons pe_int (pa_cons pe_int (pa_cons pe_int pa_nil))))))) (pe_call G_law_draw hr (by rfl) g_law_draw k_law_draw b_law_draw .nil pass0 (pa_cons (pv 0) (pa_cons (pv 1) pa_nil))) (fun _ _ => rfl)))
      (pss_one (ps_ret (pe_callTy call_tuple_of (by rfl) T.tuple (by decide +kernel) (pa_cons (pe_lc (own := [("k", 9)]) (g := gName 9) (tt := tYes) rfl sc_law_table.nd (pi_range1 rfl T.range (pa_cons (pv 2) pa_nil)) (blkOk_by (N := ["pool", "many", "size", "kind", "value", "low", "place", "number", "bit", "k"]) (sc := defScope s_law_table) (own := [("k", 9)]) (by decide +kernel)) (fun _ _ _ _ _ => (pg_name (i := 9) sc_law_table.nd rfl (.inl rfl))) (fun _ _ _ _ _ => pts_nil) (fun _ _ _ _ _ => (pe_cmpR op_eq (pe_op op_mod (pe_callTy call_int1 (by rfl) T.int (by decide +kernel) (pa_cons (pe_op op_fdivW (pv 9) (pv 5)) pa_nil)) pe_int) pe_int (nomark _)))) pa_nil)))))
      pss_nil)
    (pss_cons (ps_if (pt_cmpR op_eq (pv 3) pe_int (nomark _))
      (pss_cons (ps_set (i := 6) sc_law_table.nd rfl (.inr rfl) (pe_call G_law_draw hr (by rfl) g_law_draw k_law_draw b_law_draw .nil pass0 (pa_cons (pv 0) (pa_cons (pv 2) pa_nil))))
      (pss_one (ps_ret (pe_callTy call_tuple_of (by rfl) T.tuple (by decide +kernel) (pa_cons (pe_lc (own := [("k", 9)]) (g := gName 9) (tt := tYes) rfl sc_law_table.nd (pi_range1 rfl T.range (pa_cons (pv 2) pa_nil)) (blkOk_by (N := ["pool", "many", "size", "kind", "value", "low", "place", "number", "bit", "k"]) (sc := defScope s_law_table) (own := [("k", 9)]) (by decide +kernel)) (fun _ _ _ _ _ => (pg_name (i := 9) sc_law_table.nd rfl (.inl rfl))) (fun _ _ _ _ _ => pts_nil) (fun _ _ _ _ _ => (pe_cmpR op_eq (pv 9) (pv 6) (nomark _)))) pa_nil)))))
      pss_nil)
    (pss_cons (ps_set (i := 7) sc_law_table.nd rfl (.inl rfl) (pe_call G_law_draw hr (by rfl) g_law_draw k_law_draw b_law_draw .nil pass0 (pa_cons (pv 0) (pa_cons (pe_op op_pow pe_int pe_int) pa_nil))))
    (pss_one (ps_ret (pe_callTy call_tuple_of (by rfl) T.tuple (by decide +kernel) (pa_cons (pe_lc (own := [("bit", 8)]) (g := gName 8) (tt := tYes) rfl sc_law_table.nd (pi_tup (pe_call G_law_bits (hr.mono (by decide)) (by rfl) g_law_bits k_law_bits b_law_bits .nil pass0 (pa_cons (pv 7) (pa_cons (pv 2) pa_nil)))) (blkOk_by (N := ["pool", "many", "size", "kind", "value", "low", "place", "number", "bit", "k"]) (sc := defScope s_law_table) (own := [("bit", 8)]) (by decide +kernel)) (fun _ _ _ _ _ => (pg_name (i := 8) sc_law_table.nd rfl (.inl rfl))) (fun _ _ _ _ _ => pts_nil) (fun _ _ _ _ _ => (pv 8))) pa_nil)))))))))), ?_⟩
    refine ⟨(by show 7 ≤ sizeLine; decide), fun l nl => ⟨_, rfl, _, _, _, _, rfl, rfl, SqL.of upd_same, atI_nat (pow7 hm), ?_⟩⟩
    have X1 : Px p a H (upd H l (.lst [.int 1, .int 2, .int 4, .int 8, .int 16, .int 32, .int 64])) := (Px.refl hp).new nl
    refine ⟨_, rfl, p, a, 6, rfl, by decide, by decide, X1.pool, fun kind H2 hk X2 _ => ?_⟩
    have Y2 := X1.trans X2
    refine ⟨_, rfl, rfl, _, rfl, ite2 (fun e => ?_) (fun e => ?_)⟩
    · refine ⟨_, rfl, p, a, 2, rfl, by decide, by decide, Y2.pool, fun v H3 hv X3 _ => ⟨rfl, ?_⟩⟩
      have Y3 := Y2.trans X3
      refine ⟨_, rfl, _, rfl, by omega, by omega, fun L nL => lcRv (fun _ => .bl (decide (V.int v = V.int 1))) (by omega) (fun _ => rfl) (fun i H4 _ _ Q q => ⟨_, rfl, q⟩) ⟨_, _, rfl, .inl ⟨SqL.of upd_same, fun t nt => ?_⟩⟩⟩
      exact q t ((List.range ((2 ^ m : Nat) : Int).toNat).map fun _ => decide (V.int v = V.int 1)) _ (by rw [List.length_map, List.length_range]; omega) ((Y3.new nL).new nt) ((Y3.new nL).free nt) (by rw [upd_same, List.map_map]; rfl)
    · refine ⟨fun σ H' => σ = [some (.ref p), some (.int m), some (.int ((2 ^ m : Nat) : Int)), some (.int kind), none, none, none, none, none, none] ∧ H' = H2, ?_, ?_⟩
      · refine ⟨_, rfl, rfl, _, rfl, ite2 (fun e1 => ?_) (fun e1 => iteF ⟨rfl, rfl⟩)⟩
        refine ⟨_, rfl, _, _, rfl, rfl, _, rfl, ite2 (fun e2 => ?_) (fun e2 => ⟨rfl, rfl⟩)⟩
        have hm0 : 0 < m := by have := of_decide_eq_true e2; omega
        refine ⟨(by show 6 ≤ sizeLine; decide), fun l2 nl2 => ⟨_, rfl, _, rfl, p, a, m, rfl, by omega, by omega, (Y2.new nl2).pool, fun v H3 hv X3 hk3 => ?_⟩⟩
        have Y3 := (Y2.new nl2).trans X3
        have h2 : H3 l2 = some (.lst [.int 1, .int 2, .int 4, .int 8, .int 16, .int 32]) := by rw [hk3 _ (Y2.pool.ne nl2)]; exact upd_same
        refine ⟨_, _, _, _, rfl, rfl, SqL.of h2, atI_nat (pow6 (by omega)), ?_⟩
        refine ⟨_, rfl, _, rfl, by omega, by omega, fun L nL => lcRv (fun (i : Nat) => .bl (decide (V.int ((0 + (i : Int)) / ((2 ^ v : Nat) : Int) % 2) = V.int 1))) (by omega) (fun _ => rfl) (fun i H4 _ _ Q q => ⟨_, rfl, _, rfl, _, _, rfl, rfl, divW_small (pow_pos2 v) (Nat.le_trans (pow_le64 (by omega)) (by decide)), .inl ⟨_, rfl, _, _, rfl, rfl, (by show (0 : Int) < 2; decide), rfl, q⟩⟩) ⟨_, _, rfl, .inl ⟨SqL.of upd_same, fun t nt => ?_⟩⟩⟩
        exact q t ((List.range ((2 ^ m : Nat) : Int).toNat).map fun (i : Nat) => decide (V.int ((0 + (i : Int)) / ((2 ^ v : Nat) : Int) % 2) = V.int 1)) _ (by rw [List.length_map, List.length_range]; omega) ((Y3.new nL).new nt) ((Y3.new nL).free nt) (by rw [upd_same, List.map_map]; rfl)
      · rintro σ H' ⟨rfl, rfl⟩
        refine ⟨_, rfl, rfl, _, rfl, ite2 (fun e1 => ?_) (fun e1 => ?_)⟩
        · refine ⟨_, rfl, _, rfl, p, a, ((2 ^ m : Nat) : Int), rfl, by omega, by omega, Y2.pool, fun v H3 hv X3 _ => ?_⟩
          have Y3 := Y2.trans X3
          refine ⟨_, rfl, _, rfl, by omega, by omega, fun L nL => lcRv (fun (i : Nat) => .bl (decide (V.int (0 + (i : Int)) = V.int v))) (by omega) (fun _ => rfl) (fun i H4 _ _ Q q => ⟨_, rfl, _, rfl, rfl, q⟩) ⟨_, _, rfl, .inl ⟨SqL.of upd_same, fun t nt => ?_⟩⟩⟩
          exact q t ((List.range ((2 ^ m : Nat) : Int).toNat).map fun (i : Nat) => decide (V.int (0 + (i : Int)) = V.int v)) _ (by rw [List.length_map, List.length_range]; omega) ((Y3.new nL).new nt) ((Y3.new nL).free nt) (by rw [upd_same, List.map_map]; rfl)
        · refine ⟨_, rfl, _, _, rfl, rfl, ⟨by decide, by decide, by decide⟩, p, a, _, rfl, by decide, by decide, Y2.pool, fun v H3 hv X3 _ => ?_⟩
          have Y3 := Y2.trans X3
          refine ⟨_, rfl, _, rfl, v, 2 ^ m, rfl, by omega, fun t1 H4 n1 E1 h1 => ⟨t1, rfl, ⟨_, SqT.of h1⟩, fun L nL => lcTm (xs := (bitsOf v (2 ^ m)).map V.bl) id (SqT.of h1) nL (by rw [List.length_map, bitsOf_len]; omega) (fun _ => rfl) (fun i x H4 _ _ Q q => ⟨_, rfl, q⟩) ⟨_, _, rfl, .inl ⟨SqL.of upd_same, fun t nt => ?_⟩⟩⟩⟩
          have Y4 := Y3.more E1
          exact q t (bitsOf v (2 ^ m)) _ (bitsOf_len _ _) ((Y4.new nL).new nt) ((Y4.new nL).free nt) (by rw [upd_same, List.map_id])
end
end G
namespace G
open PySem PySem.Spec PyProof.Rows L2 Evl
/-! ## tuples never change -/
def TEx (H H' : Hp) : Prop := ∀ (b : Addr) (xs : List V), H b = some (.tup xs) → H' b = some (.tup xs)
theorem TEx.refl (H : Hp) : TEx H H := fun _ _ h => h
theorem TEx.trans {H H1 H2 : Hp} (a : TEx H H1) (b : TEx H1 H2) : TEx H H2 := fun c xs h => b c xs (a c xs h)
theorem TEx.of {H H' : Hp} (e : Ex H H') : TEx H H' := fun b xs h => e b _ h
theorem TEx.px {p a : Addr} {H H' : Hp} (x : Px p a H H') : TEx H H' := fun b xs h => by
  obtain ⟨_, _, _, _, _, e, _⟩ := x.was
  exact x.at_ (b := b) (o := .tup xs) (by rw [hid_ne (ne_of h e (by intro z; cases z))]; exact h)
theorem TEx.new {H : Hp} {b : Addr} {o : HO} (n : H b = none) : TEx H (upd H b o) := .of (Ex.new n)
theorem TEx.mut {H : Hp} {b : Addr} {l : List V} {o : HO} (h : H b = some (.lst l)) : TEx H (upd H b o) := fun c xs hc => by
  rw [upd_ne (ne_of hc h (by intro z; cases z))]; exact hc
/-! ## circuits -/
structure GateD where
  name : Str
  tab : List Bool
  pins : List Str
  rng : List (Int × Int)
structure RegD where
  name : Str
  net : Str
  edge : Int × Int
  out : Int × Int
  setup : Int
  hold : Int
  start : Bool
structure CircD where
  ins : List Str
  gates : List GateD
  regs : List RegD
  outs : List (Str × Str)
def IntsAt (H : Hp) (a : Addr) (p : Int × Int) : Prop := H a = some (.tup [.int p.1, .int p.2])
def GateAt (H : Hp) (a : Addr) (g : GateD) : Prop := ∃ (t pt rt : Addr) (ra : List Addr), H a = some (.tup [.str g.name, .ref t, .ref pt, .ref rt]) ∧ H t = some (.tup (g.tab.map V.bl)) ∧ H pt = some (.tup (g.pins.map V.str)) ∧ H rt = some (.tup (ra.map V.ref)) ∧ All2 (IntsAt H) ra g.rng
def RegAt (H : Hp) (a : Addr) (r : RegD) : Prop := ∃ ea oa : Addr, H a = some (.tup [.str r.name, .str r.net, .ref ea, .ref oa, .int r.setup, .int r.hold, .bl r.start]) ∧ IntsAt H ea r.edge ∧ IntsAt H oa r.out
def OutAt (H : Hp) (a : Addr) (o : Str × Str) : Prop := H a = some (.tup [.str o.1, .str o.2])
structure CircAt (H : Hp) (c : Addr) (d : CircD) (it gt rt ot : Addr) (ga ra oa : List Addr) : Prop where
  top : H c = some (.tup [.ref it, .ref gt, .ref rt, .ref ot])
  ins : H it = some (.tup (d.ins.map V.str))
  gts : H gt = some (.tup (ga.map V.ref))
  rgs : H rt = some (.tup (ra.map V.ref))
  ots : H ot = some (.tup (oa.map V.ref))
  gates : All2 (GateAt H) ga d.gates
  regs : All2 (RegAt H) ra d.regs
  outs : All2 (OutAt H) oa d.outs
section
variable {H H' : Hp} {a c it gt rt ot : Addr} {g : GateD} {r : RegD} {d : CircD} {ga ra oa : List Addr}
theorem IntsAt.te {p : Int × Int} (e : TEx H H') (h : IntsAt H a p) : IntsAt H' a p := e _ _ h
theorem GateAt.te (e : TEx H H') (h : GateAt H a g) : GateAt H' a g := by
  obtain ⟨t, pt, rt, ra, h1, h2, h3, h4, h5⟩ := h
  exact ⟨t, pt, rt, ra, e _ _ h1, e _ _ h2, e _ _ h3, e _ _ h4, h5.imp fun _ _ z => z.te e⟩
theorem RegAt.te (e : TEx H H') (h : RegAt H a r) : RegAt H' a r := by
  obtain ⟨ea, oa, h1, h2, h3⟩ := h
  exact ⟨ea, oa, e _ _ h1, h2.te e, h3.te e⟩
theorem CircAt.te (e : TEx H H') (h : CircAt H c d it gt rt ot ga ra oa) : CircAt H' c d it gt rt ot ga ra oa :=
  ⟨e _ _ h.top, e _ _ h.ins, e _ _ h.gts, e _ _ h.rgs, e _ _ h.ots, h.gates.imp fun _ _ z => z.te e, h.regs.imp fun _ _ z => z.te e, h.outs.imp fun _ _ z => e _ _ z⟩
end
/-! ### the names that are given -/
def nm (c : Str) (k : Nat) : Str := c ++ Str.ofString (toString ((k : Nat) : Int))
structure RegWf (r : RegD) : Prop where
  e0 : 0 ≤ r.edge.1 ∧ r.edge.1 ≤ 2
  e1 : r.edge.1 ≤ r.edge.2 ∧ r.edge.2 ≤ r.edge.1 + 2
  o0 : 0 ≤ r.out.1 ∧ r.out.1 ≤ 3
  o1 : r.out.1 + 1 ≤ r.out.2 ∧ r.out.2 ≤ r.out.1 + 4
  su : 0 ≤ r.setup ∧ r.setup ≤ 3
  ho : 0 ≤ r.hold ∧ r.hold < r.out.2
structure GateWf (ns : List Str) (k : Nat) (g : GateD) : Prop where
  name : g.name = nm "g" k
  few : g.pins.length ≤ 3
  pins : ∀ x ∈ g.pins, x ∈ ns
  tab : g.tab.length = 2 ^ g.pins.length
  many : g.rng.length = g.pins.length
  rng : ∀ r ∈ g.rng, 0 ≤ r.1 ∧ r.1 ≤ 4 ∧ r.1 + 2 ≤ r.2 ∧ r.2 ≤ r.1 + 6
/-- the gates in the order of their making: each reads what stood before it -/
structure CircWf (most : Nat) (d : CircD) (G : List GateD) : Prop where
  ins : ∃ n, 1 ≤ n ∧ n ≤ 3 ∧ d.ins = (List.range n).map (nm "i")
  regs : ∃ n, n ≤ 3 ∧ d.regs.map (·.name) = (List.range n).map (nm "r")
  few : G.length ≤ most
  gates : ∀ k g, G[k]? = some g → GateWf (d.ins ++ d.regs.map (·.name) ++ (List.range k).map (nm "g")) k g
  perm : d.gates.Perm G
  rwf : ∀ r ∈ d.regs, RegWf r ∧ r.net ∈ d.ins ++ d.regs.map (·.name) ++ (List.range G.length).map (nm "g")
  outs : ∃ n, n ≤ 3 ∧ d.outs.map (·.1) = (List.range n).map (nm "p")
  onet : ∀ o ∈ d.outs, o.2 ∈ d.ins ++ d.regs.map (·.name) ++ (List.range G.length).map (nm "g")
section
variable {P : Program} {w : World} {K : PySem.W.Frag} {mg : Str → Option Value} {base : Heap}
def spReg : Sp := fun vs H Q _ => ∃ (p a : Addr) (n net : Str), vs = [.ref p, .str n, .str net] ∧ PoolOk p a H ∧ ∀ (x : Addr) (r : RegD) (H' : Hp), Px p a H H' → H x = none → RegAt H' x r → r.name = n → r.net = net → RegWf r → Q (.ref x) H'
theorem sc_law_register : FnScope ["pool", "name", "net", "edge", "out", "high", "wide"] ["pool", "name", "net"] (defScope s_law_register) := ⟨rfl, rfl, rfl, by decide +kernel, rfl, by decide +kernel, by decide +kernel⟩
theorem ok_law_register (D : Dfd K mg "_law_register" s_law_register ["pool", "name", "net"]) (C : Has P w K mg base 2 "_law_draw" ["pool", "many"] spDrawX) : Has P w K mg base 3 "_law_register" ["pool", "name", "net"] spReg := by
  obtain ⟨f_law_draw, d_law_draw, G_law_draw, g_law_draw, k_law_draw, b_law_draw⟩ := C
  refine D.has fun f fd F => F.ok sc_law_register (fun vs H Q E h => ?_) (fun cdv A outer s H vs Q E hr h => ?_)
  · obtain ⟨p, a, n, net, rfl, _⟩ := h
    rfl
  · obtain ⟨p, a, n, net, rfl, hp, q⟩ := h
    refine ⟨_, (pss_cons (ps_set (i := 3) sc_law_register.nd rfl (.inl rfl) (pe_call G_law_draw (hr.mono (by omega)) (by rfl) g_law_draw k_law_draw b_law_draw .nil pass0 (pa_cons (pv 0) (pa_cons pe_int pa_nil))))
    (pss_cons (ps_set (i := 4) sc_law_register.nd rfl (.inl rfl) (pe_call G_law_draw (hr.mono (by omega)) (by rfl) g_law_draw k_law_draw b_law_draw .nil pass0 (pa_cons (pv 0) (pa_cons pe_int pa_nil))))
    (pss_cons (ps_set (i := 5) sc_law_register.nd rfl (.inl rfl) (pe_op op_add (pe_op op_add (pv 4) pe_int) (pe_call G_law_draw (hr.mono (by omega)) (by rfl) g_law_draw k_law_draw b_law_draw .nil pass0 (pa_cons (pv 0) (pa_cons pe_int pa_nil)))))
    (pss_cons (ps_set (i := 6) sc_law_register.nd rfl (.inl rfl) (pe_op op_add (pv 3) (pe_call G_law_draw (hr.mono (by omega)) (by rfl) g_law_draw k_law_draw b_law_draw .nil pass0 (pa_cons (pv 0) (pa_cons pe_int pa_nil)))))
    (pss_one (ps_ret (pe_tup (pa_cons (pv 1) (pa_cons (pv 2) (pa_cons (pe_tup (pa_cons (pv 3) (pa_cons (pv 6) pa_nil))) (pa_cons (pe_tup (pa_cons (pv 4) (pa_cons (pv 5) pa_nil))) (pa_cons (pe_call G_law_draw (hr.mono (by omega)) (by rfl) g_law_draw k_law_draw b_law_draw .nil pass0 (pa_cons (pv 0) (pa_cons pe_int pa_nil))) (pa_cons (pe_call G_law_draw (hr.mono (by omega)) (by rfl) g_law_draw k_law_draw b_law_draw .nil pass0 (pa_cons (pv 0) (pa_cons (pv 5) pa_nil))) (pa_cons (pe_cmpR op_eq (pe_call G_law_draw (hr.mono (by omega)) (by rfl) g_law_draw k_law_draw b_law_draw .nil pass0 (pa_cons (pv 0) (pa_cons pe_int pa_nil))) pe_int (nomark _)) pa_nil)))))))))))))), ?_⟩
    refine ⟨_, rfl, p, a, 3, rfl, by decide, by decide, hp, fun v1 H1 h1 X1 _ => ?_⟩
    refine ⟨_, rfl, p, a, 4, rfl, by decide, by decide, X1.pool, fun v2 H2 h2 X2 _ => ?_⟩
    refine ⟨_, rfl, _, _, rfl, rfl, _, rfl, p, a, 4, rfl, by decide, by decide, X2.pool, fun v3 H3 h3 X3 _ => ⟨_, _, rfl, rfl, ?_⟩⟩
    refine ⟨_, rfl, _, rfl, p, a, 3, rfl, by decide, by decide, X3.pool, fun v4 H4 h4 X4 _ => ⟨_, _, rfl, rfl, ?_⟩⟩
    have Y4 := X1.trans (X2.trans (X3.trans X4))
    refine ⟨_, rfl, _, rfl, _, rfl, _, rfl, (by show 2 ≤ sizeLine; decide), fun e1 n1 => ⟨_, rfl, _, rfl, (by show 2 ≤ sizeLine; decide), fun e2 n2 => ?_⟩⟩
    have Y5 := (Y4.new (o := .tup [.int v1, .int ((v1 : Int) + v4)]) n1).new (o := .tup [.int v2, .int ((v2 : Int) + 1 + v3)]) n2
    have t1 : upd (upd H4 e1 (.tup [.int v1, .int ((v1 : Int) + v4)])) e2 (.tup [.int v2, .int ((v2 : Int) + 1 + v3)]) e1 = some (.tup [.int v1, .int ((v1 : Int) + v4)]) := by rw [upd_ne (ne_of_none upd_same n2)]; exact upd_same
    have t2 : upd (upd H4 e1 (.tup [.int v1, .int ((v1 : Int) + v4)])) e2 (.tup [.int v2, .int ((v2 : Int) + 1 + v3)]) e2 = some (.tup [.int v2, .int ((v2 : Int) + 1 + v3)]) := upd_same
    generalize upd (upd H4 e1 (.tup [.int v1, .int ((v1 : Int) + v4)])) e2 (.tup [.int v2, .int ((v2 : Int) + 1 + v3)]) = H5 at *
    refine ⟨_, rfl, p, a, 4, rfl, by decide, by decide, Y5.pool, fun v5 H6 h5 X6 _ => ?_⟩
    refine ⟨_, rfl, _, rfl, p, a, (v2 : Int) + 1 + v3, rfl, by omega, by omega, X6.pool, fun v6 H7 h6 X7 _ => ?_⟩
    refine ⟨_, rfl, p, a, 2, rfl, by decide, by decide, X7.pool, fun v7 H8 h7 X8 _ => ⟨rfl, (by show 7 ≤ sizeLine; decide), fun x nx => ?_⟩⟩
    have Y8 := X6.trans (X7.trans X8)
    have T8 := (TEx.px Y8).trans (TEx.new (o := .tup [.str n, .str net, .ref e1, .ref e2, .int v5, .int v6, .bl (decide (V.int v7 = V.int 1))]) nx)
    exact q x ⟨n, net, (v1, (v1 : Int) + v4), (v2, (v2 : Int) + 1 + v3), v5, v6, decide (V.int v7 = V.int 1)⟩ _ ((Y5.trans Y8).new nx) ((Y5.trans Y8).free nx) ⟨e1, e2, upd_same, T8 _ _ t1, T8 _ _ t2⟩ rfl rfl
      ⟨by constructor <;> simp <;> omega, by constructor <;> simp <;> omega, by constructor <;> simp <;> omega, by constructor <;> simp <;> omega, by constructor <;> simp <;> omega, by constructor <;> simp <;> omega⟩
theorem nm_small : ∀ c ∈ (["i", "r", "g", "p"] : List Str), ∀ k, k < 20 → c.length + (Str.ofString (toString ((k : Nat) : Int))).length ≤ 1000 ∧ ((k : Nat) : Int).natAbs.log2 < 1920 := by decide +kernel
/-- 'x' + str(k), read -/
theorem nm_read {c : Str} {k : Nat} (hc : c ∈ (["i", "r", "g", "p"] : List Str)) (hk : k < 20) : ((k : Nat) : Int).natAbs.log2 < 1920 ∧ c.length + (Str.ofString (toString ((k : Nat) : Int))).length ≤ sizeLine :=
  ⟨(nm_small c hc k hk).2, sz_of (Nat.le_trans (nm_small c hc k hk).1 (by decide))⟩
theorem keep1 {p M x : Addr} {H : Hp} {o o' : HO} (e : hid p H x = some o) (hx : x ≠ M) (hM : M ≠ p) : hid p (upd H M o') x = some o := by
  rw [hid_upd_ne hM, upd_ne hx]; exact e
theorem hid_new {p M : Addr} {H : Hp} {o : HO} (hM : M ≠ p) : hid p (upd H M o) M = some o := by
  rw [hid_ne hM]; exact upd_same
theorem erase_perm {α : Type} : ∀ (l : List α) (v : Nat) (h : v < l.length), (l[v] :: l.eraseIdx v).Perm l
  | [], v, h => absurd h (Nat.not_lt_zero _)
  | a :: r, 0, _ => .refl _
  | a :: r, v + 1, h => by
    have h' : v < r.length := Nat.lt_of_succ_lt_succ h
    have ih := erase_perm r v h'
    show (r[v] :: a :: r.eraseIdx v).Perm (a :: r)
    exact (List.Perm.swap ..).trans (ih.cons a)
def spShuf : Sp := fun vs H Q _ => ∃ (p a l : Addr) (xs : List V), vs = [.ref p, .ref l] ∧ PoolOk p a H ∧ hid p H l = some (.lst xs) ∧ xs.length ≤ 200 ∧ ∀ (o : Addr) (ys : List V) (H' : Hp), Px p a H H' → H o = none → H' o = some (.lst ys) → ys.Perm xs → Q (.ref o) H'
theorem sc_law_shuffled : FnScope ["pool", "rows", "left", "out", "k"] ["pool", "rows"] (defScope s_law_shuffled) := ⟨rfl, rfl, rfl, by decide +kernel, rfl, by decide +kernel, by decide +kernel⟩
theorem ok_law_shuffled (D : Dfd K mg "_law_shuffled" s_law_shuffled ["pool", "rows"]) (T : TxtS mg) (C : Has P w K mg base 2 "_law_draw" ["pool", "many"] spDrawX) : Has P w K mg base 3 "_law_shuffled" ["pool", "rows"] spShuf := by
  obtain ⟨f_law_draw, d_law_draw, G_law_draw, g_law_draw, k_law_draw, b_law_draw⟩ := C
  refine D.has fun f fd F => F.ok sc_law_shuffled (fun vs H Q E h => ?_) (fun cdv A outer s H vs Q E hr h => ?_)
  · obtain ⟨p, a, l, xs, rfl, _⟩ := h
    rfl
  · obtain ⟨p, a, l, xs, rfl, hp, hl, hn, q⟩ := h
    refine ⟨_, (pss_cons (ps_set (i := 2) sc_law_shuffled.nd rfl (.inl rfl) (pe_callTy call_list_of (by rfl) T.list (by decide +kernel) (pa_cons (pv 1) pa_nil)))
    (pss_cons (ps_set (i := 3) sc_law_shuffled.nd rfl (.inl rfl) (pe_lst pa_nil))
    (pss_cons (ps_for PassesOwn.never rfl (pi_range1 rfl T.range (pa_cons (pe_callB call_len_seq (by rfl) T.len (by decide +kernel) (pa_cons (pv 1) pa_nil)) pa_nil)) (pg_name (i := 4) sc_law_shuffled.nd rfl (.inl rfl))
      (pss_one (ps_expr (pe_bm PySem.F.plainAttrs_list PySem.F.slot_list_append PySem.F.type_list_append mt_append (pv 3) (pa_cons (pe_bm PySem.F.plainAttrs_list PySem.F.slot_list_pop PySem.F.type_list_pop mt_popAt (pv 2) (pa_cons (pe_call G_law_draw (hr.mono (by omega)) (by rfl) g_law_draw k_law_draw b_law_draw .nil pass0 (pa_cons (pv 0) (pa_cons (pe_callB call_len_seq (by rfl) T.len (by decide +kernel) (pa_cons (pv 2) pa_nil)) pa_nil))) pa_nil)) pa_nil)))))
    (pss_one (ps_ret (pv 3)))))), ?_⟩
    refine ⟨_, rfl, _, _, rfl, .inl (SqL.of (hid_get hl)), fun lf nlf => ⟨Nat.zero_le _, fun o no => ?_⟩⟩
    have X0 := ((Px.refl hp).new (o := .lst xs) nlf).new (o := .lst []) no
    have plf := hp.ne nlf
    have nlo : lf ≠ o := ne_of_none upd_same no
    have nHo : H o = none := by
      have z := no
      rw [upd_ne nlo.symm] at z; exact z
    have po := hp.ne nHo
    have h1 : hid p (upd (upd H lf (.lst xs)) o (.lst [])) lf = some (.lst xs) := keep1 (hid_new plf) nlo po
    have h2 : hid p (upd (upd H lf (.lst xs)) o (.lst [])) o = some (.lst []) := hid_new po
    generalize upd (upd H lf (.lst xs)) o (.lst []) = H0 at *
    refine ⟨_, rfl, _, _, rfl, .inl (SqL.of (X0.at_ hl)), _, rfl, by omega, by omega, for_range (n := ((xs.length : Nat) : Int).toNat)
      (fun i σ H' => Px p a H H' ∧ ∃ (ls os : List V) (z : Option V), hid p H' lf = some (.lst ls) ∧ hid p H' o = some (.lst os) ∧ (os ++ ls).Perm xs ∧ os.length = i ∧ σ = [some (.ref p), some (.ref l), some (.ref lf), some (.ref o), z])
      ⟨X0, xs, [], _, h1, h2, .refl _, rfl, rfl⟩ ?_ ?_⟩
    · rintro i σ H1 hi ⟨X1, ls, os, z, hls, hos, hperm, hoi, rfl⟩
      rw [Int.toNat_natCast] at hi
      have hlen := hperm.length_eq
      rw [List.length_append] at hlen
      have hpos : 0 < ls.length := by omega
      refine ⟨_, rfl, .inl ⟨rfl, _, SqL.of (hid_get hos)⟩, _, rfl, .inl ⟨rfl, _, SqL.of (hid_get hls)⟩, _, rfl, _, rfl, _, _, rfl, .inl (SqL.of (hid_get hls)), p, a, ls.length, rfl, by omega, by omega, X1.pool, fun v H2 hv X2 _ => ?_⟩
      have hv' : v < ls.length := by omega
      have hls2 := X2.get hls
      have hos2 := X2.get hos
      refine ⟨lf, ls, (v : Int), v, ls[v], rfl, rfl, hid_get hls2, by omega, by omega, ?_, List.getElem?_eq_getElem hv', ?_⟩
      · have := PyProof.Rows.seqIndex_at (i := (v : Int)) (n := ls.length) (by omega) (by omega)
        rw [Int.toNat_natCast] at this
        exact this
      · have hos3 : hid p (upd H2 lf (.lst (ls.eraseIdx v))) o = some (.lst os) := keep1 hos2 nlo.symm plf
        have X3 := (X1.trans X2).mut (o := .lst (ls.eraseIdx v)) nlf
        have hls3 : hid p (upd H2 lf (.lst (ls.eraseIdx v))) lf = some (.lst (ls.eraseIdx v)) := hid_new plf
        generalize upd H2 lf (.lst (ls.eraseIdx v)) = H3 at *
        refine ⟨o, os, ls[v], rfl, rfl, hid_get hos3, sz_lt (by omega), X3.mut nHo, ls.eraseIdx v, os ++ [ls[v]], _, keep1 hls3 nlo po, hid_new po, ?_, by rw [List.length_append, hoi]; rfl, rfl⟩
        refine List.Perm.trans ?_ hperm
        rw [List.append_assoc]
        exact List.Perm.append_left _ (erase_perm ls v hv')
    · rintro σ H1 ⟨X1, ls, os, z, hls, hos, hperm, hoi, rfl⟩
      rw [Int.toNat_natCast] at hoi
      have hlen := hperm.length_eq
      rw [List.length_append] at hlen
      have : ls = [] := List.length_eq_zero_iff.mp (by omega)
      rw [this, List.append_nil] at hperm
      exact ⟨_, rfl, q o os H1 X1 nHo (hid_get hos) hperm⟩
theorem nmi_str : ("i" : Str) ∈ (["i", "r", "g", "p"] : List Str) := by decide
theorem nmr_str : ("r" : Str) ∈ (["i", "r", "g", "p"] : List Str) := by decide
theorem nmg_str : ("g" : Str) ∈ (["i", "r", "g", "p"] : List Str) := by decide
theorem nmp_str : ("p" : Str) ∈ (["i", "r", "g", "p"] : List Str) := by decide
theorem strV_at {us : List Str} {i : Nat} (h : i < us.length) : (us.map V.str)[i]? = some (.str us[i]) := by rw [List.getElem?_map, List.getElem?_eq_getElem h]; rfl
theorem nms_snoc (c : Str) (k : Nat) : (List.range (k + 1)).map (nm c) = (List.range k).map (nm c) ++ [nm c k] := by rw [List.range_succ, List.map_append]; rfl
theorem All2.te {R : Hp → Addr → β → Prop} {as : List Addr} {bs : List β} {H H' : Hp} (f : ∀ a b, R H a b → R H' a b) (h : All2 (R H) as bs) : All2 (R H') as bs := h.imp f
/-- what a permutation of references refers to -/
theorem perm_refs {R : Addr → GateD → Prop} {as : List Addr} {G : List GateD} (h : All2 R as G) {vs : List V} (p : vs.Perm (as.map V.ref)) : ∃ (bs : List Addr) (F : List GateD), vs = bs.map V.ref ∧ All2 R bs F ∧ F.Perm G := by
  have z : ∀ {xs ys : List V}, xs.Perm ys → ∀ (as : List Addr) (G : List GateD), ys = as.map V.ref → All2 R as G → ∃ (bs : List Addr) (F : List GateD), xs = bs.map V.ref ∧ All2 R bs F ∧ F.Perm G := by
    intro xs ys pp
    induction pp with
    | nil =>
      intro as G e h
      have : as = [] := by
        cases as with
        | nil => rfl
        | cons _ _ => cases e
      subst this
      have : G = [] := List.length_eq_zero_iff.mp h.1.symm
      subst this
      exact ⟨[], [], rfl, .nil, .refl _⟩
    | @cons x l1 l2 _ ih =>
      intro as G e h
      cases as with
      | nil => cases e
      | cons a as =>
        cases G with
        | nil => exact nomatch h.1
        | cons g G =>
          obtain ⟨e1, e2⟩ := List.cons.inj e
          have h2 : All2 R as G := ⟨Nat.succ.inj h.1, fun i x y q1 q2 => h.2 (i + 1) x y q1 q2⟩
          obtain ⟨bs, F, f1, f2, f3⟩ := ih as G e2 h2
          exact ⟨a :: bs, g :: F, by rw [e1, f1]; rfl, .cons (h.2 0 a g rfl rfl) f2, f3.cons g⟩
    | @swap x y l =>
      intro as G e h
      match as, G, h with
      | [], _, _ => cases e
      | [_], _, _ => cases e
      | _ :: _ :: _, [], h => exact nomatch h.1
      | _ :: _ :: _, [_], h => exact nomatch Nat.succ.inj h.1
      | a :: b :: as, g :: k :: G, h =>
        obtain ⟨e1, e2⟩ := List.cons.inj e
        obtain ⟨e3, e4⟩ := List.cons.inj e2
        have h2 : All2 R as G := ⟨Nat.succ.inj (Nat.succ.inj h.1), fun i x y q1 q2 => h.2 (i + 2) x y q1 q2⟩
        exact ⟨b :: a :: as, k :: g :: G, by rw [e1, e3, e4]; rfl, .cons (h.2 1 b k rfl rfl) (.cons (h.2 0 a g rfl rfl) h2), .swap ..⟩
    | trans _ _ ih1 ih2 =>
      intro as G e h
      obtain ⟨bs, F, f1, f2, f3⟩ := ih2 as G e h
      obtain ⟨cs, F2, g1, g2, g3⟩ := ih1 bs F f1 f2
      exact ⟨cs, F2, g1, g2, g3.trans f3⟩
  exact z p as G rfl h
def spCirc : Sp := fun vs H Q _ => ∃ (p a : Addr) (most : Nat), vs = [.ref p, .int most] ∧ most ≤ 15 ∧ PoolOk p a H ∧ ∀ (c : Addr) (d : CircD) (G : List GateD) (it gt rt ot : Addr) (ga ra oa : List Addr) (H' : Hp), Px p a H H' → CircAt H' c d it gt rt ot ga ra oa → CircWf most d G → Q (.ref c) H'
theorem sc_law_circuit : FnScope ["pool", "most", "k", "inputs", "stored", "nets", "gates", "pins", "ranges", "pin", "low", "regs", "outputs", "name", "j"] ["pool", "most"] (defScope s_law_circuit) := ⟨rfl, rfl, rfl, by decide +kernel, rfl, by decide +kernel, by decide +kernel⟩
theorem ok_law_circuit (D : Dfd K mg "_law_circuit" s_law_circuit ["pool", "most"]) (T : TxtS mg) (C1 : Has P w K mg base 2 "_law_draw" ["pool", "many"] spDrawX) (C2 : Has P w K mg base 3 "_law_table" ["pool", "many"] spTable) (C3 : Has P w K mg base 3 "_law_register" ["pool", "name", "net"] spReg)
    (C4 : Has P w K mg base 3 "_law_shuffled" ["pool", "rows"] spShuf) : Has P w K mg base 4 "_law_circuit" ["pool", "most"] spCirc := by
  obtain ⟨f_law_draw, d_law_draw, G_law_draw, g_law_draw, k_law_draw, b_law_draw⟩ := C1
  obtain ⟨f_law_table, d_law_table, G_law_table, g_law_table, k_law_table, b_law_table⟩ := C2
  obtain ⟨f_law_register, d_law_register, G_law_register, g_law_register, k_law_register, b_law_register⟩ := C3
  obtain ⟨f_law_shuffled, d_law_shuffled, G_law_shuffled, g_law_shuffled, k_law_shuffled, b_law_shuffled⟩ := C4
  refine D.has fun f fd F => F.ok sc_law_circuit (fun vs H Q E h => ?_) (fun cdv A outer s H vs Q E hr h => ?_)
  · obtain ⟨p, a, most, rfl, _⟩ := h
    rfl
  · obtain ⟨p, a, most, rfl, hmost, hp, q⟩ := h
    refine ⟨_, (pss_cons (ps_setLc (i := 3) (own := [("k", 2)]) (g := gName 2) (tt := tYes) rfl sc_law_circuit.nd rfl rfl (sw_true rfl rfl rfl (by decide +kernel)) (pi_range1 rfl T.range (pa_cons (pe_op op_add pe_int (pe_call G_law_draw (hr.mono (by omega)) (by rfl) g_law_draw k_law_draw b_law_draw .nil pass0 (pa_cons (pv 0) (pa_cons pe_int pa_nil)))) pa_nil)) (blkOk_by (N := ["pool", "most", "k", "inputs", "stored", "nets", "gates", "pins", "ranges", "pin", "low", "regs", "outputs", "name", "j"]) (sc := defScope s_law_circuit) (own := [("k", 2)]) (by decide +kernel)) (fun _ _ _ _ _ => (pg_name (i := 2) sc_law_circuit.nd rfl (.inl rfl))) (fun _ _ _ _ _ => pts_nil) (fun _ _ _ _ _ => (pe_op op_add_str pe_str (pe_callTy call_str_int (by rfl) T.str (by decide +kernel) (pa_cons (pv 2) pa_nil)))))
    (pss_cons (ps_setLc (i := 4) (own := [("k", 2)]) (g := gName 2) (tt := tYes) rfl sc_law_circuit.nd rfl rfl (sw_true rfl rfl rfl (by decide +kernel)) (pi_range1 rfl T.range (pa_cons (pe_call G_law_draw (hr.mono (by omega)) (by rfl) g_law_draw k_law_draw b_law_draw .nil pass0 (pa_cons (pv 0) (pa_cons pe_int pa_nil))) pa_nil)) (blkOk_by (N := ["pool", "most", "k", "inputs", "stored", "nets", "gates", "pins", "ranges", "pin", "low", "regs", "outputs", "name", "j"]) (sc := defScope s_law_circuit) (own := [("k", 2)]) (by decide +kernel)) (fun _ _ _ _ _ => (pg_name (i := 2) sc_law_circuit.nd rfl (.inl rfl))) (fun _ _ _ _ _ => pts_nil) (fun _ _ _ _ _ => (pe_op op_add_str pe_str (pe_callTy call_str_int (by rfl) T.str (by decide +kernel) (pa_cons (pv 2) pa_nil)))))
    (pss_cons (ps_set (i := 5) sc_law_circuit.nd rfl (.inr rfl) (pe_op op_cat (pv 3) (pv 4)))
    (pss_cons (ps_set (i := 6) sc_law_circuit.nd rfl (.inl rfl) (pe_lst pa_nil))
    (pss_cons (ps_for PassesOwn.never rfl (pi_range1 rfl T.range (pa_cons (pe_call G_law_draw (hr.mono (by omega)) (by rfl) g_law_draw k_law_draw b_law_draw .nil pass0 (pa_cons (pv 0) (pa_cons (pe_op op_add (pv 1) pe_int) pa_nil))) pa_nil)) (pg_name (i := 2) sc_law_circuit.nd rfl (.inl rfl))
      (pss_cons (ps_set (i := 7) sc_law_circuit.nd rfl (.inl rfl) (pe_callTy call_tuple_of (by rfl) T.tuple (by decide +kernel) (pa_cons (pe_lc (own := [("j", 14)]) (g := gName 14) (tt := tYes) rfl sc_law_circuit.nd (pi_range1 rfl T.range (pa_cons (pe_ix ix_list (pe_lst (pa_cons pe_int (pa_cons pe_int (pa_cons pe_int (pa_cons pe_int (pa_cons pe_int (pa_cons pe_int pa_nil))))))) (pe_call G_law_draw (hr.mono (by omega)) (by rfl) g_law_draw k_law_draw b_law_draw .nil pass0 (pa_cons (pv 0) (pa_cons pe_int pa_nil))) (fun _ _ => rfl)) pa_nil)) (blkOk_by (N := ["pool", "most", "k", "inputs", "stored", "nets", "gates", "pins", "ranges", "pin", "low", "regs", "outputs", "name", "j"]) (sc := defScope s_law_circuit) (own := [("j", 14)]) (by decide +kernel)) (fun _ _ _ _ _ => (pg_name (i := 14) sc_law_circuit.nd rfl (.inl rfl))) (fun _ _ _ _ _ => pts_nil) (fun _ _ _ _ _ => (pe_ix (kIxL (K := K) rfl) (pv 5) (pe_call G_law_draw (hr.mono (by omega)) (by rfl) g_law_draw k_law_draw b_law_draw .nil pass0 (pa_cons (pv 0) (pa_cons (pe_callB (kLen (K := K) rfl) (by rfl) T.len (by decide +kernel) (pa_cons (pv 5) pa_nil)) pa_nil))) (fun _ _ => rfl)))) pa_nil)))
      (pss_cons (ps_set (i := 8) sc_law_circuit.nd rfl (.inl rfl) (pe_lst pa_nil))
      (pss_cons (ps_for PassesOwn.never rfl (pi_tup (pv 7)) (pg_name (i := 9) sc_law_circuit.nd rfl (.inl rfl))
        (pss_cons (ps_set (i := 10) sc_law_circuit.nd rfl (.inl rfl) (pe_call G_law_draw (hr.mono (by omega)) (by rfl) g_law_draw k_law_draw b_law_draw .nil pass0 (pa_cons (pv 0) (pa_cons pe_int pa_nil))))
        (pss_one (ps_expr (pe_bm PySem.F.plainAttrs_list PySem.F.slot_list_append PySem.F.type_list_append mt_append (pv 8) (pa_cons (pe_tup (pa_cons (pv 10) (pa_cons (pe_op op_add (pe_op op_add (pv 10) pe_int) (pe_call G_law_draw (hr.mono (by omega)) (by rfl) g_law_draw k_law_draw b_law_draw .nil pass0 (pa_cons (pv 0) (pa_cons pe_int pa_nil)))) pa_nil))) pa_nil))))))
      (pss_cons (ps_expr (pe_bm PySem.F.plainAttrs_list PySem.F.slot_list_append PySem.F.type_list_append mt_append (pv 6) (pa_cons (pe_tup (pa_cons (pe_op op_add_str pe_str (pe_callTy call_str_int (by rfl) T.str (by decide +kernel) (pa_cons (pv 2) pa_nil))) (pa_cons (pe_call G_law_table (hr.mono (by omega)) (by rfl) g_law_table k_law_table b_law_table .nil pass0 (pa_cons (pv 0) (pa_cons (pe_callB call_len_seq (by rfl) T.len (by decide +kernel) (pa_cons (pv 7) pa_nil)) pa_nil))) (pa_cons (pv 7) (pa_cons (pe_callTy call_tuple_of (by rfl) T.tuple (by decide +kernel) (pa_cons (pv 8) pa_nil)) pa_nil))))) pa_nil)))
      (pss_one (ps_expr (pe_bm PySem.F.plainAttrs_list PySem.F.slot_list_append PySem.F.type_list_append mt_append (pv 5) (pa_cons (pe_op op_add_str pe_str (pe_callTy call_str_int (by rfl) T.str (by decide +kernel) (pa_cons (pv 2) pa_nil))) pa_nil)))))))))
    (pss_cons (ps_setLc (i := 11) (own := [("name", 13)]) (g := gName 13) (tt := tYes) rfl sc_law_circuit.nd rfl rfl (sw_true rfl rfl rfl (by decide +kernel)) (pi_list (pv 4)) (blkOk_by (N := ["pool", "most", "k", "inputs", "stored", "nets", "gates", "pins", "ranges", "pin", "low", "regs", "outputs", "name", "j"]) (sc := defScope s_law_circuit) (own := [("name", 13)]) (by decide +kernel)) (fun _ _ _ _ _ => (pg_name (i := 13) sc_law_circuit.nd rfl (.inl rfl))) (fun _ _ _ _ _ => pts_nil) (fun _ _ _ _ _ => (pe_call G_law_register (hr.mono (by omega)) (by rfl) g_law_register k_law_register b_law_register .nil pass0 (pa_cons (pv 0) (pa_cons (pv 13) (pa_cons (pe_ix (kIxL (K := K) rfl) (pv 5) (pe_call G_law_draw (hr.mono (by omega)) (by rfl) g_law_draw k_law_draw b_law_draw .nil pass0 (pa_cons (pv 0) (pa_cons (pe_callB (kLen (K := K) rfl) (by rfl) T.len (by decide +kernel) (pa_cons (pv 5) pa_nil)) pa_nil))) (fun _ _ => rfl)) pa_nil))))))
    (pss_cons (ps_setLc (i := 12) (own := [("k", 2)]) (g := gName 2) (tt := tYes) rfl sc_law_circuit.nd rfl rfl (sw_true rfl rfl rfl (by decide +kernel)) (pi_range1 rfl T.range (pa_cons (pe_call G_law_draw (hr.mono (by omega)) (by rfl) g_law_draw k_law_draw b_law_draw .nil pass0 (pa_cons (pv 0) (pa_cons pe_int pa_nil))) pa_nil)) (blkOk_by (N := ["pool", "most", "k", "inputs", "stored", "nets", "gates", "pins", "ranges", "pin", "low", "regs", "outputs", "name", "j"]) (sc := defScope s_law_circuit) (own := [("k", 2)]) (by decide +kernel)) (fun _ _ _ _ _ => (pg_name (i := 2) sc_law_circuit.nd rfl (.inl rfl))) (fun _ _ _ _ _ => pts_nil) (fun _ _ _ _ _ => (pe_tup (pa_cons (pe_op op_add_str pe_str (pe_callTy call_str_int (by rfl) T.str (by decide +kernel) (pa_cons (pv 2) pa_nil))) (pa_cons (pe_ix (kIxL (K := K) rfl) (pv 5) (pe_call G_law_draw (hr.mono (by omega)) (by rfl) g_law_draw k_law_draw b_law_draw .nil pass0 (pa_cons (pv 0) (pa_cons (pe_callB (kLen (K := K) rfl) (by rfl) T.len (by decide +kernel) (pa_cons (pv 5) pa_nil)) pa_nil))) (fun _ _ => rfl)) pa_nil)))))
    (pss_one (ps_ret (pe_tup (pa_cons (pe_callTy call_tuple_of (by rfl) T.tuple (by decide +kernel) (pa_cons (pv 3) pa_nil)) (pa_cons (pe_callTy call_tuple_of (by rfl) T.tuple (by decide +kernel) (pa_cons (pe_call G_law_shuffled (hr.mono (by omega)) (by rfl) g_law_shuffled k_law_shuffled b_law_shuffled .nil pass0 (pa_cons (pv 0) (pa_cons (pv 6) pa_nil))) pa_nil)) (pa_cons (pe_callTy call_tuple_of (by rfl) T.tuple (by decide +kernel) (pa_cons (pv 11) pa_nil)) (pa_cons (pe_callTy call_tuple_of (by rfl) T.tuple (by decide +kernel) (pa_cons (pv 12) pa_nil)) pa_nil)))))))))))))), ?_⟩
    -- inputs
    refine ⟨_, rfl, p, a, 3, rfl, by decide, by decide, hp, fun na H1 hna X1 _ => ⟨_, _, rfl, rfl, _, rfl, by omega, by omega, fun L3 nL3 => lcRv (fun k => .str (nm "i" k)) (by omega) (fun _ => rfl) (fun k H2 hk _ Q q => ?_) ?_⟩⟩
    · rw [Int.zero_add]
      have := nm_read nmi_str (k := k) (by omega)
      exact ⟨_, rfl, _, rfl, this.1, _, _, rfl, rfl, this.2, q⟩
    have e1 : ((1 : Int) + (na : Int)).toNat = na + 1 := by omega
    rw [e1] at *
    have X3 := X1.new (o := .lst ((List.range (na + 1)).map fun k => V.str (nm "i" k))) nL3
    have h3 : hid p (upd H1 L3 (.lst ((List.range (na + 1)).map fun k => V.str (nm "i" k)))) L3 = some (.lst (((List.range (na + 1)).map (nm "i")).map V.str)) := by
      rw [hid_new (X1.pool.ne nL3), List.map_map]; rfl
    generalize upd H1 L3 (.lst ((List.range (na + 1)).map fun k => V.str (nm "i" k))) = H2 at *
    -- stored
    refine ⟨_, rfl, p, a, 4, rfl, by decide, by decide, X3.pool, fun nb H3 hnb X4 _ => ⟨_, rfl, by omega, by omega, fun L4 nL4 => lcRv (fun k => .str (nm "r" k)) (by omega) (fun _ => rfl) (fun k H2 hk _ Q q => ?_) ?_⟩⟩
    · rw [Int.zero_add]
      have := nm_read nmr_str (k := k) (by omega)
      exact ⟨_, rfl, _, rfl, this.1, _, _, rfl, rfl, this.2, q⟩
    rw [Int.toNat_natCast] at *
    have n34 : L3 ≠ L4 := ne_of_none (hid_get (X4.get h3)) nL4
    have X5 := (X3.trans X4).new (o := .lst ((List.range nb).map fun k => V.str (nm "r" k))) nL4
    have h4 : hid p (upd H3 L4 (.lst ((List.range nb).map fun k => V.str (nm "r" k)))) L4 = some (.lst (((List.range nb).map (nm "r")).map V.str)) := by
      rw [hid_new (X4.pool.ne nL4), List.map_map]; rfl
    have h35 : hid p (upd H3 L4 (.lst ((List.range nb).map fun k => V.str (nm "r" k)))) L3 = some (.lst (((List.range (na + 1)).map (nm "i")).map V.str)) := keep1 (X4.get h3) n34 (X4.pool.ne nL4)
    generalize upd H3 L4 (.lst ((List.range nb).map fun k => V.str (nm "r" k))) = H4 at *
    generalize eIns : (List.range (na + 1)).map (nm "i") = ins at *
    generalize eRgs : (List.range nb).map (nm "r") = rgs at *
    have lIns : ins.length ≤ 3 := by rw [← eIns, List.length_map, List.length_range]; omega
    have lIns0 : 0 < ins.length := by rw [← eIns, List.length_map, List.length_range]; omega
    have lRgs : rgs.length ≤ 3 := by rw [← eRgs, List.length_map, List.length_range]; omega
    -- nets, gates
    refine ⟨_, rfl, _, rfl, L3, L4, _, _, rfl, rfl, hid_get h35, hid_get h4, sz_of (by rw [List.length_map, List.length_map]; omega), fun L5 nL5 => ⟨Nat.zero_le _, fun L6 nL6 => ?_⟩⟩
    rw [← List.map_append] at *
    have n35 : L3 ≠ L5 := ne_of_none (hid_get h35) nL5
    have n45 : L4 ≠ L5 := ne_of_none (hid_get h4) nL5
    have p5 := X5.pool.ne nL5
    have Y5 := X5.new (o := .lst ((ins ++ rgs).map V.str)) nL5
    have g3 : hid p (upd H4 L5 (.lst ((ins ++ rgs).map V.str))) L3 = some (.lst (ins.map V.str)) := keep1 h35 n35 p5
    have g4 : hid p (upd H4 L5 (.lst ((ins ++ rgs).map V.str))) L4 = some (.lst (rgs.map V.str)) := keep1 h4 n45 p5
    have g5 : hid p (upd H4 L5 (.lst ((ins ++ rgs).map V.str))) L5 = some (.lst ((ins ++ rgs).map V.str)) := hid_new p5
    have f5 : H L5 = none := X5.free nL5
    generalize upd H4 L5 (.lst ((ins ++ rgs).map V.str)) = H5 at *
    have n36 : L3 ≠ L6 := ne_of_none (hid_get g3) nL6
    have n46 : L4 ≠ L6 := ne_of_none (hid_get g4) nL6
    have n56 : L5 ≠ L6 := ne_of_none (hid_get g5) nL6
    have p6 := Y5.pool.ne nL6
    have f6 : H L6 = none := Y5.free nL6
    have Y6 := Y5.new (o := .lst []) nL6
    have k3 : hid p (upd H5 L6 (.lst [])) L3 = some (.lst (ins.map V.str)) := keep1 g3 n36 p6
    have k4 : hid p (upd H5 L6 (.lst [])) L4 = some (.lst (rgs.map V.str)) := keep1 g4 n46 p6
    have k5 : hid p (upd H5 L6 (.lst [])) L5 = some (.lst ((ins ++ rgs).map V.str)) := keep1 g5 n56 p6
    have k6 : hid p (upd H5 L6 (.lst [])) L6 = some (.lst []) := hid_new p6
    generalize upd H5 L6 (.lst []) = H6 at *
    refine ⟨_, rfl, _, rfl, _, _, rfl, rfl, p, a, (most : Int) + 1, rfl, by omega, by omega, Y6.pool, fun ng H7 hng X7 _ => ⟨ng, rfl, by omega, by omega, for_range (n := ((ng : Nat) : Int).toNat)
      (fun i σ H' => Px p a H H' ∧ hid p H' L3 = some (.lst (ins.map V.str)) ∧ hid p H' L4 = some (.lst (rgs.map V.str)) ∧ hid p H' L5 = some (.lst ((ins ++ rgs ++ (List.range i).map (nm "g")).map V.str)) ∧
        ∃ (ga : List Addr) (G : List GateD), hid p H' L6 = some (.lst (ga.map V.ref)) ∧ All2 (GateAt H') ga G ∧ G.length = i ∧ (∀ k g, G[k]? = some g → GateWf (ins ++ rgs ++ (List.range k).map (nm "g")) k g) ∧
        ∃ (x2 x7 x8 x9 x10 : Option V), σ = [some (.ref p), some (.int most), x2, some (.ref L3), some (.ref L4), some (.ref L5), some (.ref L6), x7, x8, x9, x10, none, none, none, none])
      ⟨Y6.trans X7, X7.get k3, X7.get k4, ?_, [], [], X7.get k6, .nil, rfl, (fun _ _ h => nomatch h), _, _, _, _, _, rfl⟩ ?_ ?_⟩⟩
    · rw [List.range_zero, List.map_nil, List.append_nil]; exact X7.get k5
    · rintro i σ H8 hi ⟨X8, q3, q4, q5, ga, G, q6, hG, hGi, hGw, x2, x7, x8, x9, x10, rfl⟩
      rw [Int.toNat_natCast] at hi
      have hi15 : i < 15 := by omega
      have lN : (ins ++ rgs ++ (List.range i).map (nm "g")).length ≤ 21 := by
        rw [List.length_append, List.length_append, List.length_map, List.length_range]; omega
      have lN0 : 0 < (ins ++ rgs ++ (List.range i).map (nm "g")).length := by
        rw [List.length_append, List.length_append]; omega
      have ei : (0 : Int) + (i : Int) = (i : Int) := Int.zero_add _
      rw [ei]
      generalize eN : ins ++ rgs ++ (List.range i).map (nm "g") = N at *
      -- pins
      refine ⟨(by show 6 ≤ sizeLine; decide), fun l nl => ⟨_, rfl, p, a, 6, rfl, by decide, by decide, (X8.new nl).pool, fun v H9 hv X9 kp => ?_⟩⟩
      have hl9 : H9 l = some (.lst [.int 1, .int 2, .int 2, .int 3, .int 0, .int 1]) := by rw [kp _ (X8.pool.ne nl)]; exact upd_same
      obtain ⟨m, hm3, hm⟩ : ∃ m : Nat, m ≤ 3 ∧ ([.int 1, .int 2, .int 2, .int 3, .int 0, .int 1] : List V)[v]? = some (.int m) := by
        match v, hv with
        | 0, _ => exact ⟨1, by decide, rfl⟩
        | 1, _ => exact ⟨2, by decide, rfl⟩
        | 2, _ => exact ⟨2, by decide, rfl⟩
        | 3, _ => exact ⟨3, by decide, rfl⟩
        | 4, _ => exact ⟨0, by decide, rfl⟩
        | 5, _ => exact ⟨1, by decide, rfl⟩
        | n + 6, h => exact absurd h (by omega)
      have Z9 := ((Px.refl X8.pool).new nl).trans X9
      refine ⟨_, _, _, _, rfl, rfl, SqL.of hl9, atI_nat hm, _, rfl, by omega, by omega, fun L7 nL7 => lc_range (lo := 0) (n := ((m : Nat) : Int).toNat)
        (fun j H' => Px p a H8 H' ∧ ∃ ps : List Str, ps.length = j ∧ (∀ x ∈ ps, x ∈ N) ∧ hid p H' L7 = some (.lst (ps.map V.str))) ⟨Z9.new nL7, [], rfl, (fun _ h => nomatch h), hid_new (X9.pool.ne nL7)⟩ ?_ ?_⟩
      · rintro j H10 hj ⟨X10, ps, hpj, hpN, hps⟩
        have f7 : H8 L7 = none := Z9.free nL7
        refine ⟨rfl, tYes_in ⟨_, rfl, _, rfl, _, rfl, _, _, rfl, .inl (SqL.of (X10.at_ q5)), p, a, N.length, by rw [List.length_map]; rfl, by omega, by omega, X10.pool, fun u H11 hu X11 _ => ?_⟩⟩
        have hu' : u < N.length := by omega
        have Z11 := X10.trans X11
        refine ⟨_, _, _, _, rfl, rfl, SqL.of (Z11.at_ q5), atI_nat (strV_at hu'), _, hid_get (X11.get hps), sz_lt (by rw [List.length_map]; omega), Z11.mut f7, ps ++ [N[u]], ?_, ?_, ?_⟩
        · rw [List.length_append, hpj]; rfl
        · intro x hx
          rcases List.mem_append.mp hx with z | z
          · exact hpN x z
          · rw [List.mem_singleton.mp z]; exact List.getElem_mem hu'
        · rw [hid_new (X8.pool.ne f7), List.map_append]; rfl
      · rintro H10 ⟨X10, ps, hpj, hpN, hps⟩
        rw [Int.toNat_natCast] at hpj
        refine ⟨_, _, rfl, .inl ⟨SqL.of (hid_get hps), fun pt npt => ?_⟩⟩
        have Z10 := X10.new (o := .tup (ps.map V.str)) npt
        have hpt : upd H10 pt (.tup (ps.map V.str)) pt = some (.tup (ps.map V.str)) := upd_same
        generalize upd H10 pt (.tup (ps.map V.str)) = H11 at *
        -- ranges
        refine ⟨Nat.zero_le _, fun L8 nL8 => ?_⟩
        have Z11 := Z10.new (o := .lst []) nL8
        have hpt2 : upd H11 L8 (.lst []) pt = some (.tup (ps.map V.str)) := Ex.new nL8 _ _ hpt
        have h8 : hid p (upd H11 L8 (.lst [])) L8 = some (.lst []) := hid_new (Z10.pool.ne nL8)
        have f8 : H8 L8 = none := Z10.free nL8
        have p8 := X8.pool.ne f8
        generalize upd H11 L8 (.lst []) = H12 at *
        refine ⟨_, rfl, pt, rfl, ⟨_, SqT.of hpt2⟩, for_tup (K := K) (a := pt) (xs := ps.map V.str)
          (fun j σ H' => Px p a H8 H' ∧ TEx H12 H' ∧ ∃ (ra : List Addr) (R : List (Int × Int)) (x9 x10 : Option V), hid p H' L8 = some (.lst (ra.map V.ref)) ∧ All2 (IntsAt H') ra R ∧ R.length = j ∧ (∀ r ∈ R, 0 ≤ r.1 ∧ r.1 ≤ 4 ∧ r.1 + 2 ≤ r.2 ∧ r.2 ≤ r.1 + 6) ∧
            σ = [some (.ref p), some (.int most), some (.int (i : Int)), some (.ref L3), some (.ref L4), some (.ref L5), some (.ref L6), some (.ref pt), some (.ref L8), x9, x10, none, none, none, none])
          ⟨Z11, .refl _, [], [], _, _, h8, .nil, rfl, (fun _ h => nomatch h), rfl⟩ (fun j σ H' _ g => SqT.of (g.2.1 _ _ hpt2)) ?_ ?_⟩
        · rintro j x σ H13 hx ⟨X13, T13, ra, R, x9, x10, hra, hR, hRj, hRw, rfl⟩
          have hj3 : j < 3 := by have := (List.getElem?_eq_some_iff.mp hx).1; rw [List.length_map] at this; omega
          refine ⟨_, rfl, p, a, 5, rfl, by decide, by decide, X13.pool, fun lo H14 hlo X14 _ => ?_⟩
          refine ⟨_, rfl, .inl ⟨rfl, _, SqL.of (hid_get (X14.get hra))⟩, _, rfl, _, rfl, _, _, rfl, rfl, _, rfl, p, a, 5, rfl, by decide, by decide, X14.pool, fun u H15 hu X15 _ => ⟨_, _, rfl, rfl, (by show 2 ≤ sizeLine; decide), fun e ne => ?_⟩⟩
          have X16 := (X14.trans X15).new (o := .tup [.int lo, .int ((lo : Int) + 2 + u)]) ne
          have hra16 := X16.get hra
          have T16 := TEx.px X16
          have he : upd H15 e (.tup [.int lo, .int ((lo : Int) + 2 + u)]) e = some (.tup [.int lo, .int ((lo : Int) + 2 + u)]) := upd_same
          generalize upd H15 e (.tup [.int lo, .int ((lo : Int) + 2 + u)]) = H16 at *
          refine ⟨L8, ra.map V.ref, .ref e, rfl, rfl, hid_get hra16, sz_lt (by rw [List.length_map, hR.1]; omega), (X13.trans X16).mut f8, T13.trans (T16.trans (TEx.mut (hid_get hra16))), ra ++ [e], R ++ [((lo : Int), (lo : Int) + 2 + u)], _, _, ?_, ?_, ?_, ?_, rfl⟩
          · rw [hid_new p8, List.map_append]; rfl
          · exact (hR.imp fun _ _ z => (z.te T16).te (TEx.mut (hid_get hra16))).snoc (TEx.mut (hid_get hra16) _ _ he)
          · rw [List.length_append, hRj]; rfl
          · intro r hr
            rcases List.mem_append.mp hr with z | z
            · exact hRw r z
            · rw [List.mem_singleton.mp z]
              refine ⟨?_, ?_, ?_, ?_⟩ <;> simp <;> omega
        · rintro σ H13 ⟨X13, T13, ra, R, x9, x10, hra, hR, hRj, hRw, rfl⟩
          have hs := nm_read nmg_str (k := i) (by omega)
          rw [List.length_map] at hRj
          refine ⟨_, rfl, .inl ⟨rfl, _, SqL.of (X13.at_ q6)⟩, _, rfl, _, rfl, hs.1, _, _, rfl, rfl, hs.2, ?_⟩
          refine ⟨_, rfl, _, rfl, _, _, rfl, .inr (SqT.of (T13 _ _ hpt2)), p, a, ps.length, by rw [List.length_map]; rfl, by omega, X13.pool, fun t bs H14 hbl X14 nt ht => ?_⟩
          have T14 := TEx.px X14
          refine ⟨_, rfl, _, rfl, _, _, rfl, .inl ⟨SqL.of (hid_get (X14.get hra)), fun rt nrt => ?_⟩⟩
          have X15 := X14.new (o := .tup (ra.map V.ref)) nrt
          have T15 := TEx.px X15
          have hrt : upd H14 rt (.tup (ra.map V.ref)) rt = some (.tup (ra.map V.ref)) := upd_same
          have ht15 : upd H14 rt (.tup (ra.map V.ref)) t = some (.tup (bs.map V.bl)) := Ex.new nrt _ _ ht
          generalize upd H14 rt (.tup (ra.map V.ref)) = H15 at *
          refine ⟨(by show 4 ≤ sizeLine; decide), fun g ngg => ?_⟩
          have X16 := X15.new (o := .tup [.str (("g" : Str) ++ Str.ofString (toString ((i : Nat) : Int))), .ref t, .ref pt, .ref rt]) ngg
          have T16 : TEx H13 (upd H15 g (.tup [.str (("g" : Str) ++ Str.ofString (toString ((i : Nat) : Int))), .ref t, .ref pt, .ref rt])) := TEx.px X16
          have hg16 : upd H15 g (.tup [.str (("g" : Str) ++ Str.ofString (toString ((i : Nat) : Int))), .ref t, .ref pt, .ref rt]) g = some (.tup [.str (("g" : Str) ++ Str.ofString (toString ((i : Nat) : Int))), .ref t, .ref pt, .ref rt]) := upd_same
          have ht16 := Ex.new (o := .tup [.str (("g" : Str) ++ Str.ofString (toString ((i : Nat) : Int))), .ref t, .ref pt, .ref rt]) ngg _ _ ht15
          have hrt16 := Ex.new (o := .tup [.str (("g" : Str) ++ Str.ofString (toString ((i : Nat) : Int))), .ref t, .ref pt, .ref rt]) ngg _ _ hrt
          have Z16 := X13.trans X16
          generalize upd H15 g (.tup [.str (("g" : Str) ++ Str.ofString (toString ((i : Nat) : Int))), .ref t, .ref pt, .ref rt]) = H16 at *
          have hG16 : GateAt H16 g ⟨nm "g" i, bs, ps, R⟩ := ⟨t, pt, rt, ra, hg16, ht16, (T13.trans T16) _ _ hpt2, hrt16, hR.imp fun _ _ z => z.te T16⟩
          have q6' := Z16.get q6
          have p6' := hid_neq q6'
          have p5' := hid_neq q5
          have T17 : TEx H16 (upd H16 L6 (.lst (ga.map V.ref ++ [.ref g]))) := TEx.mut (hid_get q6')
          have hGs : All2 (GateAt H16) ga G := hG.imp fun _ _ z => z.te (TEx.px Z16)
          refine ⟨L6, ga.map V.ref, .ref g, rfl, rfl, hid_get q6', sz_lt (by rw [List.length_map, hG.1]; omega), ?_⟩
          have r3 := keep1 (o' := .lst (ga.map V.ref ++ [.ref g])) (Z16.get q3) n36 p6'
          have r4 := keep1 (o' := .lst (ga.map V.ref ++ [.ref g])) (Z16.get q4) n46 p6'
          have r5 := keep1 (o' := .lst (ga.map V.ref ++ [.ref g])) (Z16.get q5) n56 p6'
          have r6 : hid p (upd H16 L6 (.lst (ga.map V.ref ++ [.ref g]))) L6 = some (.lst ((ga ++ [g]).map V.ref)) := by rw [hid_new p6', List.map_append]; rfl
          have X17 := ((X8.trans Z16)).mut (o := .lst (ga.map V.ref ++ [.ref g])) f6
          have hG17 : All2 (GateAt (upd H16 L6 (.lst (ga.map V.ref ++ [.ref g])))) (ga ++ [g]) (G ++ [⟨nm "g" i, bs, ps, R⟩]) := (hGs.imp fun _ _ z => z.te T17).snoc (hG16.te T17)
          generalize upd H16 L6 (.lst (ga.map V.ref ++ [.ref g])) = H17 at *
          refine ⟨_, rfl, .inl ⟨rfl, _, SqL.of (hid_get r5)⟩, _, rfl, _, rfl, hs.1, _, _, rfl, rfl, hs.2, L5, N.map V.str, .str (nm "g" i), rfl, rfl, hid_get r5, sz_lt (by rw [List.length_map]; omega), ?_⟩
          have T18 : TEx H17 (upd H17 L5 (.lst (N.map V.str ++ [.str (nm "g" i)]))) := TEx.mut (hid_get r5)
          refine ⟨X17.mut f5, keep1 r3 n35 p5', keep1 r4 n45 p5', ?_, ga ++ [g], G ++ [⟨nm "g" i, bs, ps, R⟩], keep1 r6 n56.symm p5', hG17.imp fun _ _ z => z.te T18, ?_, ?_, _, _, _, _, _, rfl⟩
          · rw [hid_new p5', nms_snoc, ← List.append_assoc, eN, List.map_append]; rfl
          · rw [List.length_append, hGi]; rfl
          · intro k g' hk
            by_cases hkl : k < G.length
            · rw [List.getElem?_append_left hkl] at hk; exact hGw k g' hk
            · rw [List.getElem?_append_right (by omega)] at hk
              have hk0 : k - G.length = 0 := by
                cases e : k - G.length with
                | zero => rfl
                | succ n => rw [e] at hk; exact nomatch hk
              rw [hk0] at hk
              have : k = i := by omega
              subst this
              cases hk
              exact ⟨rfl, by show ps.length ≤ 3; omega, by rw [eN]; exact hpN, hbl, hRj, hRw⟩
    · rintro σ H8 ⟨X8, q3, q4, q5, ga, G, q6, hG, hGi, hGw, x2, x7, x8, x9, x10, rfl⟩
      rw [Int.toNat_natCast] at hGi q5
      have lN : (ins ++ rgs ++ (List.range ng).map (nm "g")).length ≤ 21 := by
        rw [List.length_append, List.length_append, List.length_map, List.length_range]; omega
      have lN0 : 0 < (ins ++ rgs ++ (List.range ng).map (nm "g")).length := by
        rw [List.length_append, List.length_append]; omega
      generalize eN : ins ++ rgs ++ (List.range ng).map (nm "g") = N at *
      -- regs
      refine ⟨_, rfl, L4, rfl, ⟨_, SqL.of (hid_get q4)⟩, fun L11 nL11 => wk_list (K := K) (a := L4) (xs := rgs.map V.str)
        (fun j H' => Px p a H8 H' ∧ ∃ (ra : List Addr) (R : List RegD), hid p H' L11 = some (.lst (ra.map V.ref)) ∧ All2 (RegAt H') ra R ∧ R.map (·.name) = rgs.take j ∧ ∀ r ∈ R, RegWf r ∧ r.net ∈ N)
        ⟨(Px.refl X8.pool).new nL11, [], [], hid_new (X8.pool.ne nL11), .nil, (by rw [List.take_zero]; rfl), (fun _ h => nomatch h)⟩ (fun j H' _ g => SqL.of (g.1.at_ q4)) ?_ ?_⟩
      · rintro j x H9 hx ⟨X9, ra, R, hra, hR, hRn, hRw⟩
        have hj : j < rgs.length := by have := (List.getElem?_eq_some_iff.mp hx).1; rw [List.length_map] at this; exact this
        obtain rfl : x = .str rgs[j] := by rw [strV_at hj] at hx; exact (Option.some.inj hx).symm
        refine ⟨rfl, tYes_in ⟨_, rfl, _, rfl, _, rfl, _, rfl, _, rfl, _, _, rfl, .inl (SqL.of (X9.at_ q5)), p, a, N.length, by rw [List.length_map]; rfl, by omega, by omega, X9.pool, fun u H10 hu X10 _ => ?_⟩⟩
        have hu' : u < N.length := by omega
        refine ⟨_, _, _, _, rfl, rfl, SqL.of ((X9.trans X10).at_ q5), atI_nat (strV_at hu'), p, a, rgs[j], N[u], rfl, X10.pool, fun y r H11 X11 ny hr hn1 hn2 hw => ?_⟩
        have Z := X10.trans X11
        have hra' := Z.get hra
        refine ⟨_, hid_get hra', sz_lt (by rw [List.length_map, hR.1]; have := congrArg List.length hRn; rw [List.length_map, List.length_take] at this; omega), (X9.trans Z).mut nL11, ra ++ [y], R ++ [r], ?_, ?_, ?_, ?_⟩
        · rw [hid_new (X8.pool.ne nL11), List.map_append]; rfl
        · exact ((hR.imp fun _ _ z => z.te (TEx.px Z)).snoc hr).imp fun _ _ z => z.te (TEx.mut (hid_get hra'))
        · rw [List.map_append, hRn, List.take_add_one, List.getElem?_eq_getElem hj, ← hn1]; rfl
        · intro r' hr'
          rcases List.mem_append.mp hr' with z | z
          · exact hRw r' z
          · rw [List.mem_singleton.mp z]; exact ⟨hw, by rw [hn2]; exact List.getElem_mem hu'⟩
      rintro H9 ⟨X9, ra, R, hra, hR, hRn, hRw⟩
      rw [List.length_map, List.take_length] at hRn
      -- outputs
      refine ⟨_, rfl, p, a, 4, rfl, by decide, by decide, X9.pool, fun nq H10 hnq X10 _ => ⟨_, rfl, by omega, by omega, fun L12 nL12 => lc_range (lo := 0) (n := ((nq : Nat) : Int).toNat)
        (fun j H' => Px p a H10 H' ∧ ∃ (oa : List Addr) (O : List (Str × Str)), hid p H' L12 = some (.lst (oa.map V.ref)) ∧ All2 (OutAt H') oa O ∧ O.map (·.1) = (List.range j).map (nm "p") ∧ ∀ o ∈ O, o.2 ∈ N)
        ⟨(Px.refl X10.pool).new nL12, [], [], hid_new (X10.pool.ne nL12), .nil, rfl, (fun _ h => nomatch h)⟩ ?_ ?_⟩⟩
      · rintro j H11 hj ⟨X11, oa, O, hoa, hO, hOn, hOw⟩
        have hs := nm_read nmp_str (k := j) (by omega)
        have ej : (0 : Int) + (j : Int) = (j : Int) := Int.zero_add _
        rw [ej]
        have Z11 := (X9.trans X10).trans X11
        refine ⟨rfl, tYes_in ⟨_, rfl, _, rfl, hs.1, _, _, rfl, rfl, hs.2, _, rfl, _, rfl, _, rfl, _, _, rfl, .inl (SqL.of (Z11.at_ q5)), p, a, N.length, by rw [List.length_map]; rfl, by omega, by omega, X11.pool, fun u H12 hu X12 _ => ?_⟩⟩
        have hu' : u < N.length := by omega
        refine ⟨_, _, _, _, rfl, rfl, SqL.of ((Z11.trans X12).at_ q5), atI_nat (strV_at hu'), (by show 2 ≤ sizeLine; decide), fun e ne => ?_⟩
        have Z := X12.new (o := .tup [.str (("p" : Str) ++ Str.ofString (toString ((j : Nat) : Int))), .str N[u]]) ne
        have hoa' := Z.get hoa
        refine ⟨_, hid_get hoa', sz_lt (by rw [List.length_map, hO.1]; have := congrArg List.length hOn; rw [List.length_map, List.length_map, List.length_range] at this; omega), (X11.trans Z).mut nL12, oa ++ [e], O ++ [(nm "p" j, N[u])], ?_, ?_, ?_, ?_⟩
        · rw [hid_new (X10.pool.ne nL12), List.map_append]; rfl
        · exact ((hO.imp fun _ _ z => TEx.px Z _ _ z).snoc (show OutAt _ e (nm "p" j, N[u]) from upd_same)).imp fun _ _ z => TEx.mut (hid_get hoa') _ _ z
        · rw [List.map_append, hOn, nms_snoc]; rfl
        · intro o ho
          rcases List.mem_append.mp ho with z | z
          · exact hOw o z
          · rw [List.mem_singleton.mp z]; exact List.getElem_mem hu'
      rintro H11 ⟨X11, oa, O, hoa, hO, hOn, hOw⟩
      rw [Int.toNat_natCast] at hOn
      have Z11 := X9.trans (X10.trans X11)
      have T11 : TEx H9 H11 := TEx.px (X10.trans X11)
      refine ⟨_, rfl, _, _, rfl, .inl ⟨SqL.of (Z11.at_ q3), fun it nit => ?_⟩⟩
      have X12 := (Px.refl X11.pool).new (o := .tup (ins.map V.str)) nit
      have hit : upd H11 it (.tup (ins.map V.str)) it = some (.tup (ins.map V.str)) := upd_same
      generalize upd H11 it (.tup (ins.map V.str)) = H12 at *
      have hga12 := (Z11.trans X12).get q6
      refine ⟨_, rfl, _, rfl, p, a, L6, ga.map V.ref, rfl, X12.pool, hga12, by rw [List.length_map, hG.1]; omega, fun o ys H13 X13 no ho hperm => ?_⟩
      obtain ⟨gb, GB, rfl, hGB, hGp⟩ := perm_refs (hG.imp fun _ _ z => z.te (TEx.px (Z11.trans (X12.trans X13)))) hperm
      refine ⟨_, _, rfl, .inl ⟨SqL.of ho, fun gt ngt => ?_⟩⟩
      have X14 := X13.new (o := .tup (gb.map V.ref)) ngt
      have hgt : upd H13 gt (.tup (gb.map V.ref)) gt = some (.tup (gb.map V.ref)) := upd_same
      have T14 : TEx H13 (upd H13 gt (.tup (gb.map V.ref))) := TEx.new ngt
      generalize upd H13 gt (.tup (gb.map V.ref)) = H14 at *
      have Y14 := X12.trans X14
      refine ⟨_, rfl, _, _, rfl, .inl ⟨SqL.of (hid_get (Y14.get ((X10.trans X11).get hra))), fun rt nrt => ?_⟩⟩
      have X15 := Y14.new (o := .tup (ra.map V.ref)) nrt
      have hrt : upd H14 rt (.tup (ra.map V.ref)) rt = some (.tup (ra.map V.ref)) := upd_same
      have T15 : TEx H14 (upd H14 rt (.tup (ra.map V.ref))) := TEx.new nrt
      generalize upd H14 rt (.tup (ra.map V.ref)) = H15 at *
      refine ⟨_, rfl, _, _, rfl, .inl ⟨SqL.of (hid_get (X15.get hoa)), fun ot not => ?_⟩⟩
      have X16 := X15.new (o := .tup (oa.map V.ref)) not
      have hot : upd H15 ot (.tup (oa.map V.ref)) ot = some (.tup (oa.map V.ref)) := upd_same
      have T16 : TEx H15 (upd H15 ot (.tup (oa.map V.ref))) := TEx.new not
      generalize upd H15 ot (.tup (oa.map V.ref)) = H16 at *
      refine ⟨(by show 4 ≤ sizeLine; decide), fun c nc => ?_⟩
      have T17 : TEx H16 (upd H16 c (.tup [.ref it, .ref gt, .ref rt, .ref ot])) := TEx.new nc
      have T1114 := TEx.px Y14
      have T1117 := TEx.px X16
      refine q c ⟨ins, GB, R, O⟩ G it gt rt ot gb ra oa _ ((X8.trans (Z11.trans X16)).new nc) ⟨upd_same, ?_, ?_, ?_, ?_, ?_, ?_, ?_⟩ ⟨?_, ?_, ?_, ?_, ?_, ?_, ?_, ?_⟩
      · exact T17 _ _ (T16 _ _ (T15 _ _ (T14 _ _ (TEx.px X13 _ _ hit))))
      · exact T17 _ _ (T16 _ _ (T15 _ _ hgt))
      · exact T17 _ _ (T16 _ _ hrt)
      · exact T17 _ _ hot
      · exact hGB.imp fun _ _ z => z.te (T14.trans (T15.trans (T16.trans T17)))
      · exact hR.imp fun _ _ z => z.te (T11.trans (T1117.trans T17))
      · exact hO.imp fun _ _ z => (T1117.trans T17) _ _ z
      · exact ⟨na + 1, by omega, by omega, eIns.symm⟩
      · exact ⟨nb, by omega, hRn.trans eRgs.symm⟩
      · show G.length ≤ most
        omega
      · intro k g hk
        have := hGw k g hk
        show GateWf (ins ++ R.map (·.name) ++ _) k g
        rw [hRn]; exact this
      · exact hGp
      · intro r hr
        show RegWf r ∧ r.net ∈ ins ++ R.map (·.name) ++ (List.range G.length).map (nm "g")
        rw [hRn, hGi, eN]; exact hRw r hr
      · exact ⟨nq, by omega, hOn⟩
      · intro o ho
        show o.2 ∈ ins ++ R.map (·.name) ++ (List.range G.length).map (nm "g")
        rw [hRn, hGi, eN]; exact hOw o ho
end
end G
namespace G
open PySem PySem.Spec PyProof.Rows L2
/-! ## an order in which each comes behind what it needs: the mathematics -/
theorem nodup_len : ∀ (n : Nat) (l : List Nat), l.Nodup → (∀ k ∈ l, k < n) → l.length ≤ n
  | 0, l, _, h => by
    cases l with
    | nil => exact Nat.le_refl _
    | cons x l => exact absurd (h x (List.mem_cons_self ..)) (Nat.not_lt_zero _)
  | n + 1, l, nd, h => by
    have h1 := nodup_len n (l.filter (· ≠ n)) (nd.filter _) fun k hk => by
      obtain ⟨a, b⟩ := List.mem_filter.mp hk
      have := h k a
      have : k ≠ n := of_decide_eq_true b
      omega
    by_cases hn : n ∈ l
    · have h2 : (l.filter (· ≠ n)).length + 1 = l.length := by
        have e : l.filter (· ≠ n) = l.erase n := by
          rw [nd.erase_eq_filter n]
          refine List.filter_congr fun x _ => ?_
          by_cases h : x = n
          · rw [decide_eq_false fun z => z h, h]; simp
          · rw [decide_eq_true h]; simp [h]
        rw [e, List.length_erase_of_mem hn]
        have := List.length_pos_of_mem hn
        omega
      omega
    · have e : l.filter (· ≠ n) = l := List.filter_eq_self.mpr fun k hk => decide_eq_true fun z => hn (z ▸ hk)
      rw [e] at h1
      omega
def leftN (N : List (List Nat)) (ord : List Nat) (k : Nat) : Nat := ((N.getD k []).filter fun o => decide (o ∉ ord)).length
theorem left_snoc {N : List (List Nat)} {ord : List Nat} {k f : Nat} (h : k ∉ ord) : leftN N ord f = leftN N (ord ++ [k]) f + (N.getD f []).count k := by
  unfold leftN
  generalize N.getD f [] = l
  induction l with
  | nil => rfl
  | cons x l ih =>
    rw [List.filter_cons, List.filter_cons, List.count_cons]
    by_cases e : x = k
    · subst e
      have h1 : decide (x ∉ ord) = true := decide_eq_true h
      have h2 : decide (x ∉ ord ++ [x]) = false := decide_eq_false fun z => z (List.mem_append_right _ (List.mem_singleton.mpr rfl))
      rw [h1, h2, if_pos rfl, if_neg Bool.false_ne_true, if_pos (beq_self_eq_true x), List.length_cons, ih]
      omega
    · have h3 : (x == k) = false := by
        cases hh : x == k with
        | false => rfl
        | true => exact absurd (eq_of_beq hh) e
      rw [h3, if_neg Bool.false_ne_true, Nat.add_zero]
      have h4 : (x ∉ ord ++ [k]) ↔ x ∉ ord := by
        rw [List.mem_append, List.mem_singleton]
        exact ⟨fun z y => z (.inl y), fun z y => y.elim z e⟩
      by_cases h5 : x ∉ ord
      · rw [decide_eq_true h5, decide_eq_true (h4.mpr h5), if_pos rfl, if_pos rfl, List.length_cons, List.length_cons, ih]
        omega
      · rw [decide_eq_false h5, decide_eq_false fun z => h5 (h4.mp z), if_neg Bool.false_ne_true, if_neg Bool.false_ne_true]
        exact ih
theorem left_zero {N : List (List Nat)} {ord : List Nat} {k : Nat} : leftN N ord k = 0 ↔ ∀ o ∈ N.getD k [], o ∈ ord := by
  unfold leftN
  rw [List.length_eq_zero_iff, List.filter_eq_nil_iff]
  constructor
  · intro h o ho
    have := h o ho
    exact Decidable.byContradiction fun z => this (decide_eq_true z)
  · intro h o ho z
    exact (of_decide_eq_true z) (h o ho)
/-- what stands before a pop: the order, what is ready, what is missing -/
structure KInv (N : List (List Nat)) (ord : List Nat) (rd : List Int) (ms : List Int) : Prop where
  len : ms.length = N.length
  nd : ord.Nodup
  ndr : rd.Nodup
  apart : ∀ k : Nat, k ∈ ord → (k : Int) ∉ rd
  lt : ∀ k ∈ ord, k < N.length
  ltr : ∀ z ∈ rd, ∃ k : Nat, z = k ∧ k < N.length ∧ leftN N ord k = 0
  cnt : ∀ k, k < N.length → ms.getD k 0 = (leftN N ord k : Int)
  rdy : ∀ k, k < N.length → leftN N ord k = 0 → k ∈ ord ∨ (k : Int) ∈ rd
  closed : ∀ (i k : Nat), ord[i]? = some k → ∀ o ∈ N.getD k [], o ∈ ord.take i
/-- .. while the followers of the one that was taken are told -/
structure KMid (N : List (List Nat)) (ord : List Nat) (k : Nat) (fol : List Nat) (j : Nat) (rd : List Int) (ms : List Int) : Prop where
  len : ms.length = N.length
  ndr : rd.Nodup
  apart : ∀ k' : Nat, k' ∈ ord ++ [k] → (k' : Int) ∉ rd
  ltr : ∀ z ∈ rd, ∃ f : Nat, z = f ∧ f < N.length ∧ leftN N ord f = (fol.take j).count f
  cnt : ∀ f, f < N.length → ms.getD f 0 = (leftN N ord f : Int) - ((fol.take j).count f : Nat)
  rdy : ∀ f, f < N.length → leftN N ord f = (fol.take j).count f → f ∈ ord ++ [k] ∨ (f : Int) ∈ rd
def FolOk (N : List (List Nat)) (k : Nat) (fol : List Nat) : Prop := (∀ f ∈ fol, f < N.length) ∧ ∀ f, f < N.length → fol.count f = (N.getD f []).count k
theorem KInv.pop {N : List (List Nat)} {ord : List Nat} {rd rd' ms : List Int} {k : Nat} {fol : List Nat} (I : KInv N ord rd ms) (hp : ((k : Int) :: rd').Perm rd) : KMid N ord k fol 0 rd' ms ∧ k < N.length ∧ k ∉ ord ∧ leftN N ord k = 0 := by
  have nd := hp.nodup_iff.mpr I.ndr
  obtain ⟨n1, n2⟩ := List.nodup_cons.mp nd
  have hk : (k : Int) ∈ rd := hp.mem_iff.mp (List.mem_cons_self ..)
  obtain ⟨k', e, hk1, hk2⟩ := I.ltr _ hk
  obtain rfl : k' = k := by omega
  refine ⟨⟨I.len, n2, fun k2 h2 h3 => ?_, fun z hz => ?_, fun f hf => ?_, fun f hf h0 => ?_⟩, hk1, fun z => I.apart _ z hk, hk2⟩
  · rcases List.mem_append.mp h2 with z | z
    · exact I.apart k2 z (hp.mem_iff.mp (List.mem_cons_of_mem _ h3))
    · rw [List.mem_singleton.mp z] at h3
      exact n1 h3
  · obtain ⟨f, e, h1, h2⟩ := I.ltr z (hp.mem_iff.mp (List.mem_cons_of_mem _ hz))
    exact ⟨f, e, h1, by rw [h2]; rfl⟩
  · rw [I.cnt f hf]
    show _ = _ - ((([] : List Nat).count f : Nat) : Int)
    rw [List.count_nil]
    omega
  · rcases I.rdy f hf (by rw [h0]; rfl) with z | z
    · exact .inl (List.mem_append_left _ z)
    · rcases List.mem_cons.mp (hp.mem_iff.mpr z) with y | y
      · exact .inl (List.mem_append_right _ (List.mem_singleton.mpr (by omega)))
      · exact .inr y
theorem closed_left {N : List (List Nat)} {ord : List Nat} (h : ∀ (i k : Nat), ord[i]? = some k → ∀ o ∈ N.getD k [], o ∈ ord.take i) {f : Nat} (hf : f ∈ ord) : leftN N ord f = 0 := by
  obtain ⟨i, hi, e⟩ := List.getElem_of_mem hf
  exact left_zero.mpr fun o ho => List.mem_of_mem_take (h i f (List.getElem?_eq_some_iff.mpr ⟨hi, e⟩) o ho)
theorem getD_setI {l : List Int} {p k : Nat} {v : Int} (hp : p < l.length) : (l.set p v).getD k 0 = if k = p then v else l.getD k 0 := by
  rw [List.getD_eq_getElem?_getD, List.getD_eq_getElem?_getD, List.getElem?_set]
  by_cases e : p = k
  · subst e
    rw [if_pos rfl, if_pos hp, if_pos rfl]; rfl
  · rw [if_neg e, if_neg (Ne.symm e)]
theorem KMid.step {N : List (List Nat)} {ord : List Nat} {k : Nat} {fol : List Nat} {j f : Nat} {rd ms : List Int} (cl : ∀ (i k : Nat), ord[i]? = some k → ∀ o ∈ N.getD k [], o ∈ ord.take i) (hk : k ∉ ord) (hk0 : leftN N ord k = 0) (F : FolOk N k fol) (M : KMid N ord k fol j rd ms) (hf : fol[j]? = some f) :
    f < N.length ∧ (ms.getD f 0 - 1 ≠ 0 → KMid N ord k fol (j + 1) rd (ms.set f (ms.getD f 0 - 1))) ∧ (ms.getD f 0 - 1 = 0 → ∀ rd', rd'.Perm ((f : Int) :: rd) → KMid N ord k fol (j + 1) rd' (ms.set f (ms.getD f 0 - 1))) := by
  have hmem := List.mem_of_getElem? hf
  have hfl := F.1 f hmem
  have etk : ∀ g, (fol.take (j + 1)).count g = (fol.take j).count g + if g = f then 1 else 0 := fun g => by
    rw [take_snoc1 hf, List.count_append]
    by_cases e : g = f
    · subst e; rw [if_pos rfl, List.count_singleton_self]
    · rw [if_neg e, List.count_eq_zero.mpr fun z => e (List.mem_singleton.mp z)]
  have ebound : (fol.take j).count f + 1 ≤ leftN N ord f := by
    have h1 := etk f
    rw [if_pos rfl] at h1
    have h2 : (fol.take (j + 1)).count f ≤ fol.count f := (List.take_sublist _ _).count_le f
    have h3 := F.2 f hfl
    have h4 := left_snoc (N := N) (f := f) hk
    omega
  have hms := M.cnt f hfl
  have hml : f < ms.length := by rw [M.len]; exact hfl
  have hfo : f ∉ ord ++ [k] := fun z => by
    rcases List.mem_append.mp z with y | y
    · have := closed_left cl y; omega
    · rw [List.mem_singleton.mp y] at ebound; omega
  have hfr : (f : Int) ∉ rd := fun z => by
    obtain ⟨g, e, _, h2⟩ := M.ltr _ z
    obtain rfl : g = f := by omega
    omega
  refine ⟨hfl, fun hne => ⟨by rw [List.length_set]; exact M.len, M.ndr, M.apart, fun z hz => ?_, fun g hg => ?_, fun g hg h0 => ?_⟩, fun heq rd' hp => ⟨by rw [List.length_set]; exact M.len, hp.nodup_iff.mpr (List.nodup_cons.mpr ⟨hfr, M.ndr⟩), fun k' h1 h2 => ?_, fun z hz => ?_, fun g hg => ?_, fun g hg h0 => ?_⟩⟩
  · obtain ⟨g, e, h1, h2⟩ := M.ltr z hz
    refine ⟨g, e, h1, ?_⟩
    rw [etk, if_neg fun y => hfr (by rw [← y, ← e]; exact hz)]
    exact h2
  · rw [getD_setI hml, etk]
    by_cases e : g = f
    · subst e; rw [if_pos rfl, if_pos rfl, hms]; omega
    · rw [if_neg e, if_neg e, M.cnt g hg]; omega
  · rw [etk] at h0
    by_cases e : g = f
    · subst e
      rw [if_pos rfl] at h0
      omega
    · rw [if_neg e] at h0
      exact M.rdy g hg h0
  · rcases List.mem_cons.mp (hp.mem_iff.mp h2) with y | y
    · have : k' = f := by omega
      exact hfo (this ▸ h1)
    · exact M.apart k' h1 y
  · rcases List.mem_cons.mp (hp.mem_iff.mp hz) with y | y
    · refine ⟨f, y, hfl, ?_⟩
      rw [etk, if_pos rfl]
      omega
    · obtain ⟨g, e, h1, h2⟩ := M.ltr z y
      refine ⟨g, e, h1, ?_⟩
      rw [etk, if_neg fun y' => hfr (by rw [← y', ← e]; exact y)]
      exact h2
  · rw [getD_setI hml, etk]
    by_cases e : g = f
    · subst e; rw [if_pos rfl, if_pos rfl, hms]; omega
    · rw [if_neg e, if_neg e, M.cnt g hg]; omega
  · rw [etk] at h0
    by_cases e : g = f
    · exact .inr (hp.mem_iff.mpr (by rw [e]; exact List.mem_cons_self ..))
    · rw [if_neg e] at h0
      exact (M.rdy g hg h0).imp id fun y => hp.mem_iff.mpr (List.mem_cons_of_mem _ y)
theorem KMid.done {N : List (List Nat)} {ord : List Nat} {k : Nat} {fol : List Nat} {rd rd0 ms0 ms : List Int} (I : KInv N ord rd0 ms0) (hk : k ∉ ord) (hkl : k < N.length) (hk0 : leftN N ord k = 0) (F : FolOk N k fol) (M : KMid N ord k fol fol.length rd ms) : KInv N (ord ++ [k]) rd ms := by
  have e : ∀ f, f < N.length → (leftN N ord f : Nat) = leftN N (ord ++ [k]) f + (fol.take fol.length).count f := fun f hf => by
    rw [List.take_length, F.2 f hf]
    exact left_snoc hk
  refine ⟨M.len, List.nodup_append.mpr ⟨I.nd, (by simp : [k].Nodup), fun a ha b hb => fun z => hk (by rw [← List.mem_singleton.mp hb, ← z]; exact ha)⟩, M.ndr, M.apart, fun f hf => ?_, fun z hz => ?_, fun f hf => ?_, fun f hf h0 => ?_, fun i f hi o ho => ?_⟩
  · rcases List.mem_append.mp hf with z | z
    · exact I.lt f z
    · rw [List.mem_singleton.mp z]; exact hkl
  · obtain ⟨f, e1, h1, h2⟩ := M.ltr z hz
    have := e f h1
    exact ⟨f, e1, h1, by omega⟩
  · have := e f hf
    rw [M.cnt f hf]; omega
  · have := e f hf
    exact M.rdy f hf (by omega)
  · by_cases hi' : i < ord.length
    · rw [List.getElem?_append_left hi'] at hi
      have := I.closed i f hi o ho
      rw [List.take_append_of_le_length (Nat.le_of_lt hi')]
      exact this
    · have hil := (List.getElem?_eq_some_iff.mp hi).1
      rw [List.length_append] at hil
      have : i < ord.length + 1 := hil
      have ei : i = ord.length := by omega
      subst ei
      rw [List.getElem?_append_right (Nat.le_refl _), Nat.sub_self] at hi
      cases hi
      rw [List.take_append_of_le_length (Nat.le_refl _), List.take_length]
      exact left_zero.mp hk0 o ho
/-- an order of all, each behind what it needs -/
structure Topo (N : List (List Nat)) (ord : List Nat) : Prop where
  nd : ord.Nodup
  lt : ∀ k ∈ ord, k < N.length
  all : ∀ k, k < N.length → k ∈ ord
  closed : ∀ (i k : Nat), ord[i]? = some k → ∀ o ∈ N.getD k [], o ∈ ord.take i
theorem KInv.topo {N : List (List Nat)} {ord : List Nat} {ms : List Int} (I : KInv N ord [] ms) (rank : Nat → Nat) (hr : ∀ k o, k < N.length → o ∈ N.getD k [] → o < N.length ∧ rank o < rank k) : Topo N ord := by
  refine ⟨I.nd, I.lt, ?_, I.closed⟩
  have : ∀ r k, rank k = r → k < N.length → k ∈ ord := by
    intro r
    induction r using Nat.strongRecOn with
    | _ r ih =>
      intro k hk hkl
      have h0 : leftN N ord k = 0 := left_zero.mpr fun o ho => by
        obtain ⟨h1, h2⟩ := hr k o hkl ho
        exact ih (rank o) (by omega) o rfl h1
      rcases I.rdy k hkl h0 with z | z
      · exact z
      · cases z
  exact fun k hk => this _ k rfl hk
end G
namespace G
open PySem PySem.Spec PyProof.Rows L2 Evl TL
/-! ## xs[i] += v -/
theorem get_list {X : Cx} : PGet X (rIxL X.K) := by
  intro pins s σ H o i v u Q I ro ri h
  obtain ⟨p, xs, i, z, rfl, rfl, hq, he, q⟩ := h
  cases ro
  obtain ⟨t, rfl⟩ := ri
  obtain ⟨its, r, pl, hz⟩ := I.list hq
  obtain ⟨j, h1, h2, h3, h4, h5⟩ := atI_get he
  obtain ⟨w, ew, rw'⟩ := r.get h2
  have hl := r.length
  have hn := line63
  have fin : EP X pins σ Q w s := ⟨z, H, I, rw', q⟩
  by_cases h0 : 0 ≤ i
  · have hj : i.toNat = j := by
      rw [seqIndex_of h0 h5] at h1
      exact Option.some.inj h1
    exact wpAny_getItem_list pl.isList h0 (by omega) (by rw [hj]; simpa using ew) fin
  · have hj : (i + (its.toArray.size : Int)).toNat = j := by
      rw [seqIndex_neg (by omega) h4] at h1
      rw [List.size_toArray, ← hl]
      exact Option.some.inj h1
    exact wpAny_getItem_list_neg pl.isList (by omega) (by rw [List.size_toArray] <;> omega) (by omega) (by rw [hj]; simpa using ew) fin
def natsV (l : List Nat) : List V := l.map fun n : Nat => V.int (n : Int)
theorem nats_get {l : List Nat} {j : Nat} {y : V} (h : (natsV l)[j]? = some y) : ∃ k, l[j]? = some k ∧ y = .int (k : Int) := by
  unfold natsV at h
  rw [List.getElem?_map] at h
  cases e : l[j]? with
  | none => rw [e] at h; cases h
  | some k => rw [e] at h; cases h; exact ⟨k, rfl, rfl⟩
theorem nats_len (l : List Nat) : (natsV l).length = l.length := List.length_map _
theorem nats_snoc (l : List Nat) (k : Nat) : natsV (l ++ [k]) = natsV l ++ [.int (k : Int)] := by unfold natsV; rw [List.map_append]; rfl
theorem at_int {l : List Int} {k : Int} {j : Nat} (h : k = (j : Int)) (hj : j < l.length) : atI (l.map V.int) k = some (.int (l.getD j 0)) := by
  subst h
  refine atI_nat ?_
  rw [List.getElem?_map, List.getD_eq_getElem?_getD, List.getElem?_eq_getElem hj]; rfl
/-- lists of lists, each its own object, new since H0 -/
structure Fols (H0 H : Hp) (L : Addr) (fa : List Addr) (F : List (List Nat)) : Prop where
  top : H L = some (.lst (fa.map V.ref))
  newL : H0 L = none
  nd : fa.Nodup
  new : ∀ b ∈ fa, H0 b = none
  ne : L ∉ fa
  at_ : All2 (fun b l => H b = some (.lst (natsV l))) fa F
theorem Fols.keep {H0 H H' : Hp} {L : Addr} {fa : List Addr} {F : List (List Nat)} (h : Fols H0 H L fa F) (k : ∀ b o, (b = L ∨ b ∈ fa) → H b = some o → H' b = some o) : Fols H0 H' L fa F :=
  ⟨k _ _ (.inl rfl) h.top, h.newL, h.nd, h.new, h.ne, h.at_.1, fun i b l hb hl => k _ _ (.inr (List.mem_of_getElem? hb)) (h.at_.2 i b l hb hl)⟩
theorem Fols.ex {H0 H H' : Hp} {L : Addr} {fa : List Addr} {F : List (List Nat)} (h : Fols H0 H L fa F) (e : Ex H H') : Fols H0 H' L fa F := h.keep fun b o _ z => e b o z
theorem Fols.put {H0 H : Hp} {L b : Addr} {fa : List Addr} {F : List (List Nat)} {i : Nat} {l : List Nat} (h : Fols H0 H L fa F) (hb : fa[i]? = some b) : Fols H0 (upd H b (.lst (natsV l))) L fa (F.set i l) := by
  have hm := List.mem_of_getElem? hb
  refine ⟨by rw [upd_ne fun z => h.ne (by rw [z]; exact hm)]; exact h.top, h.newL, h.nd, h.new, h.ne, by rw [List.length_set]; exact h.at_.1, fun j c m hc hm' => ?_⟩
  by_cases e : j = i
  · subst e
    rw [hb] at hc
    cases hc
    have hj : j < F.length := by rw [← h.at_.1]; exact (List.getElem?_eq_some_iff.mp hb).1
    rw [List.getElem?_set_self hj] at hm'
    cases hm'
    exact upd_same
  · rw [List.getElem?_set_ne (Ne.symm e)] at hm'
    have hbc : c ≠ b := fun z => by
      subst z
      have h1 := List.getElem?_eq_some_iff.mp hb
      have h2 := List.getElem?_eq_some_iff.mp hc
      obtain ⟨a1, a2⟩ := h1
      obtain ⟨b1, b2⟩ := h2
      exact e ((List.getElem_inj h.nd).mp (b2.trans a2.symm))
    rw [upd_ne hbc]
    exact h.at_.2 j c m hc hm'
/-- how often f stands among the followers of o, i rows and j of the next told -/
structure CntOk (N F : List (List Nat)) (i j : Nat) : Prop where
  len : F.length = N.length
  cnt : ∀ o, o < N.length → ∀ f, (F.getD o []).count f = if f < i then (N.getD f []).count o else if f = i then ((N.getD i []).take j).count o else 0
  lt : ∀ o, ∀ f ∈ F.getD o [], f < N.length
  few : ∀ o, (F.getD o []).length ≤ 100 * i + j
theorem getD_setL {l : List (List Nat)} {p k : Nat} {v : List Nat} (hp : p < l.length) : (l.set p v).getD k [] = if k = p then v else l.getD k [] := by
  rw [List.getD_eq_getElem?_getD, List.getD_eq_getElem?_getD, List.getElem?_set]
  by_cases e : p = k
  · subst e
    rw [if_pos rfl, if_pos hp, if_pos rfl]; rfl
  · rw [if_neg e, if_neg (Ne.symm e)]
theorem CntOk.step {N F : List (List Nat)} {i j o : Nat} (C : CntOk N F i j) (hi : i < N.length) (ho : (N.getD i [])[j]? = some o) (hol : o < N.length) : CntOk N (F.set o (F.getD o [] ++ [i])) i (j + 1) := by
  have hp : o < F.length := by rw [C.len]; exact hol
  refine ⟨by rw [List.length_set]; exact C.len, fun o' ho' f => ?_, fun o' f hf => ?_, fun o' => ?_⟩
  · rw [getD_setL hp, take_snoc1 ho, List.count_append]
    by_cases e : o' = o
    · subst e
      rw [if_pos rfl, List.count_append, C.cnt o' ho', List.count_singleton_self]
      by_cases h1 : f < i
      · rw [if_pos h1, if_pos h1, List.count_eq_zero (l := [i]) |>.mpr fun z => by have := List.mem_singleton.mp z; omega]; rfl
      · rw [if_neg h1, if_neg h1]
        by_cases h2 : f = i
        · subst h2
          rw [if_pos rfl, if_pos rfl, List.count_singleton_self]
        · rw [if_neg h2, if_neg h2, List.count_eq_zero (l := [i]) |>.mpr fun z => h2 (List.mem_singleton.mp z)]
    · rw [if_neg e, C.cnt o' ho', List.count_eq_zero (l := [o]) |>.mpr fun z => e (List.mem_singleton.mp z)]
      rfl
  · rw [getD_setL hp] at hf
    by_cases e : o' = o
    · rw [if_pos e] at hf
      rcases List.mem_append.mp hf with z | z
      · exact C.lt o f z
      · rw [List.mem_singleton.mp z]; exact hi
    · rw [if_neg e] at hf
      exact C.lt o' f hf
  · rw [getD_setL hp]
    by_cases e : o' = o
    · rw [if_pos e, List.length_append]
      have := C.few o
      show _ + 1 ≤ _
      omega
    · rw [if_neg e]
      have := C.few o'
      omega
theorem CntOk.row {N F : List (List Nat)} {i : Nat} (C : CntOk N F i (N.getD i []).length) (hl : (N.getD i []).length ≤ 100) : CntOk N F (i + 1) 0 := by
  refine ⟨C.len, fun o ho f => ?_, C.lt, fun o => by have := C.few o; omega⟩
  rw [C.cnt o ho, List.take_length, List.take_zero]
  by_cases h1 : f < i
  · rw [if_pos h1, if_pos (by omega)]
  · by_cases h2 : f = i
    · subst h2
      rw [if_neg h1, if_pos rfl, if_pos (by omega)]
    · rw [if_neg h1, if_neg h2, if_neg (by omega)]
      by_cases h3 : f = i + 1
      · rw [if_pos h3]; rfl
      · rw [if_neg h3]
theorem CntOk.fol {N F : List (List Nat)} (C : CntOk N F N.length 0) {k : Nat} (hk : k < N.length) : FolOk N k (F.getD k []) :=
  ⟨C.lt k, fun f hf => by rw [C.cnt k hk, if_pos hf]⟩
theorem nodup_lenI {n : Nat} {l : List Int} (nd : l.Nodup) (h : ∀ z ∈ l, ∃ k : Nat, z = k ∧ k < n) : l.length ≤ n := by
  have e : l = (l.map Int.toNat).map fun k : Nat => (k : Int) := by
    rw [List.map_map]
    conv => lhs; rw [← List.map_id l]
    refine List.map_congr_left fun z hz => ?_
    obtain ⟨k, rfl, _⟩ := h z hz
    rfl
  have nd' : (l.map Int.toNat).Nodup := by
    rw [e] at nd
    exact (List.pairwise_map.mp nd).imp fun hne z => hne (by rw [z])
  have := nodup_len n _ nd' fun k hk => by
    obtain ⟨z, hz, rfl⟩ := List.mem_map.mp hk
    obtain ⟨k', e', hk'⟩ := h z hz
    show z.toNat < n
    omega
  rw [List.length_map] at this
  exact this
/-- each is the least of those that were ready -/
def Gr (N : List (List Nat)) (ord : List Nat) : Prop := ∀ i k, ord[i]? = some k → ∀ f, f < N.length → f ∉ ord.take i → (∀ o ∈ N.getD f [], o ∈ ord.take i) → k ≤ f
theorem Gr.nil (N : List (List Nat)) : Gr N [] := fun i k h => by cases h
theorem Gr.snoc {N : List (List Nat)} {ord : List Nat} {k : Nat} (g : Gr N ord) (h : ∀ f, f < N.length → f ∉ ord → leftN N ord f = 0 → k ≤ f) : Gr N (ord ++ [k]) := fun i k' hi f hf hfo hfn => by
  by_cases hl : i < ord.length
  · rw [List.getElem?_append_left hl] at hi
    rw [List.take_append_of_le_length (by omega)] at hfo hfn
    exact g i k' hi f hf hfo hfn
  · have hil := (List.getElem?_eq_some_iff.mp hi).1
    rw [List.length_append] at hil
    have : i < ord.length + 1 := hil
    have ei : i = ord.length := by omega
    subst ei
    rw [List.getElem?_append_right (Nat.le_refl _), Nat.sub_self] at hi
    cases hi
    rw [List.take_append_of_le_length (Nat.le_refl _), List.take_length] at hfo hfn
    exact h f hf hfo (left_zero.mpr hfn)
/-- the least order, as far as it goes -/
structure LOrd (N : List (List Nat)) (ord : List Nat) : Prop where
  nd : ord.Nodup
  lt : ∀ k ∈ ord, k < N.length
  closed : ∀ (i k : Nat), ord[i]? = some k → ∀ o ∈ N.getD k [], o ∈ ord.take i
  full : ∀ k, k < N.length → (∀ o ∈ N.getD k [], o ∈ ord) → k ∈ ord
  least : Gr N ord
theorem LOrd.of {N : List (List Nat)} {ord : List Nat} {ms : List Int} (I : KInv N ord [] ms) (g : Gr N ord) : LOrd N ord :=
  ⟨I.nd, I.lt, I.closed, (fun k hk h => (I.rdy k hk (left_zero.mpr h)).elim id fun z => nomatch z), g⟩
theorem nd_take {ord : List Nat} (nd : ord.Nodup) {i k : Nat} (h : ord[i]? = some k) : k ∉ ord.take i := fun z => by
  obtain ⟨j, hj, e⟩ := List.getElem_of_mem z
  rw [List.length_take] at hj
  rw [List.getElem_take] at e
  obtain ⟨h1, h2⟩ := List.getElem?_eq_some_iff.mp h
  have := (List.getElem_inj nd).mp (e.trans h2.symm)
  omega
theorem LOrd.take_eq {N : List (List Nat)} {a b : List Nat} (A : LOrd N a) (B : LOrd N b) : ∀ i, i ≤ a.length → i ≤ b.length → a.take i = b.take i
  | 0, _, _ => by rw [List.take_zero, List.take_zero]
  | i + 1, ha, hb => by
    have ih := A.take_eq B i (by omega) (by omega)
    have e1 : a[i]? = some a[i] := List.getElem?_eq_getElem (by omega)
    have e2 : b[i]? = some b[i] := List.getElem?_eq_getElem (by omega)
    have l1 := A.least i _ e1 b[i] (B.lt _ (List.mem_of_getElem? e2)) (by rw [ih]; exact nd_take B.nd e2) (by rw [ih]; exact B.closed i _ e2)
    have l2 := B.least i _ e2 a[i] (A.lt _ (List.mem_of_getElem? e1)) (by rw [← ih]; exact nd_take A.nd e1) (by rw [← ih]; exact A.closed i _ e1)
    rw [List.take_add_one, List.take_add_one, ih, e1, e2, Nat.le_antisymm l1 l2]
theorem LOrd.len_le {N : List (List Nat)} {a b : List Nat} (A : LOrd N a) (B : LOrd N b) : b.length ≤ a.length := by
  rcases Nat.lt_or_ge a.length b.length with h | h
  · exfalso
    have e := A.take_eq B a.length (Nat.le_refl _) (by omega)
    rw [List.take_length] at e
    obtain ⟨z, e2⟩ : ∃ z, b[a.length]? = some z := ⟨_, List.getElem?_eq_getElem h⟩
    have hn := nd_take B.nd e2
    have hc := B.closed _ _ e2
    rw [← e] at hn hc
    exact hn (A.full _ (B.lt _ (List.mem_of_getElem? e2)) hc)
  · exact h
theorem LOrd.one {N : List (List Nat)} {a b : List Nat} (A : LOrd N a) (B : LOrd N b) : a = b := by
  have h1 := A.len_le B
  have h2 := B.len_le A
  have := A.take_eq B a.length (Nat.le_refl _) h2
  rw [List.take_length, List.take_of_length_le h1] at this
  exact this
structure TxtHq (mg : Str → Option Value) : Prop where
  len : mg "len" = none
  enumerate : mg "enumerate" = none
  pop : mg "heappop" = some (.builtin "_heapq.heappop")
  push : mg "heappush" = some (.builtin "_heapq.heappush")
section
variable {P : Program} {w : World} {K : PySem.W.Frag} {mg : Str → Option Value} {base : Heap}
def spLeast : Sp := fun vs H Q _ => ∃ (nl : Addr) (na : List Addr) (N : List (List Nat)), vs = [.ref nl] ∧ H nl = some (.lst (na.map V.ref)) ∧ All2 (fun b l => H b = some (.lst (natsV l))) na N ∧ N.length ≤ 200 ∧ (∀ k, (N.getD k []).length ≤ 100) ∧
  (∀ k o, k < N.length → o ∈ N.getD k [] → o < N.length) ∧ ∀ (q : Addr) (H' : Hp) (ord : List Nat), Ex H H' → H q = none → H' q = some (.lst (natsV ord)) → LOrd N ord → Q (.ref q) H'
theorem sc_least_order : FnScope ["needed", "followers", "k", "others", "other", "missing", "ready", "order", "follower", "_", "many"] ["needed"] (defScope s_least_order) := ⟨rfl, rfl, rfl, by decide +kernel, rfl, by decide +kernel, by decide +kernel⟩
theorem ok_least_order (D : Dfd K mg "least_order" s_least_order ["needed"]) (T : TxtHq mg) : Has P w K mg base 1 "least_order" ["needed"] spLeast := by
  have y_heappop := T.pop
  have y_heappush := T.push
  refine D.has fun f fd F => F.ok sc_least_order (fun vs H Q E h => ?_) (fun cdv A outer s H vs Q E hr h => ?_)
  · obtain ⟨nl, na, N, rfl, _⟩ := h
    rfl
  · obtain ⟨nl, na, N, rfl, hnl, hN, hn, hw, hrk, q⟩ := h
    refine ⟨_, (pss_cons (ps_setLc (i := 1) (own := [("_", 9)]) (g := gName 9) (tt := tYes) rfl sc_least_order.nd rfl rfl (sw_true rfl rfl rfl (by decide +kernel)) (pi_list (pv 0)) (blkOk_by (N := ["needed", "followers", "k", "others", "other", "missing", "ready", "order", "follower", "_", "many"]) (sc := defScope s_least_order) (own := [("_", 9)]) (by decide +kernel)) (fun _ _ _ _ _ => (pg_name (i := 9) sc_least_order.nd rfl (.inl rfl))) (fun _ _ _ _ _ => pts_nil) (fun _ _ _ _ _ => (pe_lst pa_nil)))
    (pss_cons (ps_for PassesOwn.never rfl (pi_enum (by rfl) T.enumerate (pa_cons (pv 0) pa_nil)) (pg_tup rfl (pgs_cons (pg_name (i := 2) sc_least_order.nd rfl (.inl rfl)) (pgs_cons (pg_name (i := 3) sc_least_order.nd rfl (.inl rfl)) pgs_nil)))
      (pss_one (ps_for PassesOwn.never rfl (pi_list (pv 3)) (pg_name (i := 4) sc_least_order.nd rfl (.inl rfl))
        (pss_one (ps_expr (pe_bm PySem.F.plainAttrs_list PySem.F.slot_list_append PySem.F.type_list_append mt_append (pe_ix ix_list (pv 1) (pv 4) (fun _ _ => rfl)) (pa_cons (pv 2) pa_nil)))))))
    (pss_cons (ps_setLc (i := 5) (own := [("others", 3)]) (g := gName 3) (tt := tYes) rfl sc_least_order.nd rfl rfl (sw_true rfl rfl rfl (by decide +kernel)) (pi_list (pv 0)) (blkOk_by (N := ["needed", "followers", "k", "others", "other", "missing", "ready", "order", "follower", "_", "many"]) (sc := defScope s_least_order) (own := [("others", 3)]) (by decide +kernel)) (fun _ _ _ _ _ => (pg_name (i := 3) sc_least_order.nd rfl (.inl rfl))) (fun _ _ _ _ _ => pts_nil) (fun _ _ _ _ _ => (pe_callB (kLen (K := K) rfl) (by rfl) T.len (by decide +kernel) (pa_cons (pv 3) pa_nil))))
    (pss_cons (ps_setLc (i := 6) (own := [("k", 2), ("many", 10)]) (g := gTup K 2 (gCons (gName 2) (gCons (gName 10) gNil))) (tt := _) rfl sc_least_order.nd rfl rfl (sw_true rfl rfl rfl (by decide +kernel)) (pi_enum (by rfl) T.enumerate (pa_cons (pv 5) pa_nil)) (blkOk_by (N := ["needed", "followers", "k", "others", "other", "missing", "ready", "order", "follower", "_", "many"]) (sc := defScope s_least_order) (own := [("k", 2), ("many", 10)]) (by decide +kernel)) (fun _ _ _ _ _ => (pg_tup rfl (pgs_cons (pg_name (i := 2) sc_least_order.nd rfl (.inl rfl)) (pgs_cons (pg_name (i := 10) sc_least_order.nd rfl (.inl rfl)) pgs_nil)))) (fun _ _ _ _ _ => pts_one (pt_cmpR op_eq (pv 10) pe_int (nomark _))) (fun _ _ _ _ _ => (pv 2)))
    (pss_cons (ps_set (i := 7) sc_least_order.nd rfl (.inl rfl) (pe_lst pa_nil))
    (pss_cons (ps_while PassesOwn.never (pt_truth (pv 6) (by intro _; rfl))
      (pss_cons (ps_set (i := 2) sc_least_order.nd rfl (.inl rfl) (pe_callMB (HQ.cr_pop rfl) (by rfl) y_heappop (pa_cons (pv 6) pa_nil)))
      (pss_cons (ps_expr (pe_bm PySem.F.plainAttrs_list PySem.F.slot_list_append PySem.F.type_list_append mt_append (pv 7) (pa_cons (pv 2) pa_nil)))
      (pss_one (ps_for PassesOwn.never rfl (pi_list (pe_ix ix_list (pv 1) (pv 2) (fun _ _ => rfl))) (pg_name (i := 8) sc_least_order.nd rfl (.inl rfl))
        (pss_cons (ps_augS (pv 5) (pv 8) get_list pe_int ip_sub set_list)
        (pss_one (ps_if (pt_cmpR op_eq (pe_ix ix_list (pv 5) (pv 8) (fun _ _ => rfl)) pe_int (nomark _))
          (pss_one (ps_expr (pe_callMB (HQ.cr_push rfl) (by rfl) y_heappush (pa_cons (pv 6) (pa_cons (pv 8) pa_nil)))))
          pss_nil))))))))
    (pss_one (ps_ret (pv 7))))))))), ?_⟩
    have hnn : na.length = N.length := hN.1
    have hal : (na.map V.ref).length = N.length := by rw [List.length_map, hnn]
    -- followers
    refine ⟨_, rfl, nl, rfl, ⟨_, SqL.of hnl⟩, fun FL nFL => wk_list (K := K) (a := nl) (xs := na.map V.ref) (fun j H' => Ex H H' ∧ ∃ fa, Fols H H' FL fa (List.replicate j [])) ⟨Ex.new nFL, [], upd_same, nFL, List.nodup_nil, (fun _ z => nomatch z), (fun z => nomatch z), .nil⟩ (fun j H' _ z => SqL.of (z.1 _ _ hnl)) ?_ ?_⟩
    · rintro j y H1 hy ⟨E1, fa, hF⟩
      have hj : j < N.length := by rw [← hal]; exact (List.getElem?_eq_some_iff.mp hy).1
      refine ⟨rfl, tYes_in ?_⟩
      simp only [wipe, _root_.L2.start, List.map_cons, List.map_nil, List.length_cons, List.length_nil, Nat.reduceAdd, Nat.reduceSub, List.replicate_succ, List.replicate_zero, List.cons_append, List.nil_append, List.set_cons_zero, List.set_cons_succ]
      refine ⟨Nat.zero_le _, fun b nb => ?_⟩
      have nbL : FL ≠ b := ne_of_none hF.top nb
      have hfl : fa.length = j := by rw [hF.at_.1, List.length_replicate]
      have hF1 := hF.ex (Ex.new (o := .lst []) nb)
      have hbf : b ∉ fa := fun z => by
        obtain ⟨i, hi, e⟩ := List.getElem_of_mem z
        obtain ⟨l, _, hb⟩ := hF.at_.at_ (List.getElem?_eq_some_iff.mpr ⟨hi, e⟩)
        rw [nb] at hb; cases hb
      refine ⟨_, hF1.top, sz_lt (by rw [List.length_map]; omega), (E1.trans (Ex.new nb)).mut nFL, fa ++ [b], by rw [upd_same, List.map_append]; rfl, nFL, List.nodup_append.mpr ⟨hF.nd, by simp, fun c hc d hd => fun z => hbf (by rw [← List.mem_singleton.mp hd, ← z]; exact hc)⟩, fun c hc => ?_, fun z => ?_, ?_⟩
      · rcases List.mem_append.mp hc with z | z
        · exact hF.new c z
        · rw [List.mem_singleton.mp z]; exact fresh_back E1 nb
      · rcases List.mem_append.mp z with y | y
        · exact hF.ne y
        · exact nbL (List.mem_singleton.mp y)
      · show All2 _ (fa ++ [b]) (List.replicate (j + 1) [])
        rw [List.replicate_succ']
        have hA : All2 (fun c l => upd (upd H1 b (.lst [])) FL (.lst (fa.map V.ref ++ [.ref b])) c = some (.lst (natsV l))) fa (List.replicate j []) := ⟨hF1.at_.1, fun i c l h1 h2 => by
          show upd (upd H1 b (.lst [])) FL (.lst (fa.map V.ref ++ [.ref b])) c = some (.lst (natsV l))
          rw [upd_ne fun y => hF.ne (by rw [← y]; exact List.mem_of_getElem? h1)]
          exact hF1.at_.2 i c l h1 h2⟩
        exact hA.snoc (by rw [upd_ne (Ne.symm nbL)]; exact upd_same)
    rintro H1 ⟨E1, fa, hF⟩
    rw [hal] at hF
    have hfn : fa.length = N.length := by rw [hF.at_.1, List.length_replicate]
    have C0 : CntOk N (List.replicate N.length []) 0 0 := by
      have g : ∀ o : Nat, (List.replicate N.length ([] : List Nat)).getD o [] = [] := fun o => by
        rw [List.getD_eq_getElem?_getD, List.getElem?_replicate]
        by_cases z : o < N.length
        · rw [if_pos z]; rfl
        · rw [if_neg z]; rfl
      refine ⟨List.length_replicate, fun o _ f => ?_, fun o f hf => ?_, fun o => ?_⟩
      · rw [g, if_neg (Nat.not_lt_zero f), List.take_zero, List.count_nil, List.count_nil]
        by_cases z : f = 0
        · rw [if_pos z]
        · rw [if_neg z]
      · rw [g] at hf; cases hf
      · rw [g]; exact Nat.zero_le _
    have hno : ∀ k b, na[k]? = some b → H b = some (.lst (natsV (N.getD k []))) := fun k b hb => by
      obtain ⟨l, hl, h1⟩ := hN.at_ hb
      rw [List.getD_eq_getElem?_getD, hl]; exact h1
    -- who waits for whom
    refine ⟨_, rfl, nl, _, rfl, SqL.of (E1 _ _ hnl), for_it walk_enum
      (fun i σ H' => Ex H H' ∧ ∃ (F : List (List Nat)) (z2 z3 z4 : Option V), Fols H H' FL fa F ∧ CntOk N F i 0 ∧ σ = [some (.ref nl), some (.ref FL), z2, z3, z4, none, none, none, none, none, none])
      ⟨E1, _, _, _, _, hF, C0, rfl⟩ (fun i σ H' _ g => SqL.of (g.1 _ _ hnl)) ?_ ?_⟩
    · rintro i y σ H2 H3 hi ⟨E2, F, z2, z3, z4, hF2, C2, rfl⟩ ⟨T1, x0, y0, rfl, nT, rfl, hx0, hy0⟩
      rw [hal] at hi
      cases hx0
      obtain ⟨b, hb, rfl⟩ := refs_get hy0
      have E3 : Ex H2 (upd H2 T1 (.tup [.int (i : Nat), .ref b])) := Ex.new nT
      refine ⟨T1, _, rfl, SqT.of upd_same, rfl, _, _, rfl, _, _, rfl, rfl, ?_⟩
      have hF3 := hF2.ex E3
      generalize upd H2 T1 (.tup [.int (i : Nat), .ref b]) = H3 at *
      have E03 := E2.trans E3
      have hb0 := hno i b hb
      simp only [wipe, _root_.L2.start, List.map_cons, List.map_nil, List.length_cons, List.length_nil, Nat.reduceAdd, Nat.reduceSub, List.replicate_succ, List.replicate_zero, List.cons_append, List.nil_append, List.set_cons_zero, List.set_cons_succ]
      refine ⟨_, rfl, b, rfl, ⟨_, SqL.of (E03 _ _ hb0)⟩, for_list (K := K) (a := b) (xs := natsV (N.getD i []))
        (fun j σ H' => Ex H H' ∧ ∃ (F : List (List Nat)) (z4 : Option V), Fols H H' FL fa F ∧ CntOk N F i j ∧ σ = [some (.ref nl), some (.ref FL), some (.int (i : Nat)), some (.ref b), z4, none, none, none, none, none, none])
        ⟨E03, F, z4, hF3, C2, rfl⟩ (fun j σ H' _ g => SqL.of (g.1 _ _ hb0)) ?_ ?_⟩
      · rintro j y σ H4 hy ⟨E4, F, z4, hF4, C4, rfl⟩
        obtain ⟨o, ho, rfl⟩ := nats_get hy
        have hol := hrk i o hi (List.mem_of_getElem? ho)
        have hof : o < fa.length := by omega
        have hfb : fa[o]? = some fa[o] := List.getElem?_eq_getElem hof
        obtain ⟨l, hl, hlb⟩ := hF4.at_.at_ hfb
        have hlF : F.getD o [] = l := by rw [List.getD_eq_getElem?_getD, hl]; rfl
        have hll : l.length ≤ 100 * i + j := by rw [← hlF]; exact C4.few o
        have hj : j < 100 := by
          have := (List.getElem?_eq_some_iff.mp ho).1
          have := hw i
          omega
        refine ⟨_, rfl, _, rfl, FL, _, _, .ref fa[o], rfl, rfl, SqL.of hF4.top, at_of (j := o) rfl (by rw [List.getElem?_map, hfb]; rfl), .inl ⟨rfl, _, SqL.of hlb⟩, _, rfl, fa[o], _, .int (i : Nat), rfl, rfl, hlb, sz_lt (by rw [nats_len]; omega), E4.mut (hF4.new _ (List.mem_of_getElem? hfb)), _, _, ?_, C4.step hi ho hol, rfl⟩
        rw [← nats_snoc, hlF]
        exact hF4.put hfb
      · rintro σ H4 ⟨E4, F, z4, hF4, C4, rfl⟩
        rw [nats_len] at C4
        exact ⟨E4, F, _, _, _, hF4, C4.row (hw i), rfl⟩
    rintro σ H2 ⟨E2, F, z2, z3, z4, hF2, C2, rfl⟩
    rw [hal] at C2
    -- how many are missing
    refine ⟨_, rfl, nl, rfl, ⟨_, SqL.of (E2 _ _ hnl)⟩, fun ML nML => wk_list (K := K) (a := nl) (xs := na.map V.ref) (fun j H' => Ex H2 H' ∧ H' ML = some (.lst (((N.take j).map fun l => (l.length : Int)).map V.int))) ⟨Ex.new nML, upd_same⟩ (fun j H' _ z => SqL.of ((E2.trans z.1) _ _ hnl)) ?_ ?_⟩
    · rintro j y H3 hy ⟨E3, hM⟩
      obtain ⟨b, hb, rfl⟩ := refs_get hy
      obtain ⟨l, hl, hlb⟩ := hN.at_ hb
      have hj : j < N.length := (List.getElem?_eq_some_iff.mp hl).1
      refine ⟨rfl, tYes_in ?_⟩
      simp only [wipe, _root_.L2.start, List.map_cons, List.map_nil, List.length_cons, List.length_nil, Nat.reduceAdd, Nat.reduceSub, List.replicate_succ, List.replicate_zero, List.cons_append, List.nil_append, List.set_cons_zero, List.set_cons_succ]
      refine ⟨_, rfl, b, _, rfl, .inl (SqL.of ((E2.trans E3) _ _ hlb)), _, hM, sz_lt (by rw [List.length_map, List.length_map, List.length_take]; omega), E3.mut nML, ?_⟩
      rw [upd_same, take_snoc1 hl, List.map_append, List.map_append, nats_len]; rfl
    rintro H3 ⟨E3, hM⟩
    rw [hal, List.take_length] at hM
    have F2' : ∀ b, (b = FL ∨ b ∈ fa) → ∃ o, H2 b = some o := fun b hb => by
      rcases hb with z | z
      · exact ⟨_, by rw [z]; exact hF2.top⟩
      · obtain ⟨i, hi, e⟩ := List.getElem_of_mem z
        obtain ⟨l, _, h1⟩ := hF2.at_.at_ (List.getElem?_eq_some_iff.mpr ⟨hi, e⟩)
        exact ⟨_, h1⟩
    have E03 := E2.trans E3
    have hF3 := hF2.ex E3
    -- what is ready
    have hMl : ((N.map fun l => (l.length : Int)).map V.int).length = N.length := by rw [List.length_map, List.length_map]
    refine ⟨_, rfl, ML, _, rfl, SqL.of hM, fun RL nRL => wk_it walk_enum (fun j H' => Ex H3 H' ∧ H' RL = some (.lst (natsV ((List.range j).filter fun k => decide (leftN N [] k = 0))))) ⟨Ex.new nRL, upd_same⟩ (fun j H' _ g => SqL.of (g.1 _ _ hM)) ?_ ?_⟩
    · rintro j x H4 H5 hj ⟨E4, hRL⟩ ⟨T1, x0, y0, rfl, nT, rfl, hx0, hy0⟩
      rw [hMl] at hj
      cases hx0
      have nRT : RL ≠ T1 := ne_of_none hRL nT
      have E5 : Ex H4 (upd H4 T1 (.tup [.int (j : Nat), y0])) := Ex.new nT
      obtain ⟨l, hl⟩ : ∃ l, N[j]? = some l := ⟨N[j], List.getElem?_eq_getElem hj⟩
      obtain rfl : y0 = .int (l.length : Int) := by
        have hy1 : ((N.map fun l => (l.length : Int)).map V.int)[j]? = some y0 := hy0
        rw [List.getElem?_map, List.getElem?_map, hl] at hy1
        cases hy1; rfl
      have hleft : leftN N [] j = l.length := by
        unfold leftN
        rw [List.getD_eq_getElem?_getD, hl]
        show (l.filter _).length = _
        rw [List.filter_eq_self.mpr fun x _ => decide_eq_true (by intro z; cases z)]
      refine ⟨T1, _, rfl, SqT.of upd_same, rfl, _, _, rfl, _, _, rfl, rfl, rfl, ?_⟩
      simp only [wipe, _root_.L2.start, List.map_cons, List.map_nil, List.length_cons, List.length_nil, Nat.reduceAdd, Nat.reduceSub, List.replicate_succ, List.replicate_zero, List.cons_append, List.nil_append, List.set_cons_zero, List.set_cons_succ]
      have hRL5 : upd H4 T1 (.tup [.int (j : Nat), .int (l.length : Int)]) RL = some (.lst (natsV ((List.range j).filter fun k => decide (leftN N [] k = 0)))) := E5 _ _ hRL
      generalize upd H4 T1 (.tup [.int (j : Nat), .int (l.length : Int)]) = H5 at *
      have E35 := E4.trans E5
      have hfl : ((List.range j).filter fun k => decide (leftN N [] k = 0)).length ≤ 200 := by
        have := List.length_filter_le (fun k => decide (leftN N [] k = 0)) (List.range j)
        rw [List.length_range] at this
        omega
      refine ⟨_, rfl, rfl, _, rfl, ite2 (fun c1 => ?_) (fun c1 => ?_)⟩
      · have h0 : leftN N [] j = 0 := by
          have := of_decide_eq_true c1
          have : (l.length : Int) = 0 := by injection this
          omega
        refine ⟨_, rfl, _, hRL5, sz_lt (by rw [nats_len]; omega), E35.mut nRL, ?_⟩
        rw [upd_same, List.range_succ, List.filter_append, ← nats_snoc]
        show _ = some (HO.lst (natsV (_ ++ List.filter _ [j])))
        rw [List.filter_cons, decide_eq_true h0, if_pos rfl]; rfl
      · have h0 : ¬ leftN N [] j = 0 := fun z => c1 (decide_eq_true (by rw [show l.length = 0 by omega]; rfl))
        refine ⟨E35, ?_⟩
        rw [hRL5, List.range_succ, List.filter_append]
        show _ = some (HO.lst (natsV (_ ++ List.filter _ [j])))
        rw [List.filter_cons, decide_eq_false h0, if_neg Bool.false_ne_true]
        show _ = some (HO.lst (natsV (_ ++ [])))
        rw [List.append_nil]
    rintro H4 ⟨E4, hRL⟩
    rw [hMl] at hRL
    refine ⟨Nat.zero_le _, fun OL nOL => ?_⟩
    have I0 : KInv N [] ((List.range N.length).filter (fun k => decide (leftN N [] k = 0)) |>.map fun k : Nat => (k : Int)) (N.map fun l => (l.length : Int)) := by
      have hl : ∀ k, leftN N [] k = (N.getD k []).length := fun k => by
        unfold leftN
        rw [List.filter_eq_self.mpr fun x _ => decide_eq_true (by intro z; cases z)]
      refine ⟨List.length_map _, List.nodup_nil, ?_, (fun _ z => nomatch z), (fun _ z => nomatch z), fun z hz => ?_, fun k hk => ?_, fun k hk h0 => ?_, (fun _ _ z => nomatch z)⟩
      · exact List.Pairwise.map _ (fun a b h z => h (by omega)) (List.nodup_range.filter _)
      · obtain ⟨k, hk, rfl⟩ := List.mem_map.mp hz
        obtain ⟨h1, h2⟩ := List.mem_filter.mp hk
        exact ⟨k, rfl, List.mem_range.mp h1, of_decide_eq_true h2⟩
      · rw [hl, List.getD_eq_getElem?_getD, List.getElem?_map, List.getD_eq_getElem?_getD, List.getElem?_eq_getElem hk]; rfl
      · exact .inr (List.mem_map.mpr ⟨k, List.mem_filter.mpr ⟨List.mem_range.mpr hk, decide_eq_true h0⟩, rfl⟩)
    have eRd : natsV ((List.range N.length).filter fun k => decide (leftN N [] k = 0)) = ((List.range N.length).filter (fun k => decide (leftN N [] k = 0)) |>.map fun k : Nat => (k : Int)).map V.int := by unfold natsV; rw [List.map_map]; rfl
    have Hh0 : HQ.HeapOk ((List.range N.length).filter (fun k => decide (leftN N [] k = 0)) |>.map fun k : Nat => (k : Int)) := HQ.heap_asc (List.Pairwise.map _ (fun a b h => by omega) (List.pairwise_lt_range.filter _))
    rw [eRd] at hRL
    generalize ((List.range N.length).filter (fun k => decide (leftN N [] k = 0)) |>.map fun k : Nat => (k : Int)) = rd0 at *
    generalize (N.map fun l => (l.length : Int)) = ms0 at *
    have E5 : Ex H4 (upd H4 OL (.lst [])) := Ex.new nOL
    have hO : upd H4 OL (.lst []) OL = some (.lst (natsV [])) := upd_same
    have nRO : RL ≠ OL := ne_of_none hRL nOL
    have nMR : ML ≠ RL := ne_of_none hM nRL
    have nMO : ML ≠ OL := ne_of_none (E4 _ _ hM) nOL
    have nfM : ∀ b, (b = FL ∨ b ∈ fa) → b ≠ ML := fun b hb => by
      obtain ⟨o, h⟩ := F2' b hb
      exact ne_of_none h nML
    have nfR : ∀ b, (b = FL ∨ b ∈ fa) → b ≠ RL := fun b hb => by
      obtain ⟨o, h⟩ := F2' b hb
      exact ne_of_none (E3 _ _ h) nRL
    have nfO : ∀ b, (b = FL ∨ b ∈ fa) → b ≠ OL := fun b hb => by
      obtain ⟨o, h⟩ := F2' b hb
      exact ne_of_none ((E3.trans E4) _ _ h) nOL
    have nM0 : H ML = none := fresh_back E2 nML
    have nR0 : H RL = none := fresh_back E03 nRL
    have nO0 : H OL = none := fresh_back (E03.trans E4) nOL
    refine ⟨fun μ σ H' => Ex H H' ∧ ∃ (ord : List Nat) (rd ms : List Int) (y2 y8 : Option V), Fols H H' FL fa F ∧ (KInv N ord rd ms ∧ HQ.HeapOk rd ∧ Gr N ord) ∧ H' RL = some (.lst (rd.map V.int)) ∧ H' ML = some (.lst (ms.map V.int)) ∧ H' OL = some (.lst (natsV ord)) ∧ μ + ord.length = N.length ∧ σ = [some (.ref nl), some (.ref FL), y2, z3, z4, some (.ref ML), some (.ref RL), some (.ref OL), y8, none, none],
      ⟨N.length, E03.trans (E4.trans E5), [], rd0, ms0, _, _, hF3.ex (E4.trans E5), ⟨I0, Hh0, Gr.nil N⟩, E5 _ _ hRL, (E4.trans E5) _ _ hM, hO, rfl, rfl⟩, ?_⟩
    rintro μ σ H6 ⟨E6, ord, rd, ms, y2, y8, hF6, ⟨I6, hh6, gr6⟩, hR6, hM6, hO6, hμ, rfl⟩
    refine ⟨_, rfl, !(rd.map V.int).isEmpty, .inl ⟨_, SqL.of hR6, rfl⟩, ite2 (fun c1 => ?_) (fun c1 => ?_)⟩
    · have hrd : 0 < rd.length := by
        cases rd with
        | nil => cases c1
        | cons x l => exact Nat.succ_pos _
      have hperm := HQ.pop_perm hrd
      obtain ⟨k, ek, hkl, _⟩ := I6.ltr (rd.getD 0 0) (hperm.mem_iff.mp (List.mem_cons_self ..))
      have hlst : ∀ f, f < N.length → f ∉ ord → leftN N ord f = 0 → k ≤ f := fun f hf hfo hfn => by
        rcases I6.rdy f hf hfn with z | z
        · exact absurd z hfo
        · have := HQ.heap_least hh6 _ z
          omega
      rw [ek] at hperm
      obtain ⟨M0, _, hk, hk0⟩ := I6.pop (fol := F.getD k []) hperm
      have hlen1 : ord.length + 1 ≤ N.length := by
        have := nodup_len N.length (ord ++ [k]) (List.nodup_append.mpr ⟨I6.nd, by simp, fun a ha b hb => fun z => hk (by rw [← List.mem_singleton.mp hb, ← z]; exact ha)⟩) fun f hf => by
          rcases List.mem_append.mp hf with z | z
          · exact I6.lt f z
          · rw [List.mem_singleton.mp z]; exact hkl
        rw [List.length_append] at this
        exact this
      refine ⟨fun σ' H' => Ex H H' ∧ ∃ (ord' : List Nat) (rd ms : List Int) (y2 y8 : Option V), Fols H H' FL fa F ∧ (KInv N ord' rd ms ∧ HQ.HeapOk rd ∧ Gr N ord') ∧ H' RL = some (.lst (rd.map V.int)) ∧ H' ML = some (.lst (ms.map V.int)) ∧ H' OL = some (.lst (natsV ord')) ∧ ord'.length = ord.length + 1 ∧ σ' = [some (.ref nl), some (.ref FL), y2, z3, z4, some (.ref ML), some (.ref RL), some (.ref OL), y8, none, none], ?_, ?_⟩
      · rintro σ' H' ⟨b1, ord', rd', ms', y2', y8', b2, b3, b4, b5, b6, b7, rfl⟩
        exact ⟨μ - 1, by omega, b1, ord', rd', ms', y2', y8', b2, b3, b4, b5, b6, by omega, rfl⟩
      have E7 := E6.mut (o := .lst ((HQ.popI rd).map V.int)) nR0
      refine ⟨_, rfl, RL, rd, rfl, hR6, hrd, ?_⟩
      rw [ek]
      have hF7 : Fols H (upd H6 RL (.lst ((HQ.popI rd).map V.int))) FL fa F := hF6.keep fun b o hb z => by rw [upd_ne (nfR b hb)]; exact z
      have hM7 : upd H6 RL (.lst ((HQ.popI rd).map V.int)) ML = some (.lst (ms.map V.int)) := by rw [upd_ne nMR]; exact hM6
      have hO7 : upd H6 RL (.lst ((HQ.popI rd).map V.int)) OL = some (.lst (natsV ord)) := by rw [upd_ne (Ne.symm nRO)]; exact hO6
      have hR7 : upd H6 RL (.lst ((HQ.popI rd).map V.int)) RL = some (.lst ((HQ.popI rd).map V.int)) := upd_same
      generalize upd H6 RL (.lst ((HQ.popI rd).map V.int)) = H7 at *
      refine ⟨_, rfl, .inl ⟨rfl, _, SqL.of hO7⟩, _, rfl, OL, _, .int (k : Nat), rfl, rfl, hO7, sz_lt (by rw [nats_len]; omega), ?_⟩
      rw [← nats_snoc]
      have E8 := E7.mut (o := .lst (natsV (ord ++ [k]))) nO0
      have hF8 : Fols H (upd H7 OL (.lst (natsV (ord ++ [k])))) FL fa F := hF7.keep fun b o hb z => by rw [upd_ne (nfO b hb)]; exact z
      have hM8 : upd H7 OL (.lst (natsV (ord ++ [k]))) ML = some (.lst (ms.map V.int)) := by rw [upd_ne nMO]; exact hM7
      have hR8 : upd H7 OL (.lst (natsV (ord ++ [k]))) RL = some (.lst ((HQ.popI rd).map V.int)) := by rw [upd_ne nRO]; exact hR7
      have hO8 : upd H7 OL (.lst (natsV (ord ++ [k]))) OL = some (.lst (natsV (ord ++ [k]))) := upd_same
      generalize upd H7 OL (.lst (natsV (ord ++ [k]))) = H8 at *
      have FO := C2.fol hkl
      have hfk : k < fa.length := by omega
      have hfb : fa[k]? = some fa[k] := List.getElem?_eq_getElem hfk
      have hat : ∀ H', Fols H H' FL fa F → H' fa[k] = some (.lst (natsV (F.getD k []))) := fun H' h => by
        obtain ⟨l, hl, h1⟩ := h.at_.at_ hfb
        rw [List.getD_eq_getElem?_getD, hl]; exact h1
      refine ⟨_, rfl, _, rfl, FL, _, _, .ref fa[k], rfl, rfl, SqL.of hF8.top, at_of (j := k) rfl (by rw [List.getElem?_map, hfb]; rfl), fa[k], rfl, ⟨_, SqL.of (hat _ hF8)⟩, for_list (K := K) (a := fa[k]) (xs := natsV (F.getD k []))
        (fun j σ H' => Ex H H' ∧ ∃ (rd' ms' : List Int) (y8 : Option V), Fols H H' FL fa F ∧ (KMid N ord k (F.getD k []) j rd' ms' ∧ HQ.HeapOk rd') ∧ H' RL = some (.lst (rd'.map V.int)) ∧ H' ML = some (.lst (ms'.map V.int)) ∧ H' OL = some (.lst (natsV (ord ++ [k]))) ∧ σ = [some (.ref nl), some (.ref FL), some (.int (k : Int)), z3, z4, some (.ref ML), some (.ref RL), some (.ref OL), y8, none, none])
        ⟨E8, HQ.popI rd, ms, y8, hF8, ⟨M0, HQ.pop_ok hh6⟩, hR8, hM8, hO8, rfl⟩ (fun j σ H' _ g => by obtain ⟨_, _, _, _, h1, _⟩ := g; exact SqL.of (hat _ h1)) ?_ ?_⟩
      · rintro j y σ H9 hy ⟨E9, rd', ms', y8, hF9, ⟨M9, hh9⟩, hR9, hM9, hO9, rfl⟩
        obtain ⟨f, hf, rfl⟩ := nats_get hy
        obtain ⟨hfl, s1, s2⟩ := M9.step I6.closed hk hk0 FO hf
        have hfm : f < ms'.length := by rw [M9.len]; exact hfl
        refine ⟨_, rfl, _, rfl, ML, _, _, _, rfl, rfl, SqL.of hM9, at_int (j := f) rfl hfm, _, _, rfl, rfl, ML, _, _, f, rfl, rfl, hM9, ixN_nat (by rw [List.length_map]; exact hfm), ?_⟩
        rw [← List.map_set]
        have E10 := E9.mut (o := .lst ((ms'.set f (ms'.getD f 0 - 1)).map V.int)) nM0
        have hF10 : Fols H (upd H9 ML (.lst ((ms'.set f (ms'.getD f 0 - 1)).map V.int))) FL fa F := hF9.keep fun b o hb z => by rw [upd_ne (nfM b hb)]; exact z
        have hR10 : upd H9 ML (.lst ((ms'.set f (ms'.getD f 0 - 1)).map V.int)) RL = some (.lst (rd'.map V.int)) := by rw [upd_ne (Ne.symm nMR)]; exact hR9
        have hO10 : upd H9 ML (.lst ((ms'.set f (ms'.getD f 0 - 1)).map V.int)) OL = some (.lst (natsV (ord ++ [k]))) := by rw [upd_ne (Ne.symm nMO)]; exact hO9
        have hM10 : upd H9 ML (.lst ((ms'.set f (ms'.getD f 0 - 1)).map V.int)) ML = some (.lst ((ms'.set f (ms'.getD f 0 - 1)).map V.int)) := upd_same
        generalize upd H9 ML (.lst ((ms'.set f (ms'.getD f 0 - 1)).map V.int)) = H10 at *
        refine ⟨_, rfl, _, rfl, ML, _, _, _, rfl, rfl, SqL.of hM10, at_int (j := f) rfl (by rw [List.length_set]; exact hfm), rfl, _, rfl, ?_⟩
        rw [getD_setI hfm, if_pos rfl]
        have hrl : rd'.length ≤ 200 := by
          have := nodup_lenI M9.ndr fun z hz => by
            obtain ⟨g, a1, a2, _⟩ := M9.ltr z hz
            exact ⟨g, a1, a2⟩
          omega
        refine ite2 (fun c2 => ?_) (fun c2 => ?_)
        · have h0 : ms'.getD f 0 - 1 = 0 := by
            have := of_decide_eq_true c2
            injection this
          refine ⟨_, rfl, _, rfl, RL, rd', (f : Int), rfl, hR10, sz_lt (by omega), ?_⟩
          exact ⟨E10.mut nR0, HQ.pushI rd' (f : Int), _, _, hF10.keep fun b o hb z => by rw [upd_ne (nfR b hb)]; exact z, ⟨s2 h0 _ (HQ.push_perm rd' f), HQ.push_ok _ hh9⟩, upd_same, by rw [upd_ne nMR]; exact hM10, by rw [upd_ne (Ne.symm nRO)]; exact hO10, rfl⟩
        · have h0 : ms'.getD f 0 - 1 ≠ 0 := fun z => c2 (decide_eq_true (by rw [z]))
          exact ⟨E10, rd', _, _, hF10, ⟨s1 h0, hh9⟩, hR10, hM10, hO10, rfl⟩
      · rintro σ H9 ⟨E9, rd', ms', y8, hF9, ⟨M9, hh9⟩, hR9, hM9, hO9, rfl⟩
        rw [nats_len] at M9
        exact ⟨E9, ord ++ [k], rd', ms', _, _, hF9, ⟨M9.done I6 hk hkl hk0 FO, hh9, gr6.snoc fun f hf hfo hfn => hlst f hf hfo hfn⟩, hR9, hM9, hO9, by rw [List.length_append]; rfl, rfl⟩
    · have : rd = [] := by
        cases rd with
        | nil => rfl
        | cons x l => exact absurd rfl c1
      subst this
      exact ⟨_, rfl, q OL H6 ord E6 nO0 hO6 (LOrd.of I6 gr6)⟩
end
end G
namespace G
open PySem PySem.Spec PyProof.Rows L2
/-! ## what a circuit means: the mathematics -/
def sumB (bs : List Bool) : Nat → Nat
  | 0 => 0
  | j + 1 => sumB bs j + if bs.getD j false then 2 ^ j else 0
theorem sumB_lt (bs : List Bool) : ∀ j, sumB bs j < 2 ^ j
  | 0 => Nat.one_pos
  | j + 1 => by
    have h := sumB_lt bs j
    show sumB bs j + _ < 2 ^ (j + 1)
    rw [Nat.pow_succ]
    by_cases e : bs.getD j false = true
    · rw [if_pos e]; omega
    · rw [if_neg e]; omega
def lookB (tab bs : List Bool) : Bool := tab.getD (sumB bs bs.length) false
theorem nm_ok16 : ∀ c ∈ (["i", "r", "g", "p"] : List Str), ∀ k, k < 16 → PyData.strOk (nm c k) = true := by decide +kernel
theorem nm_inj : ∀ c ∈ (["i", "r", "g", "p"] : List Str), ∀ c' ∈ (["i", "r", "g", "p"] : List Str), ∀ k, k < 16 → ∀ k', k' < 16 → nm c k = nm c' k' → c = c' ∧ k = k' := by decide +kernel
def srcs (d : CircD) : List Str := d.ins ++ d.regs.map (·.name)
def gnames (d : CircD) : List Str := d.gates.map (·.name)
/-- val says what each net holds, the sources given -/
structure Val (d : CircD) (vec : List Bool) (val : Str → Bool) : Prop where
  src : ∀ (i : Nat) (x : Str), (srcs d)[i]? = some x → vec[i]? = some (val x)
  gate : ∀ g ∈ d.gates, val g.name = lookB g.tab (g.pins.map val)
/-- names apart, each gate reads nets that there are, none reads itself by others -/
structure Nets (d : CircD) : Prop where
  nd : (srcs d ++ gnames d).Nodup
  pins : ∀ g ∈ d.gates, ∀ x ∈ g.pins, x ∈ srcs d ++ gnames d
  few : d.gates.length ≤ 16
  fewp : ∀ g ∈ d.gates, g.pins.length ≤ 3
  tab : ∀ g ∈ d.gates, g.tab.length = 2 ^ g.pins.length
  fews : (srcs d).length ≤ 16
  rank : ∃ rank : Str → Nat, ∀ g ∈ d.gates, ∀ x ∈ g.pins, x ∈ gnames d → rank x < rank g.name
  regs : ∀ r ∈ d.regs, r.net ∈ srcs d ++ gnames d
  tx : ∀ x ∈ srcs d ++ gnames d, PyData.strOk x = true
def needN (d : CircD) : List (List Nat) := d.gates.map fun g => (g.pins.filter fun x => decide (x ∈ gnames d)).map fun x => (gnames d).idxOf x
def evG : (Str → Bool) → List GateD → Str → Bool
  | f, [] => f
  | f, g :: gs => evG (fun y => if y = g.name then lookB g.tab (g.pins.map f) else f y) gs
theorem evG_out : ∀ (gs : List GateD) (f : Str → Bool) (x : Str), x ∉ gs.map (·.name) → evG f gs x = f x
  | [], _, _, _ => rfl
  | g :: gs, f, x, h => by
    rw [List.map_cons, List.mem_cons] at h
    show evG _ gs x = _
    rw [evG_out gs _ x fun z => h (.inr z)]
    show (if x = g.name then _ else _) = _
    rw [if_neg fun z => h (.inl z)]
theorem evG_gate : ∀ (gs : List GateD) (f : Str → Bool), (gs.map (·.name)).Nodup → (∀ (k : Nat) (g : GateD), gs[k]? = some g → ∀ x ∈ g.pins, ∀ (j : Nat) (g' : GateD), gs[j]? = some g' → x = g'.name → j < k) → ∀ g ∈ gs, evG f gs g.name = lookB g.tab (g.pins.map (evG f gs))
  | [], _, _, _, g, h => nomatch h
  | g :: gs, f, nd, hp, g', h => by
    rw [List.map_cons, List.nodup_cons] at nd
    have hev : ∀ x ∈ g.pins, evG f (g :: gs) x = f x := fun x hx => by
      refine evG_out (g :: gs) f x fun z => ?_
      obtain ⟨g2, h2, e2⟩ := List.mem_map.mp z
      obtain ⟨j, hj, e⟩ := List.getElem_of_mem h2
      exact absurd (hp 0 g rfl x hx j g2 (List.getElem?_eq_some_iff.mpr ⟨hj, e⟩) e2.symm) (Nat.not_lt_zero _)
    rcases List.mem_cons.mp h with e | h
    · subst e
      rw [List.map_congr_left hev]
      show evG _ gs g'.name = _
      rw [evG_out gs _ _ nd.1]
      show (if g'.name = g'.name then _ else _) = _
      rw [if_pos rfl]
    · exact evG_gate gs _ nd.2 (fun k g1 hk x hx j g2 hj e => by
        have := hp (k + 1) g1 hk x hx (j + 1) g2 hj e
        omega) g' h
theorem nets_of {most : Nat} {d : CircD} {G : List GateD} (W : CircWf most d G) (hm : most ≤ 15) : Nets d ∧ ∀ vec : List Bool, vec.length = (srcs d).length → ∃ val, Val d vec val := by
  obtain ⟨ni, hi1, hi3, ei⟩ := W.ins
  obtain ⟨nr, hr3, er⟩ := W.regs
  have hG := W.few
  have hname : ∀ (k : Nat) (g : GateD), G[k]? = some g → g.name = nm "g" k := fun k g hk => (W.gates k g hk).name
  have eG : G.map (·.name) = (List.range G.length).map (nm "g") := by
    refine List.ext_getElem? fun k => ?_
    rw [List.getElem?_map, List.getElem?_map]
    by_cases h : k < G.length
    · rw [List.getElem?_eq_getElem h, List.getElem?_range h]
      show some (G[k]).name = some _
      rw [hname k _ (List.getElem?_eq_getElem h)]
    · rw [List.getElem?_eq_none (by omega), List.getElem?_eq_none (by rw [List.length_range]; omega)]; rfl
  have es : srcs d = (List.range ni).map (nm "i") ++ (List.range nr).map (nm "r") := by unfold srcs; rw [ei, er]
  have pg : (gnames d).Perm (G.map (·.name)) := W.perm.map _
  have mg : ∀ x, x ∈ gnames d ↔ ∃ k, k < G.length ∧ x = nm "g" k := fun x => by
    rw [pg.mem_iff, eG, List.mem_map]
    exact ⟨fun ⟨k, h1, h2⟩ => ⟨k, List.mem_range.mp h1, h2.symm⟩, fun ⟨k, h1, h2⟩ => ⟨k, List.mem_range.mpr h1, h2.symm⟩⟩
  have ndm : ∀ (c : Str), c ∈ (["i", "r", "g", "p"] : List Str) → ∀ n, n ≤ 16 → ((List.range n).map (nm c)).Nodup := fun c hc n hn => by
    refine List.pairwise_map.mpr (List.Pairwise.imp_of_mem (fun {a b} ha hb hne z => hne ?_) (List.nodup_range (n := n)))
    exact (nm_inj c hc c hc a (by have := List.mem_range.mp ha; omega) b (by have := List.mem_range.mp hb; omega) z).2
  have ndG : (G.map (·.name)).Nodup := by rw [eG]; exact ndm "g" (by decide +kernel) _ (by omega)
  have nds : (srcs d).Nodup := by
    rw [es]
    refine List.nodup_append.mpr ⟨ndm "i" (by decide +kernel) _ (by omega), ndm "r" (by decide +kernel) _ (by omega), fun a ha b hb z => ?_⟩
    obtain ⟨j, hj, rfl⟩ := List.mem_map.mp ha
    obtain ⟨k, hk, rfl⟩ := List.mem_map.mp hb
    have := (nm_inj "i" (by decide +kernel) "r" (by decide +kernel) j (by have := List.mem_range.mp hj; omega) k (by have := List.mem_range.mp hk; omega) z).1
    exact absurd this (by decide +kernel)
  have nsg : ∀ x ∈ srcs d, ∀ k, k < G.length → x ≠ nm "g" k := fun x hx k hk z => by
    rw [es] at hx
    rcases List.mem_append.mp hx with y | y
    · obtain ⟨j, hj, e⟩ := List.mem_map.mp y
      exact absurd (nm_inj "i" (by decide +kernel) "g" (by decide +kernel) j (by have := List.mem_range.mp hj; omega) k (by omega) (e.trans z)).1 (by decide +kernel)
    · obtain ⟨j, hj, e⟩ := List.mem_map.mp y
      exact absurd (nm_inj "r" (by decide +kernel) "g" (by decide +kernel) j (by have := List.mem_range.mp hj; omega) k (by omega) (e.trans z)).1 (by decide +kernel)
  have hpin : ∀ (k : Nat) (g : GateD), G[k]? = some g → ∀ x ∈ g.pins, ∀ j, j < G.length → x = nm "g" j → j < k := fun k g hk x hx j hj e => by
    have hkl := (List.getElem?_eq_some_iff.mp hk).1
    rcases List.mem_append.mp ((W.gates k g hk).pins x hx) with z | z
    · exact absurd e (nsg x z j hj)
    · obtain ⟨i, hi, e2⟩ := List.mem_map.mp z
      have hik := List.mem_range.mp hi
      have := (nm_inj "g" (by decide +kernel) "g" (by decide +kernel) i (by omega) j (by omega) (e2.trans e)).2
      omega
  have hmem : ∀ g ∈ d.gates, ∃ k, G[k]? = some g ∧ k < G.length := fun g hg => by
    obtain ⟨k, hk, e⟩ := List.getElem_of_mem (W.perm.mem_iff.mp hg)
    exact ⟨k, List.getElem?_eq_some_iff.mpr ⟨hk, e⟩, hk⟩
  have hsub : ∀ k, k ≤ G.length → ∀ x ∈ d.ins ++ d.regs.map (·.name) ++ (List.range k).map (nm "g"), x ∈ srcs d ++ gnames d := fun k hk x hx => by
    rcases List.mem_append.mp hx with z | z
    · exact List.mem_append_left _ z
    · obtain ⟨j, hj, e⟩ := List.mem_map.mp z
      exact List.mem_append_right _ ((mg x).mpr ⟨j, by have := List.mem_range.mp hj; omega, e.symm⟩)
  refine ⟨⟨List.nodup_append.mpr ⟨nds, pg.nodup_iff.mpr ndG, fun a ha b hb z => ?_⟩, fun g hg x hx => ?_, ?_, fun g hg => ?_, fun g hg => ?_, ?_, ⟨fun x => (G.map (·.name)).idxOf x, fun g hg x hx hxg => ?_⟩, fun r hr => hsub G.length (Nat.le_refl _) _ (W.rwf r hr).2, fun x hx => ?_⟩, fun vec hv => ?_⟩
  · obtain ⟨k, hk, e⟩ := (mg b).mp hb
    exact nsg a ha k hk (z.trans e)
  · obtain ⟨k, hk, hkl⟩ := hmem g hg
    exact hsub k (Nat.le_of_lt hkl) x ((W.gates k g hk).pins x hx)
  · rw [W.perm.length_eq]; omega
  · obtain ⟨k, hk, hkl⟩ := hmem g hg
    exact (W.gates k g hk).few
  · obtain ⟨k, hk, hkl⟩ := hmem g hg
    exact (W.gates k g hk).tab
  · rw [es, List.length_append, List.length_map, List.length_map, List.length_range, List.length_range]; omega
  · obtain ⟨k, hk, hkl⟩ := hmem g hg
    obtain ⟨j, hj, e⟩ := (mg x).mp hxg
    have hlt := hpin k g hk x hx j hj e
    have at_ : ∀ i, i < G.length → (G.map (·.name)).idxOf (nm "g" i) = i := fun i hi => by
      have e1 : (G.map (·.name))[i]'(by rw [List.length_map]; exact hi) = nm "g" i := by
        rw [List.getElem_map]; exact hname i _ (List.getElem?_eq_getElem hi)
      rw [← e1]
      exact ndG.idxOf_getElem i _
    show (G.map (·.name)).idxOf x < (G.map (·.name)).idxOf g.name
    rw [e, hname k g hk, at_ j hj, at_ k hkl]
    exact hlt
  · rcases List.mem_append.mp hx with z | z
    · rw [es] at z
      rcases List.mem_append.mp z with y | y
      · obtain ⟨j, hj, rfl⟩ := List.mem_map.mp y
        exact nm_ok16 "i" (by decide +kernel) j (by have := List.mem_range.mp hj; omega)
      · obtain ⟨j, hj, rfl⟩ := List.mem_map.mp y
        exact nm_ok16 "r" (by decide +kernel) j (by have := List.mem_range.mp hj; omega)
    · obtain ⟨k, hk, rfl⟩ := (mg x).mp z
      exact nm_ok16 "g" (by decide +kernel) k (by omega)
  · refine ⟨evG (fun x => vec.getD ((srcs d).idxOf x) false) G, fun i x hx => ?_, fun g hg => ?_⟩
    · have hil := (List.getElem?_eq_some_iff.mp hx).1
      rw [evG_out G _ x fun z => ?_]
      · have : (srcs d).idxOf x = i := by
          obtain ⟨h1, h2⟩ := List.getElem?_eq_some_iff.mp hx
          rw [← h2]; exact nds.idxOf_getElem i h1
        rw [this, List.getD_eq_getElem?_getD, List.getElem?_eq_getElem (by omega)]; rfl
      · rw [eG] at z
        obtain ⟨k, hk, e⟩ := List.mem_map.mp z
        exact nsg x (List.mem_of_getElem? hx) k (List.mem_range.mp hk) e.symm
    · refine evG_gate G _ ndG (fun k g1 hk x hx j g2 hj e => ?_) g (W.perm.mem_iff.mp hg)
      exact hpin k g1 hk x hx j (List.getElem?_eq_some_iff.mp hj).1 (e.trans (hname j g2 hj))
theorem need_rank {d : CircD} (h : Nets d) : ∃ rank : Nat → Nat, ∀ k o, k < (needN d).length → o ∈ (needN d).getD k [] → o < (needN d).length ∧ rank o < rank k := by
  obtain ⟨rank, hr⟩ := h.rank
  refine ⟨fun k => rank ((gnames d).getD k (nm "g" 0)), fun k o hk ho => ?_⟩
  unfold needN at *
  rw [List.length_map] at hk ⊢
  obtain ⟨g, hg⟩ : ∃ g, d.gates[k]? = some g := ⟨_, List.getElem?_eq_getElem hk⟩
  rw [List.getD_eq_getElem?_getD, List.getElem?_map, hg] at ho
  obtain ⟨x, hx, rfl⟩ := List.mem_map.mp ho
  obtain ⟨hx1, hx2⟩ := List.mem_filter.mp hx
  have hxg : x ∈ gnames d := of_decide_eq_true hx2
  have hol : (gnames d).idxOf x < (gnames d).length := List.idxOf_lt_length_iff.mpr hxg
  have hgl : (gnames d).length = d.gates.length := List.length_map _
  refine ⟨by rw [← hgl]; exact hol, ?_⟩
  have e1 : (gnames d).getD ((gnames d).idxOf x) (nm "g" 0) = x := by
    rw [List.getD_eq_getElem?_getD, List.getElem?_eq_getElem hol]; exact List.getElem_idxOf hol
  have e2 : (gnames d).getD k (nm "g" 0) = g.name := by
    unfold gnames
    rw [List.getD_eq_getElem?_getD, List.getElem?_map, hg]; rfl
  show rank ((gnames d).getD ((gnames d).idxOf x) (nm "g" 0)) < rank ((gnames d).getD k (nm "g" 0))
  rw [e1, e2]
  exact hr g (List.mem_of_getElem? hg) x hx1 hxg
end G
/-! zip of two rows, each a list or a tuple -/
namespace G
open PySem PySem.Spec PyProof.Rows L2 Evl
def SqB (t : Bool) (K : PySem.W.Frag) (H : Hp) (a : Addr) (xs : List V) : Prop := if t = true then SqT K H a xs else SqL K H a xs
def ItB (t : Bool) (h : Heap) (it l : Addr) (i : Nat) : Prop := if t = true then h.IsTupleIter it l i else h.IsListIter it l i
theorem ItB.obj {t : Bool} {h : Heap} {it l : Addr} {i : Nat} (x : ItB t h it l i) : ∃ o, h.get? it = some o ∧ ∃ q, o.data = .fields q := by
  unfold ItB at x
  split at x
  · obtain ⟨o, ho, _, hd⟩ := x; exact ⟨o, ho, _, hd⟩
  · obtain ⟨o, ho, _, hd⟩ := x; exact ⟨o, ho, _, hd⟩
theorem ItB.to {t : Bool} {h h' : Heap} {it l : Addr} {i : Nat} (x : ItB t h it l i) (k : ∀ o, h.get? it = some o → h'.get? it = some o) : ItB t h' it l i := by
  unfold ItB at x ⊢
  split
  · rw [if_pos (by assumption)] at x; exact x.at k
  · rw [if_neg (by assumption)] at x; exact x.at k
theorem SqB.one {X : Cx} {pins : List (Addr × Obj)} {σ : L2.St} {H : Hp} {s : Shared} (I : Inv X pins σ H s) {t : Bool} {a : Addr} {xs ys : List V} (h : SqB t X.K H a xs) (h' : SqB t X.K H a ys) : xs = ys := by
  unfold SqB at h h'
  cases t with
  | true => exact I.tuple_inj h h'
  | false => exact I.list_inj h h'
theorem drawsB {X : Cx} {pins : List (Addr × Obj)} {σ : L2.St} {H : Hp} {s : Shared} (I : Inv X pins σ H s) (hh : X.A.handled = none) {t : Bool} {a it : Addr} {xs : List V} {i : Nat} (hq : SqB t X.K H a xs) (st : ItB t s.heap it a i) (hne : a ≠ it) :
    ∃ (items : List Value) (St : Nat → Heap → Prop), Vals xs items ∧ Draws X.prog X.w X.A.in1 it [it, a] items.toArray.size (fun i v => items.toArray[i]? = some v) St ∧ St i s.heap ∧ ∀ h', St (i + 1) h' → ItB t h' it a (i + 1) := by
  unfold SqB at hq
  unfold ItB at st ⊢
  cases t with
  | true =>
    obtain ⟨items, rv, p, _⟩ := I.tuple hq
    exact ⟨items, _, rv, Draws.tuple (A := X.A.in1) hh it a hne items.toArray, ⟨st, p⟩, fun h' z => z.1⟩
  | false =>
    obtain ⟨items, rv, p, _⟩ := I.list hq
    exact ⟨items, _, rv, Draws.list (A := X.A.in1) hh it a hne items.toArray, ⟨st, p.isList⟩, fun h' z => z.1⟩
/-- both rows as they stand at each turn, a new pair each -/
def ItM (t1 t2 : Bool) (K : PySem.W.Frag) (a b : Addr) : It :=
  ⟨fun i H => ∃ (xs ys : List V), SqB t1 K H a xs ∧ SqB t2 K H b ys ∧ i < xs.length ∧ i < ys.length,
   fun i H v H' => ∃ T x y, v = .ref T ∧ H T = none ∧ H' = upd H T (.tup [x, y]) ∧ (∀ xs, SqB t1 K H a xs → xs[i]? = some x) ∧ ∀ ys, SqB t2 K H b ys → ys[i]? = some y,
   fun i H => ∃ xs ys : List V, SqB t1 K H a xs ∧ SqB t2 K H b ys ∧ i ≤ xs.length ∧ i ≤ ys.length ∧ (i = xs.length ∨ i = ys.length)⟩
theorem turn_zipM {P : Program} {w : World} {K : PySem.W.Frag} {elts : List Expr} {kk : Nat} {tpos : Pos} {t1 t2 : Bool} {a b z TI TO i1 i2 : Addr} (S : ZipSep2 z TI TO i1 i2 [i1, a] [i2, b]) (na : a ≠ i1) (nb : b ≠ i2) :
    Turn P w K (.Tuple elts kk tpos) (ItM t1 t2 K a b) [z, TI, TO, i1, i2] z (fun i h => IsZip h z TI TO .none ∧ IsTupOf2 h TI (.ref i1) (.ref i2) ∧ (∃ x y, IsTupOf2 h TO x y) ∧ ItB t1 h i1 a i ∧ ItB t2 h i2 b i) where
  mem := by simp
  obj := fun i h st c hc => by
    obtain ⟨hz, hTI, ⟨x, y, hTO⟩, h1, h2⟩ := st
    obtain ⟨o1, e1, q1, d1⟩ := h1.obj
    obtain ⟨o2, e2, q2, d2⟩ := h2.obj
    have e' : c = z ∨ c = TI ∨ c = TO ∨ c = i1 ∨ c = i2 := by simpa using hc
    rcases e' with q | q | q | q | q <;> subst q
    · exact ⟨_, hz, fun v q => nomatch q⟩
    · exact ⟨_, hTI, fun v q => nomatch q⟩
    · exact ⟨_, hTO, fun v q => nomatch q⟩
    · exact ⟨o1, e1, fun v q => by rw [d1] at q; cases q⟩
    · exact ⟨o2, e2, fun v q => by rw [d2] at q; cases q⟩
  keep := fun i h h' st k => by
    obtain ⟨hz, hTI, ⟨x, y, hTO⟩, h1, h2⟩ := st
    exact ⟨k _ (by simp) _ hz, k _ (by simp) _ hTI, ⟨x, y, k _ (by simp) _ hTO⟩, h1.to (k i1 (by simp)), h2.to (k i2 (by simp))⟩
  item := by
    intro X hP hw hK hc i pins s σ H E I hf st hg
    subst hP hw hK
    obtain ⟨hz, hTI, ⟨x0, y0, hTO⟩, h1, h2⟩ := st
    obtain ⟨xs, ys, hqx, hqy, hx, hy⟩ := hg
    have hh : X.A.handled = none := I.ok.hd hc
    obtain ⟨its, St1, rv, D1, s1, n1⟩ := drawsB I hh hqx h1 na
    obtain ⟨its2, St2, rv2, D2, s2, n2⟩ := drawsB I hh hqy h2 nb
    have hxe : xs[i]? = some xs[i] := List.getElem?_eq_getElem hx
    have hye : ys[i]? = some ys[i] := List.getElem?_eq_getElem hy
    obtain ⟨u, hu, ru⟩ := rv.get hxe
    obtain ⟨u2, hu2, ru2⟩ := rv2.get hye
    have hzl : z < s.heap.objs.size := Heap.lt_size hz
    refine wpAny_pyNext_zipD2_item S D1 D2 hz hTI hTO s1 s2 (by have := rv.length; simp; omega) (by have := rv2.length; simp; omega) fun v1 v2 h' tk e1 e2 z' TO' t1' t2' hT hsz hk => ?_
    have ev1 : v1 = u := Option.some.inj (e1.symm.trans (by simpa using hu))
    have ev2 : v2 = u2 := Option.some.inj (e2.symm.trans (by simpa using hu2))
    subst ev1 ev2
    refine ⟨_, rfl, wpAny_letOwnedTupleGo_zip (s := { s with heap := h', toks := tk }) z' fun h'' z'' sb => ?_⟩
    have hT2 : h''.get? s.heap.objs.size = some { cls := .type "tuple", data := .seq #[v1, v2] } := (sb.2 _ (Nat.ne_of_gt hzl)).trans hT
    have made : ObjOk X.prog X.w (upd H s.heap.objs.size (.tup [xs[i], ys[i]])) h'' s.heap.objs.size (.tup [xs[i], ys[i]]) := ⟨(by show 2 ≤ sizeLine; decide), [v1, v2], .cons ru (.cons ru2 .nil), _, hT2, rfl, _, rfl⟩
    have old : ∀ c, c ∈ [z, TI, TO, i1, i2] → c < s.heap.objs.size := fun c hcm => by
      have e' : c = z ∨ c = TI ∨ c = TO ∨ c = i1 ∨ c = i2 := by simpa using hcm
      rcases e' with q | q | q | q | q <;> rw [q]
      · exact hzl
      · exact Heap.lt_size hTI
      · exact Heap.lt_size hTO
      · obtain ⟨_, e, _⟩ := h1.obj; exact Heap.lt_size e
      · obtain ⟨_, e, _⟩ := h2.obj; exact Heap.lt_size e
    have I1 : Inv X pins σ (upd H s.heap.objs.size (.tup [xs[i], ys[i]])) { s with heap := h'', toks := tk } :=
      I.turnedNew (ch := [z, TI, TO, i1, i2]) (fun c o nb q => by
        have out : c ≠ z ∧ c ≠ TI ∧ c ≠ TO ∧ c ≠ i1 ∧ c ≠ i2 := by simpa using nb
        exact (sb.2 c out.1).trans (hk c o out.1 out.2.2.1 out.2.2.2.1 out.2.2.2.2 q)) hf (Nat.le_refl _) made
    refine ⟨.ref s.heap.objs.size, _, I1, rfl, ⟨_, xs[i], ys[i], rfl, I.hok.fresh (Nat.le_refl _), rfl, fun l hl => (congrArg (·[i]?) (hqx.one I hl)).symm.trans hxe, fun l hl => (congrArg (·[i]?) (hqy.one I hl)).symm.trans hye⟩,
      ⟨z'', (sb.2 _ S.TIz).trans (hk _ _ S.TIz S.TITO S.TIi1 S.TIi2 hTI), ⟨v1, v2, (sb.2 _ S.TOz).trans TO'⟩, (n1 _ t1').to fun o q => (sb.2 _ S.zi1.symm).trans q, (n2 _ t2').to fun o q => (sb.2 _ S.zi2.symm).trans q⟩, fun c hcm => ?_⟩
    rw [upd_ne (Nat.ne_of_lt (old c hcm))]
    exact (hf c hcm).1
  done := by
    intro X hP hw hK hc i pins s σ H E I hf st hg
    subst hP hw hK
    obtain ⟨hz, hTI, ⟨x0, y0, hTO⟩, h1, h2⟩ := st
    obtain ⟨xs, ys, hqx, hqy, hlx, hly, hend⟩ := hg
    have hh : X.A.handled = none := I.ok.hd hc
    obtain ⟨its, St1, rv, D1, s1, n1⟩ := drawsB I hh hqx h1 na
    obtain ⟨its2, St2, rv2, D2, s2, n2⟩ := drawsB I hh hqy h2 nb
    have l1 := rv.length
    have l2 := rv2.length
    refine wpAny_pyNext_zipD2_end S D1 D2 hz hTI hTO s1 s2 (by simp; omega) (by simp; omega) (by simp; omega) fun h' tk hk => ⟨rfl, I.turnedL (t' := tk) (ch := [z, TI, TO, i1, i2]) (fun c o nb q => ?_) hf⟩
    have out : c ≠ z ∧ c ≠ TI ∧ c ≠ TO ∧ c ≠ i1 ∧ c ≠ i2 := by simpa using nb
    exact hk c o out.1 out.2.2.1 out.2.2.2.1 out.2.2.2.2 q
  self := fun A i s Q E st h => wpAny_pyIter_zip st.1 h
def iZipM (K : PySem.W.Frag) (t1 t2 : Bool) (ta : TA) : TI := fun σ H R => ta σ H fun vs H1 => ∃ a b xs ys, vs = [.ref a, .ref b] ∧ SqB t1 K H1 a xs ∧ SqB t2 K H1 b ys ∧ R (ItM t1 t2 K a b) H1
theorem nin2 {x y z : Nat} (h1 : x ≠ y) (h2 : x ≠ z) : x ∉ [y, z] := by simp [h1, h2]
theorem nin2' {x y z : Nat} (h1 : x ≠ y) (h2 : x ≠ z) : ¬ (x : Addr) ∈ ([y, z] : List Addr) := nin2 h1 h2
theorem sepZ {n a b : Nat} (ha : a < n) (hb : b < n) : ZipSep2 (n + 4) (n + 2) (n + 3) n (n + 1) [n, a] [n + 1, b] :=
  have e1 : n + 2 ≠ n + 4 := by omega
  have e2 : n + 3 ≠ n + 4 := by omega
  have e3 : n + 2 ≠ n + 3 := by omega
  have e4 : n + 2 ≠ n := by omega
  have e5 : n + 2 ≠ n + 1 := by omega
  have f1 : n + 4 ≠ n := by omega
  have f2 : n + 4 ≠ a := by omega
  have f3 : n + 3 ≠ n := by omega
  have f4 : n + 3 ≠ a := by omega
  have f5 : n + 4 ≠ n + 1 := by omega
  have f6 : n + 4 ≠ b := by omega
  have f7 : n + 3 ≠ n + 1 := by omega
  have f8 : n + 3 ≠ b := by omega
  have f9 : n ≠ n + 1 := by omega
  have g1 : n ≠ b := by omega
  have g2 : n + 1 ≠ n := by omega
  have g3 : n + 1 ≠ a := by omega
  ⟨e1, e2, e3, e4, List.mem_cons_self .., nin2' f1 f2, nin2' f3 f4, e5, List.mem_cons_self .., nin2' f5 f6, nin2' f7 f8, nin2' f9 g1, nin2' g2 g3⟩
theorem pi_zipM {X : Cx} (t1 t2 : Bool) {e e2 : Expr} {ta : TA} {p pos tpos : Pos} {elts : List Expr} {kk : Nat} (hg : Gl X "zip") (hm : X.mg "zip" = none) (ha : PA X [e, e2] ta)
    (hs : starEach [e, e2] X.env = (false, eval e X.env) :: starEach [e2] X.env := by rfl) (hpl : (backTo pos (starEach [e2] X.env)).any (·.1) = false := by rfl) :
    PI X (.Tuple elts kk tpos) (.Call (.Name "zip" p) [e, e2] [] pos) (iZipM X.K t1 t2 ta) := by
  refine ⟨fun pins s σ H R I h => Call_ (ld_blt I hg hm PyProof.Rows.boot_zip (PyProof.Rows.callWith_type1 (thn (ha.run pos pins s σ H _ I h) fun us s1 ⟨vs, H1, I1, r1, q1⟩ => ?_) hs hpl))⟩
  obtain ⟨a, b, xs, ys, rfl, hqx, hqy, q⟩ := q1
  obtain _ | ⟨r, _ | ⟨r', _ | _⟩⟩ := r1
  cases r
  cases r'
  have beg : ∀ (t : Bool) (c : Addr) (zs : List V), SqB t X.K H1 c zs → ∃ (o : Obj) (Hh : Heap → Prop), Begins (.ref c) o Hh ∧ Hh s1.heap ∧ c < s1.heap.objs.size ∧ ∀ (h' : Heap) (it : Addr), h'.get? it = some o → ItB t h' it c 0 := fun t c zs hq => by
    unfold SqB at hq
    unfold ItB
    cases t with
    | true =>
      obtain ⟨items, _, p, _⟩ := I1.tuple hq
      obtain ⟨o, ho, _⟩ := id p
      exact ⟨_, _, begins_tuple c items.toArray, p, Heap.lt_size ho, fun h' it e => ⟨_, e, rfl, rfl⟩⟩
    | false =>
      obtain ⟨items, _, p, _⟩ := I1.list hq
      exact ⟨_, _, begins_list c items.toArray, p.isList, p.lt, fun h' it e => ⟨_, e, rfl, rfl⟩⟩
  obtain ⟨o1, P1, B1, p1, la, k1⟩ := beg t1 a xs hqx
  obtain ⟨o2, P2, B2, p2, lb, k2⟩ := beg t2 b ys hqy
  refine zip_begins2 B1 B2 p1 p2 fun h' hz hTI hTO g1 g2 hsz hk => wpAny_pyIter_zip hz ?_
  have I2 : Inv X pins σ H1 { s1 with heap := h' } := I1.kept (t' := s1.toks) hk
  refine ⟨s1.heap.objs.size + 4, [s1.heap.objs.size + 4, s1.heap.objs.size + 2, s1.heap.objs.size + 3, s1.heap.objs.size, s1.heap.objs.size + 1], _, _, H1, rfl, I2, turn_zipM (t1 := t1) (t2 := t2) (sepZ la lb) (Nat.ne_of_lt la) (Nat.ne_of_lt (Nat.lt_succ_of_lt lb)), ⟨hz, hTI, ⟨_, _, hTO⟩, k1 _ _ g1, k2 _ _ g2⟩, fun c hcm => ?_, q⟩
  have hle : s1.heap.objs.size ≤ c := by
    have e' : c = s1.heap.objs.size + 4 ∨ c = s1.heap.objs.size + 2 ∨ c = s1.heap.objs.size + 3 ∨ c = s1.heap.objs.size ∨ c = s1.heap.objs.size + 1 := by simpa using hcm
    rcases e' with z | z | z | z | z <;> rw [z]
    · exact Nat.le_add_right _ _
    · exact Nat.le_add_right _ _
    · exact Nat.le_add_right _ _
    · exact Nat.le_refl _
    · exact Nat.le_add_right _ _
  exact I1.fpOk hle (I1.hok.fresh hle)
theorem kPiZipM {X : Cx} {K : PySem.W.Frag} (t1 t2 : Bool) {e e2 : Expr} {ta : TA} {p pos tpos : Pos} {elts : List Expr} {kk : Nat} (h : X.K = K) (hg : Gl X "zip") (hm : X.mg "zip" = none) (ha : PA X [e, e2] ta)
    (hs : starEach [e, e2] X.env = (false, eval e X.env) :: starEach [e2] X.env := by rfl) (hpl : (backTo pos (starEach [e2] X.env)).any (·.1) = false := by rfl) :
    PI X (.Tuple elts kk tpos) (.Call (.Name "zip" p) [e, e2] [] pos) (iZipM K t1 t2 ta) := by subst h; exact pi_zipM t1 t2 hg hm ha hs hpl
theorem walk_zipM {t1 t2 : Bool} {K : PySem.W.Frag} {a b : Addr} {xs ys : List V} {n : Nat} (hx : xs.length = n) (hy : ys.length = n) : Walk (ItM t1 t2 K a b) n (fun H => SqB t1 K H a xs ∧ SqB t2 K H b ys) (YPair (fun i => xs[i]?) (fun i => ys[i]?)) := by
  refine ⟨fun i H hi q => ⟨xs, ys, q.1, q.2, by omega, by omega⟩, fun H q => ⟨xs, ys, q.1, q.2, by omega, by omega, .inl hx.symm⟩, fun i H v H' hi q y => ?_⟩
  obtain ⟨T, x, y, h1, h2, h3, h4, h5⟩ := y
  exact ⟨T, x, y, h1, h2, h3, h4 xs q.1, h5 ys q.2⟩
theorem wipe_in {σ : L2.St} {j : Nat} : ∀ {vs : List Nat}, j ∈ vs → j < σ.length → (wipe σ vs)[j]? = some none
  | v :: vs, h, hl => by
    show ((wipe σ vs).set v none)[j]? = some none
    by_cases e : v = j
    · subst e
      rw [List.getElem?_set_self (by rw [wipe_length]; exact hl)]
    · rw [List.getElem?_set_ne e]
      exact wipe_in ((List.mem_cons.mp h).resolve_left fun z => e z.symm) hl
/-- what stands in a slot that is wiped does not matter -/
theorem wipe_set {σ : L2.St} {i : Nat} {x : Option V} {vs : List Nat} (h : i ∈ vs) : wipe (σ.set i x) vs = wipe σ vs := by
  refine List.ext_getElem? fun j => ?_
  by_cases hl : j < σ.length
  · by_cases hj : j ∈ vs
    · rw [wipe_in hj (by rw [List.length_set]; exact hl), wipe_in hj hl]
    · rw [wipe_out hj, wipe_out hj, List.getElem?_set_ne (fun z => hj (by rw [← z]; exact h))]
  · rw [List.getElem?_eq_none (by rw [wipe_length, List.length_set]; omega), List.getElem?_eq_none (by rw [wipe_length]; omega)]
theorem wipe_wipe {σ : L2.St} {vs : List Nat} : wipe (wipe σ vs) vs = wipe σ vs := by
  refine List.ext_getElem? fun j => ?_
  by_cases hl : j < σ.length
  · by_cases hj : j ∈ vs
    · rw [wipe_in hj (by rw [wipe_length]; exact hl), wipe_in hj hl]
    · rw [wipe_out hj, wipe_out hj]
  · rw [List.getElem?_eq_none (by rw [wipe_length, wipe_length]; omega), List.getElem?_eq_none (by rw [wipe_length]; omega)]
end G
namespace G
open PySem PySem.Spec PyProof.Rows L2 Evl
/-! ## methods of built-in types within a suite: the written part by its letter -/
theorem kBm {X : Cx} {K : PySem.W.Frag} {T name id : String} {r : V → List V → Hp → VK → Prop} {o e : Expr} {es : List Expr} {to_ : TE} {t : TA} {apos cpos : Pos} (h : X.K = K) (p1 : PlainAttrs T) (p2 : Slot T name id) (p3 : typeOf (.builtin id) = pure (.type "method_descriptor")) (p4 : MtR X id r) (p5 : PE X o to_) (p6 : PA X (e :: es) t)
    (p7 : attributeBase o name X.env (eval o X.env) = eval o X.env := by rfl) (p8 : ((backTo cpos (starEach (e :: es) X.env)).all (fun x => !x.1) && (backToKw cpos (keywordEach [] X.env)).all (fun x => x.1.isSome) && decide ((e :: es).length + ([] : List Keyword).length + (if ([] : List Keyword).isEmpty then 0 else 1) < 30)) = true := by rfl)
    (p9 : (apos.endLine == cpos.line) = true := by rfl) (p10 : starEach (e :: es) X.env = (false, eval e X.env) :: starEach es X.env := by rfl) (p11 : (backTo cpos (starEach es X.env)).any (·.1) = false := by rfl) : PE X (.Call (.Attribute o name apos) (e :: es) [] cpos) (tBM K T r to_ t) := by
  subst h
  exact pe_bm p1 p2 p3 p4 p5 p6 p7 p8 p9 p10 p11
theorem kMtIndex {X : Cx} {K : PySem.W.Frag} (h : X.K = K) : MtR X "list.index" (rIndex K) := by subst h; exact mt_index
end G
namespace G
open PySem PySem.Spec PyProof.Rows L2 Evl
/-! ## own classes of errors -/
def HasX (P : Program) (w : World) (K : PySem.W.Frag) (mg : Str → Option Value) (base : Heap) (k : Nat) (x : Str) (ps : List Str) (sp : Sp) : Prop :=
  ∃ (f : Addr) (fd : FuncData), FnOk P w K mg base (L2.CX P w) k f fd ps sp ∧ mg x = some (.ref f) ∧ PySem.W.keepIn K (.ref f) = true ∧ Binds K fd ps []
theorem passX0 {X : Cx} {P : Program} {w : World} : Passes (L2.CX P w) X (fun _ _ _ => False) := fun _ _ _ _ _ _ _ h => by
  obtain ⟨_, _, _, _, _, _, _, _, _, _, _, _, h⟩ := h
  exact h.elim
/-- an own class over ValueError without __init__, at C -/
structure ExcT (K : PySem.W.Frag) (mg : Str → Option Value) (x : Str) (C : Addr) : Prop where
  gC : mg x = some (.ref C)
  xP : PySem.W.excIn K C [.type "ValueError", .type "Exception", .type "BaseException", .type "object"] "ValueError.__new__" = true
  kC : PySem.W.keepIn K (.ref C) = true
  bC : PySem.W.subIn K (.ref C) (.type "BaseException") = some true
  tC : PySem.W.typeIn K (.ref C) = some (.type "type")
/-- what an except clause asks of the class that it names -/
structure ExcH (K : PySem.W.Frag) (mg : Str → Option Value) (x : Str) (C : Addr) : Prop where
  u : ExcT K mg x C
  dict : PySem.W.hasDictIn K C = true
  self : PySem.W.subIn K (.ref C) (.ref C) = some true
theorem ExcH.hit {K : PySem.W.Frag} {mg : Str → Option Value} {x : Str} {C : Addr} (U : ExcH K mg x C) : PySem.W.exmOne K (.ref C) (.ref C) = some true := PySem.W.exm_ref U.u.bC U.dict U.u.tC U.self
end G
namespace G
open PySem PySem.Spec PyProof.Rows L2 Evl
/-! ## own errors: caught by name or by a class above, asked for their class -/
structure ExcI (K : PySem.W.Frag) (mg : Str → Option Value) (x : Str) (C : Addr) : Prop where
  u : ExcT K mg x C
  dict : PySem.W.hasDictIn K C = true
  self : PySem.W.subIn K (.ref C) (.ref C) = some true
  isc : ExcC K C
def IsK (K : PySem.W.Frag) (mg : Str → Option Value) (C : Addr) (d : Str) (b : Bool) : Prop := ∃ D : Addr, mg d = some (.ref D) ∧ PySem.W.kitOne K (.ref C) (.ref D) = some b
def CatchK (K : PySem.W.Frag) (mg : Str → Option Value) (C : Addr) (s : Str) : Prop := ∃ D : Addr, mg s = some (.ref D) ∧ PySem.W.exmOne K (.ref C) (.ref D) = some true
theorem ExcI.hit {K : PySem.W.Frag} {mg : Str → Option Value} {x : Str} {C : Addr} (U : ExcI K mg x C) : PySem.W.exmOne K (.ref C) (.ref C) = some true := PySem.W.exm_ref U.u.bC U.dict U.u.tC U.self
theorem IsK.at_ {K : PySem.W.Frag} {mg : Str → Option Value} {C D : Addr} {d : Str} {b : Bool} (h : IsK K mg C d b) (g : mg d = some (.ref D)) : PySem.W.kitOne K (.ref C) (.ref D) = some b := by
  obtain ⟨D', g', k⟩ := h
  rw [g] at g'
  cases g'; exact k
theorem CatchK.at_ {K : PySem.W.Frag} {mg : Str → Option Value} {C D : Addr} {s : Str} (h : CatchK K mg C s) (g : mg s = some (.ref D)) : PySem.W.exmOne K (.ref C) (.ref D) = some true := by
  obtain ⟨D', g', k⟩ := h
  rw [g] at g'
  cases g'; exact k
theorem pe_ex {X : Cx} {e : Expr} {α : Type} {p : α → Prop} {t : α → TE} (h : ∀ x, p x → PE X e (t x)) : PE X e (fun σ H Q => ∃ x, p x ∧ t x σ H Q) := by
  refine ⟨fun ps s σ H Q I z => ?_⟩
  obtain ⟨x, px, hx⟩ := z
  exact (h x px).run ps s σ H Q I hx
/-- isinstance of the error that the suite holds: whichever own error it is -/
theorem pe_isE {X : Cx} {a : Addr} {oe : Obj} {pn : List (Addr × Obj)} {cls : Value} {dd : Option Addr} {e : Expr} {t : Addr → TE} (hz : Zc cls dd oe) (hf : ∃ vs, oe.data = .fields vs)
    (h : ∀ D : Addr, Zc (.ref D) none oe → ExcC X.K D → PE (X.suite a ((a, oe) :: pn)) e (t D)) : PE (X.suite a ((a, oe) :: pn)) e (fun σ H Q => ∃ D : Addr, (cls = .ref D ∧ dd = none ∧ ExcC X.K D) ∧ t D σ H Q) :=
  pe_ex (p := fun D => cls = .ref D ∧ dd = none ∧ ExcC X.K D) fun D z => by
    obtain ⟨rfl, rfl, ic⟩ := z
    exact h D hz ic
/-! ## methods and classes called where what is raised is taken at the slots -/
section
variable {X : Cx} {CX : CXT} {k : Nat} {f C : Addr} {fd : FuncData} {ps : List Str} {sp : Sp} {dvs : List V} {ds : List Value} {E : L2.St → XK} {x m : Str} {p pos apos : Pos} {e o : Expr} {es : List Expr} {to_ : TE} {t : TA}
def tMethX (C : Addr) (m : Str) (sp : Sp) (dvs : List V) (E : L2.St → XK) (to_ : TE) (t : TA) : TE := fun σ H Q => to_ σ H fun x H1 => ∃ a dx fs, x = .ref a ∧ H1 a = some (.ins C dx fs) ∧ fs.lookup m = none ∧ t σ H1 fun vs H2 => sp (x :: (vs ++ dvs)) H2 Q (E σ)
def tMakeX (C : Addr) (sp : Sp) (dvs : List V) (E : L2.St → XK) (t : TA) : TE := fun σ H Q => t σ H fun vs H1 => ∀ x dx, H1 x = none → H1 dx = none → dx ≠ x → sp (.ref x :: (vs ++ dvs)) (upd (upd H1 dx (.own x)) x (.ins C dx [])) (fun v H2 => v = .non ∧ Q (.ref x) H2) (E σ)
theorem pe_methX {pl : Sem Bool} (ho : PE X o to_) (cc : Cls X.K C) (mm : Meth X.K C m f) (Fk : FnOk X.prog X.w X.K X.mg X.base CX k f fd ps sp) (rm : Room k X.A) (bd : Binds X.K fd ps ds) (dv : Vals dvs ds)
    (px : ∀ σ, PassesAt CX X σ (E σ)) (pa : PA X (e :: es) t) (s1 : starEach (e :: es) X.env = (false, eval e X.env) :: starEach es X.env := by rfl) (s2 : (backTo pos (starEach es X.env)).any (·.1) = false := by rfl)
    (s3 : eval (.Call (.Attribute o m apos) (e :: es) [] pos) X.env = (do let ov ← eval o X.env; standAt apos.atName; let (f, first) ← holding [ov] (getMethod ov m pl); callWith pos f first (backTo pos (starEach (e :: es) X.env)) (backToKw pos (keywordEach [] X.env))) := by rfl) :
    PE X (.Call (.Attribute o m apos) (e :: es) [] pos) (tMethX C m sp dvs E to_ t) := by
  refine ⟨fun pins st σ H Q I z => PySem.W.methodCall_KW (pl := pl) (thn (ho.run pins st σ H _ I z) fun q0 st1 ⟨y, H1, I1, ry, b, dx, fl, ey, eb, lk, z1⟩ => ?_) s3⟩
  subst ey
  cases (show q0 = Value.ref b from ry)
  exact getmeth_ok I1 eb cc mm lk (PySem.W.callWith_K (first := [.ref b]) (h₀ := X.base) I.ok.mod.kin mm.kp (thn (pa.run pos pins st1 σ H1 _ I1 z1) fun ws st2 ⟨vs, H2, I2, rs, z2⟩ => ⟨I2.kIn, run_fnSD (us := .ref b :: ws) (vs := .ref b :: vs) Fk rm bd dv (px σ) I2 (.cons rfl rs) z2⟩) s1 s2)
theorem run_makeX {pins : List (Addr × Obj)} {σ : L2.St} {H : Hp} {st : Shared} {Q : VK} {us : List Value} {vs : List V} (M : Mk X.K C f) (Fk : FnOk X.prog X.w X.K X.mg X.base CX k f fd ps sp) (rm : Room (k + 1) X.A) (bd : Binds X.K fd ps ds) (dv : Vals dvs ds)
    (px : PassesAt CX X σ (E σ)) (I : Inv X pins σ H st) (rs : Vals vs us)
    (z : ∀ x dx, H x = none → H dx = none → dx ≠ x → sp (.ref x :: (vs ++ dvs)) (upd (upd H dx (.own x)) x (.ins C dx [])) (fun v H2 => v = .non ∧ Q (.ref x) H2) (E σ)) :
    wpAny (model X.prog X.w) X.A (call (.ref C) us) (EP X pins σ Q) X.xe st := by
  have z1 := z (st.heap.objs.size + 1) st.heap.objs.size (I.hok.fresh (Nat.le_succ _)) (I.hok.fresh (Nat.le_refl _)) (Nat.ne_of_lt (Nat.lt_succ_self _))
  have J := Inv.made (C := C) I
  have rr : Vals (V.ref (st.heap.objs.size + 1) :: (vs ++ dvs)) (Value.ref (st.heap.objs.size + 1) :: (us ++ ds)) := .cons rfl (rs.append dv)
  have len : (Value.ref (st.heap.objs.size + 1) :: us ++ ds).length = ps.length := (rr.length.symm.trans (Fk.len _ _ _ _ z1))
  refine wpAny_call (make_map (f := f) I.kIn M.makes M.init (beq_iff_eq.mp M.fn) (codeAny_mono (Fk.run _ X.stack _ _ ⟨Value.ref (st.heap.objs.size + 1) :: us, []⟩ (Value.ref (st.heap.objs.size + 1) :: (us ++ ds)) _ _ (E σ) (rm.make C us []) (J.env0.make C us []) (bd _ (Value.ref (st.heap.objs.size + 1) :: us) J.kIn len) rr z1) fun r st' h => ?_))
  match r, h with
  | .error er, h => exact px pins _ _ er st' J h
  | .ok (.ret u), h =>
    obtain ⟨v, H', I3, rv, ev, q3⟩ := J.after h
    subst ev
    exact ⟨rv, ⟨V.ref (st.heap.objs.size + 1), H', I3, rfl, q3⟩⟩
  | .ok .next, h => exact h.elim
  | .ok .brk, h => exact h.elim
  | .ok .cont, h => exact h.elim
theorem pe_makeX (M : Mk X.K C f) (Fk : FnOk X.prog X.w X.K X.mg X.base CX k f fd ps sp) (rm : Room (k + 1) X.A) (gl : Gl X x) (gm : X.mg x = some (.ref C)) (bd : Binds X.K fd ps ds) (dv : Vals dvs ds) (px : ∀ σ, PassesAt CX X σ (E σ)) (pa : PA X (e :: es) t)
    (s0 : (x == ("__debug__" : Str)) = false := by decide) (s1 : starEach (e :: es) X.env = (false, eval e X.env) :: starEach es X.env := by rfl) (s2 : (backTo pos (starEach es X.env)).any (·.1) = false := by rfl) : PE X (.Call (.Name x p) (e :: es) [] pos) (tMakeX C sp dvs E t) :=
  ⟨fun pins st σ H Q I z => wpAny_Call_Name_kw (ld_glob I gl gm (PySem.W.callWith_K (h₀ := X.base) I.ok.mod.kin M.kp (thn (pa.run pos pins st σ H _ I z) fun us st1 ⟨vs, H1, I1, r, q⟩ => ⟨I1.kIn, run_makeX M Fk rm bd dv (px σ) I1 r q⟩) s1 s2) s0)⟩
end
end G
namespace G
open PySem PySem.Spec PyProof.Rows L2
/-! ## isinstance(e, (A, B)) of the error that a suite holds -/
theorem vals_of_refs : ∀ {bs : List Addr} {us : List Value}, Vals (bs.map V.ref) us → us = bs.map Value.ref
  | [], _, r => by cases r; rfl
  | b :: bs, _, r => by
    cases r with
    | cons h t =>
      rw [List.map_cons, ← vals_of_refs t]
      cases h
      rfl
def rIsET (K : PySem.W.Frag) (D a : Addr) : List V → Hp → VK → Prop := fun xs H Q => ∃ (tp : Addr) (cs : List Addr) (b : Bool), xs = [.ref a, .ref tp] ∧ SqT K H tp (cs.map V.ref) ∧ PySem.W.kitAny K (.ref D) (cs.map Value.ref) = some b ∧ Q (.bl b) H
theorem call_isET {X : Cx} {a D : Addr} {oe : Obj} {pn : List (Addr × Obj)} (C : ExcC X.K D) (hz : Zc (.ref D) none oe) (hf : ∃ vs, oe.data = .fields vs) : CallR (X.suite a ((a, oe) :: pn)) (.builtin "isinstance") (rIsET X.K D a) := by
  intro pins s σ H xs us Q I r h
  obtain ⟨tp, cs, b, rfl, hq, e, q⟩ := h
  obtain rfl : us = [.ref a, .ref tp] := vals_of_refs (bs := [a, tp]) r
  obtain ⟨hget, _⟩ := I.pin (a, oe) (List.mem_append.mpr (.inl List.mem_cons_self))
  obtain ⟨its, rv, ⟨⟨oc, od, oda, osl⟩, ho, hcl, n, hdt⟩, _⟩ := I.tuple hq
  obtain rfl := vals_of_refs rv
  dsimp only at hcl hdt
  subst hcl hdt
  obtain ⟨vs, hv⟩ := hf
  have J : PySem.W.InstAt s.heap a oe D none := by
    obtain ⟨oc, od, oda, osl⟩ := oe
    obtain ⟨h1, h2⟩ := hz
    dsimp only at h1 h2 hv
    subst h1 h2 hv
    exact ⟨hget, rfl, rfl, trivial⟩
  exact PySem.W.kia_tup (PySem.W.handS_kitx_exc C.hg C.hk C.hs C.hd C.ha C.hn C.ht C.hm) I.kIn J ho e (fun z => nomatch z) fun tk => ⟨.bl b, H, I.kept (t' := tk) fun _ _ z => z, rfl, q⟩
end G
namespace G
open PySem PySem.Spec PyProof.Rows L2 Evl
/-! ## own errors with a field: made, raised, asked for their class, their field read -/
/-- a look at the class -/
def oexB (K : PySem.W.Frag) (C : Addr) : Bool := match K.lookup C with
  | some ⟨.type "type", _, .cls cd, ⟨[_, _, _, _, some (.builtin n), _]⟩⟩ => (match cd.mro with
    | .ref C' :: bm => decide (C' = C) && (decide (n = "ValueError.__new__") && (!cd.hasDel && (cd.hasDict && PySem.HandSPX.refsVE bm)))
    | _ => false)
  | _ => false
theorem oexB_ok {K : PySem.W.Frag} {C : Addr} (h : oexB K C = true) : ∃ nm q N bs bm sn sub ab col dd k0 k1 k2 k3 k5, K.lookup C = some (excClassObj nm q C N bs bm true sn sub ab col dd k0 k1 k2 k3 k5 "ValueError.__new__") ∧ PySem.HandSPX.refsVE bm = true := by
  unfold oexB at h
  split at h
  · rename_i dd cd k0 k1 k2 k3 n k5 hl
    obtain ⟨nm, bs, mro, N, q, hd, sn, sub, ab, col, del⟩ := cd
    dsimp only at h
    split at h
    · rename_i C' bm
      simp only [Bool.and_eq_true, decide_eq_true_eq, Bool.not_eq_true'] at h
      obtain ⟨h1, h2, h3, h4, h5⟩ := h
      subst h1 h2 h3 h4
      exact ⟨nm, q, N, bs, bm, sn, sub, ab, col, dd, k0, k1, k2, k3, k5, hl, h5⟩
    · cases h
  · cases h
/-- an own error class whose `__init__(self, f)` says super().__init__(..) and keeps f -/
structure ErrF (P : Program) (K : PySem.W.Frag) (mg : Str → Option Value) (x qual : Str) (C f : Addr) (fd : FuncData) (st : Stmt) (fld : Str) : Prop where
  gC : mg x = some (.ref C)
  sup : ∃ file : Str, SUP.SupT K mg C f fd qual (defArgs st) (defBody st) (defScope st) file ∧ ((P.main.file : Str) == file) = true
  top : (P.main.scope.names.lookup ("super" : Str)).isSome = false
  bd : Binds K fd ["self", fld] []
  no : PySem.W.findIn K (.ref C) fld = some none
  isc : ExcC K C
/-- what such an `__init__` does -/
def spErr (C : Addr) (fld : Str) (ok : V → Hp → Prop) : Sp := fun vs H Q _ => ∃ (a : Addr) (y : V), vs = [.ref a, y] ∧ H a = some (exo a C none) ∧ ok y H ∧ ∀ d, H d = none → d ≠ a → Q .non (upd (upd H d (exd d [(fld, y)])) a (exo a C (some d)))
/-- a class that may be made: its `__init__` keeps this -/
structure Own1 (P : Program) (w : World) (K : PySem.W.Frag) (mg : Str → Option Value) (base : Heap) (x fld : Str) (C f : Addr) (fd : FuncData) (ok : V → Hp → Prop) : Prop where
  gC : mg x = some (.ref C)
  oex : OexC K C
  ini : PySem.W.findIn K (.ref C) "__init__" = some (some (.ref f))
  tI : PySem.W.typeIn K (.ref f) = some (.type "function")
  fn : FnOk P w K mg base CX0 1 f fd ["self", fld] (spErr C fld ok)
  bd : Binds K fd ["self", fld] []
theorem pmk_own1 {X : Cx} {x fld : Str} {C f : Addr} {fd : FuncData} {ok : V → Hp → Prop} {p pos : Pos} {e : Expr} {es : List Expr} {ta : TA} (O : Own1 X.prog X.w X.K X.mg X.base x fld C f fd ok) (hr : Room 2 X.A) (hg : Gl X x) (ha : PA X (e :: es) ta)
    (hdb : (x == ("__debug__" : Str)) = false := by decide) (he : starEach (e :: es) X.env = (false, eval e X.env) :: starEach es X.env := by rfl) (hpl : (backTo pos (starEach es X.env)).any (·.1) = false := by rfl) :
    PMk X (.Call (.Name x p) (e :: es) [] pos) (tMkO C (spErr C fld ok) [] ta) :=
  pmk_oex O.oex O.ini O.tI O.fn hr O.bd .nil pass0 hg O.gC ha hdb he hpl
/-- the reading of it, behind its argument -/
theorem mk1 {C : Addr} {fld : Str} {ok : V → Hp → Prop} {y : V} {H1 : Hp} {Q : XK} {E : XK} (hok : ∀ a, H1 a = none → ok y (upd H1 a (exo a C none))) (q : ∀ d, H1 d = none → Q (.ref C) (some d) (upd H1 d (.xd [(fld, y)]))) :
    [y].length ≤ 1000 ∧ ∀ a, H1 a = none → spErr C fld ok (.ref a :: ([y] ++ [])) (upd H1 a (exo a C none))
      (fun v H2 => v = .non ∧ ∃ (d : Addr) (fs : List (Str × V)), H2 a = some (exo a C (some d)) ∧ H2 d = some (exd d fs) ∧ H1 d = none ∧ Q (.ref C) (some d) (upd (del H2 a) d (.xd fs))) E := by
  refine ⟨(by show 1 ≤ 1000; decide), fun a na => ⟨a, y, rfl, upd_same, hok a na, fun d nd hda => ⟨rfl, d, [(fld, y)], upd_same, ?_, ?_, ?_⟩⟩⟩
  · rw [upd_ne hda, upd_same]
  · rw [upd_ne hda] at nd; exact nd
  · have nd' : H1 d = none := by rw [upd_ne hda] at nd; exact nd
    have e : upd (del (upd (upd (upd H1 a (exo a C none)) d (exd d [(fld, y)])) a (exo a C (some d))) a) d (.xd [(fld, y)]) = upd H1 d (.xd [(fld, y)]) := by
      funext b
      by_cases h1 : b = d
      · rw [h1, upd_same, upd_same]
      · rw [upd_ne h1, upd_ne h1]
        by_cases h2 : b = a
        · rw [h2, del_same, na]
        · rw [del_ne h2, upd_ne h2, upd_ne h1, upd_ne h2]
    rw [e]
    exact q d nd'
section
variable {X : Cx} {a D : Addr} {oe : Obj} {pn : List (Addr × Obj)} {dd : Option Addr}
/-- a caught error's dict stands -/
def DictS (dd : Option Addr) (H : Hp) : Prop := ∀ d, dd = some d → ∃ fs, H d = some (.xd fs)
def rIsED (K : PySem.W.Frag) (D a : Addr) (dd : Option Addr) : List V → Hp → VK → Prop := fun xs H Q => DictS dd H ∧ rIsE K D a xs H Q
def rIsETD (K : PySem.W.Frag) (D a : Addr) (dd : Option Addr) : List V → Hp → VK → Prop := fun xs H Q => DictS dd H ∧ rIsET K D a xs H Q
theorem instD {s : Shared} {pins : List (Addr × Obj)} {σ : L2.St} {H : Hp} (I : Inv (X.suite a ((a, oe) :: pn)) pins σ H s) (hz : Zc (.ref D) dd oe) (hf : ∃ vs, oe.data = .fields vs) (hd : DictS dd H) : ∃ od, PySem.W.InstAt s.heap a oe D od := by
  obtain ⟨hget, _⟩ := I.pin (a, oe) (List.mem_append.mpr (.inl List.mem_cons_self))
  obtain ⟨vs, hv⟩ := hf
  cases dd with
  | none => exact ⟨none, hget, hz.1, by unfold PySem.W.notCls; rw [hv] <;> rfl, by rw [hz.2]; trivial⟩
  | some d =>
    obtain ⟨fs, e⟩ := hd d rfl
    have hx : ObjOk X.prog X.w H s.heap d (.xd fs) := I.hok d _ e
    obtain ⟨mA, hns, hr⟩ := hx
    obtain ⟨od, ho, hl⟩ := lookIn_ns hns
    exact ⟨some od, hget, hz.1, by unfold PySem.W.notCls; rw [hv] <;> rfl, by rw [hz.2]; exact ho⟩
theorem kitD {K : PySem.W.Frag} {od : Option Obj} (C : ExcC K D) : PySem.W.KitX K (.ref a) (.ref D) (fun h => PySem.W.InstAt h a oe D od) :=
  PySem.W.kitx_exc (by obtain ⟨cd, hc, _⟩ := PySem.W.any_some C.hd; rw [hc]; rfl) C.hg C.hk C.hs C.ha C.hn C.ht C.hm
theorem call_isED (C : ExcC X.K D) (hz : Zc (.ref D) dd oe) (hf : ∃ vs, oe.data = .fields vs) : CallR (X.suite a ((a, oe) :: pn)) (.builtin "isinstance") (rIsED X.K D a dd) := by
  intro pins s σ H xs us Q I r h
  obtain ⟨hd, c, cv, b, rfl, hcv, e, q⟩ := h
  cases r with
  | cons rx rr =>
    cases rr with
    | cons rt rr =>
      cases rr
      cases rx
      have ec := hcv _ rt
      subst ec
      obtain ⟨od, J⟩ := instD I hz hf hd
      exact PySem.W.kia_one (kitD C) I.kIn J e (fun z => nomatch z) fun tk => ⟨.bl b, H, I.kept (t' := tk) fun _ _ z => z, rfl, q⟩
theorem call_isETD (C : ExcC X.K D) (hz : Zc (.ref D) dd oe) (hf : ∃ vs, oe.data = .fields vs) : CallR (X.suite a ((a, oe) :: pn)) (.builtin "isinstance") (rIsETD X.K D a dd) := by
  intro pins s σ H xs us Q I r h
  obtain ⟨hd, tp, cs, b, rfl, hq, e, q⟩ := h
  obtain rfl : us = [.ref a, .ref tp] := vals_of_refs (bs := [a, tp]) r
  obtain ⟨its, rv, ⟨⟨oc, od0, oda, osl⟩, ho, hcl, n, hdt⟩, _⟩ := I.tuple hq
  obtain rfl := vals_of_refs rv
  dsimp only at hcl hdt
  subst hcl hdt
  obtain ⟨od, J⟩ := instD I hz hf hd
  exact PySem.W.kia_tup (kitD C) I.kIn J ho e (fun z => nomatch z) fun tk => ⟨.bl b, H, I.kept (t' := tk) fun _ _ z => z, rfl, q⟩
theorem pe_isED {cls : Value} {e : Expr} {t : Addr → TE} (hz : Zc cls dd oe) (hf : ∃ vs, oe.data = .fields vs)
    (h : ∀ D : Addr, Zc (.ref D) dd oe → ExcC X.K D → PE (X.suite a ((a, oe) :: pn)) e (t D)) : PE (X.suite a ((a, oe) :: pn)) e (fun σ H Q => ∃ D : Addr, (cls = .ref D ∧ ExcC X.K D) ∧ t D σ H Q) :=
  pe_ex (p := fun D => cls = .ref D ∧ ExcC X.K D) fun D z => by
    obtain ⟨rfl, ic⟩ := z
    exact h D hz ic
end
end G
namespace G
open PySem PySem.Spec PyProof.Rows L2 Evl
/-! ## defs that let out an exception whose context is none; defs called while one is handled -/
def HasN (P : Program) (w : World) (K : PySem.W.Frag) (mg : Str → Option Value) (base : Heap) (k : Nat) (x : Str) (ps : List Str) (sp : Sp) : Prop :=
  ∃ (f : Addr) (fd : FuncData), FnOk P w K mg base (L2N.CX P w) k f fd ps sp ∧ mg x = some (.ref f) ∧ PySem.W.keepIn K (.ref f) = true ∧ Binds K fd ps []
def HasH (P : Program) (w : World) (K : PySem.W.Frag) (mg : Str → Option Value) (base : Heap) (k : Nat) (x : Str) (ps : List Str) (sp : Sp) : Prop :=
  ∃ (f : Addr) (fd : FuncData), L2H.FnH P w K mg base CX0 k f fd ps sp ∧ mg x = some (.ref f) ∧ PySem.W.keepIn K (.ref f) = true ∧ Binds K fd ps []
theorem passN0 {X : Cx} {P : Program} {w : World} : Passes (L2N.CX P w) X (fun _ _ _ => False) := fun _ _ _ _ _ _ _ h => by
  obtain ⟨_, _, _, _, _, _, _, _, _, _, _, _, h⟩ := h
  exact h.elim
theorem takesN0 {X : Cx} : L2N.Takes X (fun _ _ _ _ => False) := fun u s' x => by
  obtain ⟨_, _, _, _, _, _, _, _, _, _, _, _, _, _, _, _, z⟩ := x
  exact z.elim
section
variable {P : Program} {w : World} {K : PySem.W.Frag} {mg : Str → Option Value} {base : Heap}
/-- as Fun.okX, what is let out bears no context -/
theorem _root_.L2.Fun.okN {x qual : Str} {st : Stmt} {f : Addr} {fd : FuncData} {N ps : List Str} {k : Nat} {sp : Sp} (F : Fun K x qual st f fd) (S : FnScope N ps (defScope st)) (len : ∀ vs H Q E, sp vs H Q E → vs.length = ps.length)
    (hbody : ∀ (cdv : Value) (A : Around) (outer : List Env) (s : Shared) (H : Hp) (vs : List V) (Q : VK) (E : XK), Room k (A.deeper (envOfC qual (defScope st) s.heap.objs.size f cdv)) → sp vs H Q E →
      ∃ t, PSs (cxOf (L2N.CX P w) P w K mg base N qual (defScope st) f cdv A outer s H E) (defBody st) t ∧ t { nx := fun _ H' => Q .non H', rt := Q } (start N vs) H) : FnOk P w K mg base (L2N.CX P w) (k + 1) f fd ps sp := by
  obtain ⟨oc, od, kV, doc, pm, an, cdv, ct, osl, rfl, lk, hcd⟩ := F.ex
  exact fn_of lk hcd S len fun A outer s H vs Q E hr hsp => hbody cdv A outer s H vs Q E hr hsp
/-- as Fun.ok, for a def that is called while an exception is handled -/
theorem _root_.L2.Fun.okH {x qual : Str} {st : Stmt} {f : Addr} {fd : FuncData} {N ps : List Str} {k : Nat} {sp : Sp} (F : Fun K x qual st f fd) (S : FnScope N ps (defScope st)) (len : ∀ vs H Q E, sp vs H Q E → vs.length = ps.length)
    (hbody : ∀ (cdv : Value) (A : Around) (outer : List Env) (s : Shared) (H : Hp) (vs : List V) (Q : VK) (E : XK) (p : Addr × Obj), L2H.RoomH k (A.deeper (envOfC qual (defScope st) s.heap.objs.size f cdv)) → L2H.HotC (L2H.cxH CX0 P w K mg base N qual (defScope st) f cdv A outer s H E p).nox → sp vs H Q E →
      ∃ t, PSs (L2H.cxH CX0 P w K mg base N qual (defScope st) f cdv A outer s H E p).nox (defBody st) t ∧ t { nx := fun _ H' => Q .non H', rt := Q } (start N vs) H) : L2H.FnH P w K mg base CX0 (k + 1) f fd ps sp := by
  obtain ⟨oc, od, kV, doc, pm, an, cdv, ct, osl, rfl, lk, hcd⟩ := F.ex
  refine L2H.fn_ofH lk hcd S len fun A outer s H vs Q E p hot hr hsp => ?_
  obtain ⟨t, ht, q⟩ := hbody cdv A outer s H vs Q E p hr ⟨p, ⟨hot.1, hot.2⟩, List.mem_singleton.mpr rfl⟩ hsp
  exact ⟨t, ht.nox, q⟩
theorem Dfd.hasH {x : Str} {st : Stmt} {ps : List Str} {k : Nat} {sp : Sp} (d : Dfd K mg x st ps) (h : ∀ f fd, Fun K x x st f fd → L2H.FnH P w K mg base CX0 k f fd ps sp) : HasH P w K mg base k x ps sp := by
  obtain ⟨f, fd, F, g, b⟩ := d
  exact ⟨f, fd, h f fd F, g, F.kp, b⟩
end
theorem hu_ofH {k : Nat} {A : Around} (r : L2H.RoomH k A) : A.units + 1 < cLine := by have := r.un; omega
theorem unitsH {k : Nat} {A : Around} (r : L2H.RoomH k A) : A.units + 64 < cLine := by have := r.un; omega
theorem opNeK {X : Cx} {K : PySem.W.Frag} (h : X.K = K) (hu : X.A.units + 64 < cLine) : OpR X (compareOp .NotEq) (rNeD K) := by
  subst h
  exact op_neD hu
theorem roomS {k : Nat} {A : Around} {v : Option Value} (r : Room k A) : L2H.RoomH k (A.mark v) := ⟨r.dp, r.un⟩
def noE : L2.St → XK := fun _ _ _ _ => False
theorem passS {X : Cx} {E : L2.St → XK} : ∀ σ, PassesAt CX0 X σ (E σ) := fun _ _ _ _ _ _ _ h => h.elim
/-- the context of a suite bears its exception -/
theorem hot_suite {X : Cx} {a : Addr} {oe : Obj} {cls : Value} {d : Option Addr} {pn : List (Addr × Obj)} (hz : L2N.Zn cls d oe) (hf : ∃ vs, oe.data = .fields vs) : L2H.HotC (X.suite a ((a, oe) :: pn)) := by
  obtain ⟨vs, e⟩ := hf
  exact ⟨(a, oe), ⟨rfl, vs, e, hz.2.2 vs e⟩, List.mem_cons_self⟩
section
variable {X : Cx} {x : Str} {C : Addr} {e : Expr} {es : List Expr} {t : TA} {p pos : Pos}
/-- C(e, ..), an own class over ValueError, no context -/
theorem pmkN_ownA {bmB : List Value} {B newId initId : String} (F : ExcBaseFacts B newId initId bmB) (q : PySem.W.excIn X.K C bmB newId = true) (gC : X.mg x = some (.ref C))
    (kC : PySem.W.keepIn X.K (.ref C) = true) (r : Raises X (.ref C)) (hg : Gl X x) (ha : PA X (e :: es) t) (hdb : (x == ("__debug__" : Str)) = false := by decide)
    (he : starEach (e :: es) X.env = (false, eval e X.env) :: starEach es X.env := by rfl) (hpl : (backTo pos (starEach es X.env)).any (·.1) = false := by rfl) :
    L2N.PMk X (.Call (.Name x p) (e :: es) [] pos) (fun σ H Q => t σ H fun vs H1 => vs.length ≤ sizeLine ∧ Q (.ref C) none H1) := fun pins s σ H Q I h =>
  wpAny_Call_Name_kw (ld_glob I hg gC (PySem.W.callWith_K (h₀ := X.base) I.ok.mod.kin kC (thn (ha.run pos pins s σ H _ I h) fun us s1 k => by
    obtain ⟨vs, H1, I1, r1, hz, q1⟩ := k
    refine ⟨I1.kIn, ?_⟩
    show wpAny _ _ (call (.ref C) us) _ _ _
    obtain ⟨_, _, _, _, _, _, _, _, _, _, _, _, _, _, _, _, _, hC, hN, hni, T⟩ := exc_obj I1.kIn q
    exact wpAny_call_exc_subT F T hC hN hni (fun h' e hm => L2N.mk_of I1 hm r q1 (I1.hok.gone hm.new)) (by rw [← r1.length]; exact hz)) he hpl) hdb)
/-- C(e, ..), its `__init__` keeps a field, no context -/
theorem pmkN_own1 {fld : Str} {f : Addr} {fd : FuncData} {ok : V → Hp → Prop} {ta : TA} (O : Own1 X.prog X.w X.K X.mg X.base x fld C f fd ok) (hr : Room 2 X.A) (hg : Gl X x) (ha : PA X (e :: es) ta)
    (hdb : (x == ("__debug__" : Str)) = false := by decide) (he : starEach (e :: es) X.env = (false, eval e X.env) :: starEach es X.env := by rfl) (hpl : (backTo pos (starEach es X.env)).any (·.1) = false := by rfl) :
    L2N.PMk X (.Call (.Name x p) (e :: es) [] pos) (tMkO C (spErr C fld ok) [] ta) := by
  intro pins s σ H Q I h
  have IK := I.ok.mod.kin
  refine wpAny_Call_Name_kw (ld_glob I hg O.gC (PySem.W.callWith_K (h₀ := X.base) IK O.oex.kC (thn (ha.run pos pins s σ H _ I h) fun us s1 kk => ?_) he hpl) hdb)
  obtain ⟨vs, H1, J, r1, hz, q1⟩ := kk
  refine ⟨J.kIn, ?_⟩
  obtain ⟨hp, g, dr, tk, os⟩ := s1
  obtain ⟨_, _, _, _, bm, _, _, _, _, _, _, _, _, _, _, hC, hbm⟩ := O.oex.cls
  have one : hp.objs.size ≤ hp.objs.size + 1 := Nat.le_succ _
  have hq := q1 (hp.objs.size + 1) (J.hok.fresh one)
  rw [List.append_nil] at hq
  have old : ∀ b o, hp.get? b = some o → ((hp.push (PySem.W.kdv_tup us)).push (PySem.HandSPX.excO C hp.objs.size)).get? b = some o := fun b o z => Heap.get?_push_of_some _ (Heap.get?_push_of_some _ z)
  have J2 : Inv X pins σ (upd H1 (hp.objs.size + 1) (exo (hp.objs.size + 1) C none)) ⟨(hp.push (PySem.W.kdv_tup us)).push (PySem.HandSPX.excO C hp.objs.size), g, dr, tk, os⟩ :=
    J.laid (t' := tk) old one (exo_ok (by heap_get))
  have r2 : Vals (V.ref (hp.objs.size + 1) :: vs) (Value.ref (hp.objs.size + 1) :: us) := .cons rfl r1
  have hl : ((Value.ref (hp.objs.size + 1) :: us) ++ []).length = (["self", fld] : List Str).length := by rw [List.append_nil, ← r2.length]; exact O.fn.len _ _ _ _ hq
  have b2 := O.bd _ _ J2.kIn hl
  rw [List.append_nil] at b2
  refine wpAny_call (PySem.HandSPX.call_own F.excBase_ValueError (fun Y => PySem.HandSPX.refsVE_contains Y bm hbm) (J.kIn _ _ hC) (PySem.W.looks_findIn J.kIn O.ini) (fun self => PySem.W.bind_fn J.kIn self O.tI) (by have e := r1.length; rw [sizeLine_eq]; show us.length ≤ _; omega)
    (codeAny_mono (O.fn.run _ X.stack _ _ ⟨Value.ref (hp.objs.size + 1) :: us, []⟩ _ _ _ (fun _ _ _ => False) (hr.make C us []) (J2.env0.make C us []) b2 r2 hq) fun r s' z => ?_))
  match r with
  | .error er => exact z.elim
  | .ok .next => exact z.elim
  | .ok .brk => exact z.elim
  | .ok .cont => exact z.elim
  | .ok (.ret u) =>
    obtain ⟨v, H2, os2, bare2, un2, hok2, rv, ev, d, fs, ea, ed, hd1, q2⟩ := z
    subst ev
    obtain ⟨h2, g2, d2, t2, os'⟩ := s'
    obtain ⟨t0, G0, J3, kG, ge, hoe, na⟩ := mk_end0 (d2 := d2) (t2 := t2) J one old un2 hok2 os2 bare2 ea ed hd1
    exact ⟨rv, hp.objs.size + 1, _, _, ⟨G0, g2, d2, t2, os'⟩, _, .ref C, some d, rfl, J3, kG, ge, hoe, ⟨rfl, rfl, fun vs hv => by cases hv; rfl⟩, rfl, rfl, na, rfl, bare2, raises_own O.oex.exC O.oex.tyC, q2⟩
end
end G
namespace G
open PySem PySem.Spec PyProof.Rows L2 Evl TL
section
variable {P : Program} {w : World} {K : PySem.W.Frag} {mg : Str → Option Value} {base : Heap}
def okNms : V → Hp → Prop := fun y H => ∃ (a : Addr) (xs : List Str), y = .ref a ∧ H a = some (.tup (xs.map V.str)) ∧ xs.length ≤ 1000
theorem own_Looped {C f : Addr} {fd : FuncData} (F : ErrF P K mg "Looped" "Looped.__init__" C f fd s_Looped_init "names") (hlen : mg "len" = none) : Own1 P w K mg base "Looped" "names" C f fd okNms := by
  obtain ⟨file, T, hfile⟩ := F.sup
  refine ⟨F.gC, T.oex, T.ini, T.tI, ?_, F.bd⟩
  have SN : NdefX.NScope ["self", "names", "__class__"] ["self", "names"] ["__class__"] (defScope s_Looped_init) := NdefX.nscope_by (by decide +kernel)
  refine SUP.fn_sup (N := ["self", "names", "__class__"]) T hfile F.top rfl SN rfl rfl (by decide +kernel) (by decide +kernel) (fun vs H Q E h => ?_) (fun cda cc A outer s H vs Q E hr h => ?_) _ (hps := by decide)
  · obtain ⟨_, _, rfl, _⟩ := h
    rfl
  · obtain ⟨a, y, rfl, ha, ⟨na, xs, rfl, hxs, hn⟩, q⟩ := h
    have em : (Str.ofString (toString ((xs.length : Nat) : Int))) = mk (numL xs.length) := ext_tl (tl_num xs.length)
    have hl := numL_len (n := xs.length) (k := 9) (by decide) (by omega)
    have hg : (xs.length : Int).natAbs.log2 < 1920 := by
      have : (xs.length : Int).natAbs < 2 ^ 30 := by rw [Int.natAbs_natCast]; omega
      have := PySem.Flt.log2_lt_of (by decide : 0 < 30) this
      omega
    refine ⟨_, _, pa_cons (pe_joined (.cons (pe_fmt (pe_callB call_len_seq (by rfl) hlen (by decide +kernel) (pa_cons (pe_var (i := 1) rfl (.inl rfl)) pa_nil))) (.cons pe_str .nil))) pa_nil, pss_one (ps_ost (pe_var (i := 0) rfl (.inl rfl)) (pe_var (i := 1) rfl (.inl rfl))), a, rfl, ha, ?_⟩
    refine ⟨_, rfl, _, _, rfl, .inr (SqT.of hxs), .inr ⟨_, rfl, by rw [List.length_map]; exact hg, _, rfl, ?_, _, rfl, ?_, (by show 1 ≤ 1000; decide), ha, _, rfl, _, rfl, a, C, rfl, T.oex, F.no, .inl ⟨ha, fun d nd hda => q d nd hda⟩⟩⟩
    · rw [List.length_map, em]
      refine sz_of ?_
      rw [Str.length_append, mk_len]
      show 0 + _ ≤ _
      omega
    · rw [List.length_map, em]
      refine sz_of ?_
      rw [Str.length_append, Str.length_append, mk_len]
      show 0 + _ + 34 ≤ _
      omega
end
end G
namespace G
open PySem PySem.Spec PyProof.Rows L2 Evl TL
def namesD (d : CircD) : List Str := d.ins ++ d.gates.map (·.name) ++ d.regs.map (·.name)
structure TxtN (mg : Str → Option Value) : Prop where
  list : mg "list" = none
section
variable {P : Program} {w : World} {K : PySem.W.Frag} {mg : Str → Option Value} {base : Heap}
theorem gate_name {H : Hp} {a : Addr} {g : GateD} (h : GateAt H a g) : ∃ xs : List V, H a = some (.tup xs) ∧ xs[0]? = some (.str g.name) := by
  obtain ⟨t, pt, rt, ra, h1, _⟩ := h
  exact ⟨_, h1, rfl⟩
theorem reg_name {H : Hp} {a : Addr} {r : RegD} (h : RegAt H a r) : ∃ xs : List V, H a = some (.tup xs) ∧ xs[0]? = some (.str r.name) := by
  obtain ⟨ea, oa, h1, _⟩ := h
  exact ⟨_, h1, rfl⟩
def spNames : Sp := fun vs H Q _ => ∃ (c : Addr) (d : CircD) (it gt rt ot : Addr) (ga ra oa : List Addr), vs = [.ref c] ∧ CircAt H c d it gt rt ot ga ra oa ∧ (namesD d).length ≤ 1000 ∧ ∀ (l : Addr) (H' : Hp), H l = none → Ex H H' → H' l = some (.lst ((namesD d).map V.str)) → Q (.ref l) H'
theorem sc_all_names : FnScope ["circuit", "inputs", "gates", "regs", "_", "reg", "gate"] ["circuit"] (defScope s_all_names) := ⟨rfl, rfl, rfl, by decide +kernel, rfl, by decide +kernel, by decide +kernel⟩
theorem ok_all_names (D : Dfd K mg "_all_names" s_all_names ["circuit"]) (T : TxtN mg) : Has P w K mg base 1 "_all_names" ["circuit"] spNames := by
  refine D.has fun f fd F => F.ok sc_all_names (fun vs H Q E h => ?_) (fun cdv A outer s H vs Q E hr h => ?_)
  · obtain ⟨c, d, it, gt, rt, ot, ga, ra, oa, rfl, _⟩ := h
    rfl
  · obtain ⟨c, d, it, gt, rt, ot, ga, ra, oa, rfl, hc, hn, q⟩ := h
    have hlen : d.ins.length + d.gates.length + d.regs.length ≤ 1000 := by
      unfold namesD at hn
      rw [List.length_append, List.length_append, List.length_map, List.length_map] at hn
      omega
    refine ⟨_, (pss_cons (ps_asg (pv 0) (pg_tup rfl (pgs_cons (pg_name (i := 1) sc_all_names.nd rfl (.inl rfl)) (pgs_cons (pg_name (i := 2) sc_all_names.nd rfl (.inl rfl)) (pgs_cons (pg_name (i := 3) sc_all_names.nd rfl (.inl rfl)) (pgs_cons (pg_name (i := 4) sc_all_names.nd rfl (.inl rfl)) pgs_nil))))))
    (pss_one (ps_ret (pe_op op_cat (pe_op op_cat (pe_callTy call_list_of (by rfl) T.list (by decide +kernel) (pa_cons (pv 1) pa_nil)) (pe_lc (own := [("gate", 6)]) (g := gName 6) (tt := tYes) rfl sc_all_names.nd (pi_tup (pv 2)) (blkOk_by (N := ["circuit", "inputs", "gates", "regs", "_", "reg", "gate"]) (sc := defScope s_all_names) (own := [("gate", 6)]) (by decide +kernel)) (fun _ _ _ _ _ => (pg_name (i := 6) sc_all_names.nd rfl (.inl rfl))) (fun _ _ _ _ _ => pts_nil) (fun _ _ _ _ _ => (pe_ix (kIxT (K := K) rfl) (pv 6) pe_int (fun _ _ => rfl))))) (pe_lc (own := [("reg", 5)]) (g := gName 5) (tt := tYes) rfl sc_all_names.nd (pi_tup (pv 3)) (blkOk_by (N := ["circuit", "inputs", "gates", "regs", "_", "reg", "gate"]) (sc := defScope s_all_names) (own := [("reg", 5)]) (by decide +kernel)) (fun _ _ _ _ _ => (pg_name (i := 5) sc_all_names.nd rfl (.inl rfl))) (fun _ _ _ _ _ => pts_nil) (fun _ _ _ _ _ => (pe_ix (kIxT (K := K) rfl) (pv 5) pe_int (fun _ _ => rfl)))))))), ?_⟩
    refine ⟨_, rfl, c, _, rfl, SqT.of hc.top, rfl, _, _, rfl, _, _, rfl, _, _, rfl, _, _, rfl, rfl, ?_⟩
    refine ⟨_, rfl, _, _, rfl, .inr (SqT.of hc.ins), fun l1 n1 => ?_⟩
    have E1 : Ex H (upd H l1 (.lst (d.ins.map V.str))) := Ex.new n1
    have h1 : upd H l1 (.lst (d.ins.map V.str)) l1 = some (.lst (d.ins.map V.str)) := upd_same
    generalize upd H l1 (.lst (d.ins.map V.str)) = H1 at *
    have hc1 := hc.te (.of E1)
    refine ⟨_, rfl, gt, rfl, ⟨_, SqT.of hc1.gts⟩, fun L2 nL2 => wk_tup (K := K) (a := gt) (xs := ga.map V.ref) (fun j H' => Ex H1 H' ∧ H' L2 = some (.lst (((d.gates.map (·.name)).take j).map V.str))) ⟨Ex.new nL2, by rw [upd_same]; rfl⟩ (fun j H' _ g => SqT.of (g.1 _ _ hc1.gts)) ?_ ?_⟩
    · rintro j x H2 hx ⟨E2, hL⟩
      rw [List.getElem?_map] at hx
      cases e : ga[j]? with
      | none => rw [e] at hx; cases hx
      | some b =>
        rw [e] at hx; cases hx
        obtain ⟨g, hg, hgt⟩ := hc1.gates.at_ e
        obtain ⟨xs, hb, hx0⟩ := gate_name hgt
        have hj : j < d.gates.length := (List.getElem?_eq_some_iff.mp hg).1
        refine ⟨rfl, tYes_in ⟨_, rfl, _, _, _, _, rfl, rfl, SqT.of (E2 _ _ hb), atI_nat (j := 0) hx0, _, hL, sz_lt (by rw [List.length_map, List.length_take]; omega), E2.mut nL2, ?_⟩⟩
        rw [upd_same, List.take_add_one, List.getElem?_map, hg, List.map_append]; rfl
    rintro H2 ⟨E2, hL⟩
    rw [List.length_map, hc1.gates.1, ← List.length_map (f := fun g : GateD => g.name), List.take_length] at hL
    refine ⟨l1, L2, _, _, rfl, rfl, E2 _ _ h1, hL, sz_of (by rw [List.length_map, List.length_map, List.length_map]; omega), fun l3 n3 => ?_⟩
    rw [← List.map_append]
    have E3 : Ex H2 (upd H2 l3 (.lst ((d.ins ++ d.gates.map (·.name)).map V.str))) := Ex.new n3
    have h3 : upd H2 l3 (.lst ((d.ins ++ d.gates.map (·.name)).map V.str)) l3 = some (.lst ((d.ins ++ d.gates.map (·.name)).map V.str)) := upd_same
    generalize upd H2 l3 (.lst ((d.ins ++ d.gates.map (·.name)).map V.str)) = H3 at *
    have hc3 := hc.te (.of (E1.trans (E2.trans E3)))
    refine ⟨_, rfl, rt, rfl, ⟨_, SqT.of hc3.rgs⟩, fun L4 nL4 => wk_tup (K := K) (a := rt) (xs := ra.map V.ref) (fun j H' => Ex H3 H' ∧ H' L4 = some (.lst (((d.regs.map (·.name)).take j).map V.str))) ⟨Ex.new nL4, by rw [upd_same]; rfl⟩ (fun j H' _ g => SqT.of (g.1 _ _ hc3.rgs)) ?_ ?_⟩
    · rintro j x H4 hx ⟨E4, hL4⟩
      rw [List.getElem?_map] at hx
      cases e : ra[j]? with
      | none => rw [e] at hx; cases hx
      | some b =>
        rw [e] at hx; cases hx
        obtain ⟨g, hg, hgt⟩ := hc3.regs.at_ e
        obtain ⟨xs, hb, hx0⟩ := reg_name hgt
        have hj : j < d.regs.length := (List.getElem?_eq_some_iff.mp hg).1
        refine ⟨rfl, tYes_in ⟨_, rfl, _, _, _, _, rfl, rfl, SqT.of (E4 _ _ hb), atI_nat (j := 0) hx0, _, hL4, sz_lt (by rw [List.length_map, List.length_take]; omega), E4.mut nL4, ?_⟩⟩
        rw [upd_same, List.take_add_one, List.getElem?_map, hg, List.map_append]; rfl
    rintro H4 ⟨E4, hL4⟩
    rw [List.length_map, hc3.regs.1, ← List.length_map (f := fun g : RegD => g.name), List.take_length] at hL4
    refine ⟨l3, L4, _, _, rfl, rfl, E4 _ _ h3, hL4, sz_of (by rw [List.length_map, List.length_map, List.length_append, List.length_map, List.length_map]; omega), fun l5 n5 => ?_⟩
    have E5 := E1.trans (E2.trans (E3.trans E4))
    refine q l5 _ (fresh_back E5 n5) (E5.trans (Ex.new n5)) ?_
    rw [upd_same, ← List.map_append]; rfl
def spCheck (C : Addr) : Sp := fun vs H Q E => ∃ (c l : Addr) (d : CircD) (ns : List Str) (it gt rt ot : Addr) (ga ra oa : List Addr), vs = [.ref c, .ref l] ∧ CircAt H c d it gt rt ot ga ra oa ∧ (namesD d).length ≤ 1000 ∧ H l = some (.lst (ns.map V.str)) ∧ (∀ x ∈ ns, x.length ≤ 1000) ∧
  ((∀ x ∈ ns, x ∈ namesD d) → ∀ H', Ex H H' → Q .non H') ∧ ((∃ x ∈ ns, x ∉ namesD d) → ∀ H', Ex H H' → E (.ref C) none H')
theorem sc_check_nets : FnScope ["circuit", "names", "name", "nets"] ["circuit", "names"] (defScope s_check_nets) := ⟨rfl, rfl, rfl, by decide +kernel, rfl, by decide +kernel, by decide +kernel⟩
theorem ok_check_nets {C : Addr} (D : Dfd K mg "check_nets" s_check_nets ["circuit", "names"]) (U : ExcT K mg "UnknownName" C) (C1 : Has P w K mg base 1 "_all_names" ["circuit"] spNames) : HasN P w K mg base 2 "check_nets" ["circuit", "names"] (spCheck C) := by
  obtain ⟨f_all_names, d_all_names, G_all_names, g_all_names, k_all_names, b_all_names⟩ := C1
  obtain ⟨f, fd, F, gf, bf⟩ := D
  refine ⟨f, fd, F.okN sc_check_nets (fun vs H Q E h => ?_) (fun cdv A outer s H vs Q E hr h => ?_), gf, F.kp, bf⟩
  · obtain ⟨c, l, d, ns, it, gt, rt, ot, ga, ra, oa, rfl, _⟩ := h
    rfl
  · obtain ⟨c, l, d, ns, it, gt, rt, ot, ga, ra, oa, rfl, hc, hn, hl, hsm, q1, q2⟩ := h
    refine ⟨_, (pss_cons (ps_setDc (i := 3) (own := [("name", 2)]) (g := gName 2) (tt := tYes) rfl sc_check_nets.nd rfl rfl (sw_trueD rfl rfl rfl (by decide +kernel)) (pi_list (pe_call G_all_names (hr.mono (by omega)) (by rfl) g_all_names k_all_names b_all_names .nil pass0 (pa_cons (pv 0) pa_nil))) (blkOk_by (N := ["circuit", "names", "name", "nets"]) (sc := defScope s_check_nets) (own := [("name", 2)]) (by decide +kernel)) (fun _ _ _ _ _ => (pg_name (i := 2) sc_check_nets.nd rfl (.inl rfl))) (fun _ _ _ _ _ => pts_nil) (fun _ _ _ _ _ => (pv 2)) (fun _ _ _ _ _ => pe_bl))
    (pss_one (ps_for (passes_of rfl) rfl (pi_list (pv 1)) (pg_name (i := 2) sc_check_nets.nd rfl (.inl rfl))
      (pss_one (ps_if (pt_cmp (pc_dnotin (hu_of hr) (pv 2) (pv 3)))
        (pss_one (L2N.ps_raise rfl (L2N.takes_of rfl rfl rfl rfl) (pmkN_ownA PySem.F.excBase_ValueError U.xP U.gC U.kC (raises_own U.bC U.tC) rfl (pa_cons (pe_joined (.cons (pe_fmt (pv 2)) (.cons pe_str .nil))) pa_nil))))
        pss_nil))))), ?_⟩
    have hn2 : (namesD d).length ≤ 1000 := hn
    refine ⟨_, rfl, c, d, it, gt, rt, ot, ga, ra, oa, rfl, hc, hn, fun L H1 nL E1 hL => ⟨L, rfl, ⟨_, SqL.of hL⟩, fun Dc nDc => wk_list (K := K) (a := L) (xs := (namesD d).map V.str)
      (fun j H' => Ex H1 H' ∧ ∃ es : List (Key × V), H' Dc = some (.dK es) ∧ es.length ≤ j ∧ ∀ x : Str, (valV es (.inr x)).isSome = decide (x ∈ (namesD d).take j))
      ⟨Ex.new nDc, [], upd_same, Nat.le_refl _, fun x => by rw [List.take_zero]; rfl⟩ (fun j H' _ g => SqL.of (g.1 _ _ hL)) ?_ ?_⟩⟩
    · rintro j x H2 hx ⟨E2, es, hD, hel, hk⟩
      have hj : j < (namesD d).length := by have := (List.getElem?_eq_some_iff.mp hx).1; rw [List.length_map] at this; exact this
      obtain rfl : x = .str (namesD d)[j] := by rw [strV_at hj] at hx; exact (Option.some.inj hx).symm
      refine ⟨rfl, tYes_in ⟨_, rfl, es, .inr (namesD d)[j], rfl, hD, sz_lt (by omega), E2.mut nDc, _, upd_same, Nat.le_trans (length_putK _ _ _) (Nat.succ_le_succ hel), fun x => ?_⟩⟩
      rw [valV_put, List.take_add_one, List.getElem?_eq_getElem hj]
      by_cases e : x = (namesD d)[j]
      · rw [if_pos (by rw [e]), decide_eq_true (by rw [e]; exact List.mem_append.mpr (.inr (List.mem_singleton.mpr rfl)))]; rfl
      · rw [if_neg (fun z => e (Sum.inr.inj z)), hk x, decide_eq_decide]
        exact ⟨fun h => List.mem_append.mpr (.inl h), fun h => (List.mem_append.mp h).elim id fun z => absurd (List.mem_singleton.mp z) e⟩
    rintro H2 ⟨E2, es, hD, hel, hk⟩
    rw [List.length_map, List.take_length] at hk
    have e2 := E1.trans E2
    refine ⟨_, rfl, l, rfl, ⟨_, SqL.of (e2 _ _ hl)⟩, for_list (K := K) (a := l) (xs := ns.map V.str)
      (fun i σ H' => Ex H2 H' ∧ (∀ x ∈ ns.take i, x ∈ namesD d) ∧ ∃ z : Option V, σ = [some (.ref c), some (.ref l), z, some (.ref Dc)]) ⟨.refl _, (by rw [List.take_zero]; exact fun _ h => nomatch h), _, rfl⟩ (fun i σ H' _ g => SqL.of (g.1 _ _ (e2 _ _ hl))) ?_ ?_⟩
    · rintro i x σ H3 hx ⟨E3, hall, z, rfl⟩
      have hi : i < ns.length := by have := (List.getElem?_eq_some_iff.mp hx).1; rw [List.length_map] at this; exact this
      obtain rfl : x = .str ns[i] := by rw [strV_at hi] at hx; exact (Option.some.inj hx).symm
      refine ⟨_, rfl, _, rfl, Dc, _, rfl, DGet.k (k := Sum.inr ns[i]) (E3 _ _ hD), _, rfl, ?_⟩
      rw [hk]
      cases hm : decide (ns[i] ∈ namesD d) with
      | true =>
        refine iteF ⟨E3, fun x hx => ?_, _, rfl⟩
        rw [List.take_add_one, List.getElem?_eq_getElem hi] at hx
        rcases List.mem_append.mp hx with z | z
        · exact hall x z
        · rw [List.mem_singleton.mp z]; exact of_decide_eq_true hm
      | false =>
        have hlen := hsm _ (List.getElem_mem hi)
        have hno := of_decide_eq_false hm
        have e1 : (Str.empty ++ ns[i]).length = ns[i].length := by
          rw [len_tl, tl_append, List.length_append, len_tl ns[i]]
          exact Nat.zero_add _
        refine iteT ⟨_, rfl, .inl ⟨ns[i], rfl, sz_of (by omega), ns[i], rfl, sz_of (by omega), " is not a net", rfl, sz_of ?_, (by show 1 ≤ sizeLine; decide), ?_⟩⟩
        · rw [len_tl, tl_append, List.length_append, ← len_tl (Str.empty ++ ns[i]), e1]
          have : (tl (" is not a net" : Str)).length = 13 := by decide +kernel
          omega
        · exact q2 ⟨ns[i], List.getElem_mem hi, hno⟩ H3 (e2.trans E3)
    · rintro σ H3 ⟨E3, hall, z, rfl⟩
      rw [List.length_map, List.take_length] at hall
      exact q1 hall H3 (e2.trans E3)
end
end G
namespace G
open PySem PySem.Spec PyProof.Rows L2 Evl TL
structure TxtGr (mg : Str → Option Value) : Prop where
  enumerate : mg "enumerate" = none
/-- few gates, their names apart -/
structure GN (d : CircD) : Prop where
  nd : (gnames d).Nodup
  few : d.gates.length ≤ 200
  fewp : ∀ g ∈ d.gates, g.pins.length ≤ 100
theorem need_at {d : CircD} {k : Nat} {g : GateD} (h : d.gates[k]? = some g) : (needN d).getD k [] = (g.pins.filter fun x => decide (x ∈ gnames d)).map fun x => (gnames d).idxOf x := by
  unfold needN
  rw [List.getD_eq_getElem?_getD, List.getElem?_map, h]; rfl
theorem need_len (d : CircD) : (needN d).length = d.gates.length := List.length_map _
theorem need_lt {d : CircD} : ∀ k o, k < (needN d).length → o ∈ (needN d).getD k [] → o < (needN d).length := fun k o hk ho => by
  rw [need_len] at hk ⊢
  rw [need_at (List.getElem?_eq_getElem hk)] at ho
  obtain ⟨x, hx, rfl⟩ := List.mem_map.mp ho
  have := List.idxOf_lt_length_iff.mpr (of_decide_eq_true (List.mem_filter.mp hx).2)
  have e : (gnames d).length = d.gates.length := List.length_map _
  omega
section
variable {P : Program} {w : World} {K : PySem.W.Frag} {mg : Str → Option Value} {base : Heap}
theorem place_step {ns : List Str} {j : Nat} {n : Str} (nd : ns.Nodup) (hn : ns[j]? = some n) (x : Str) (f : Option V) (hf : f = if x ∈ ns.take j then some (.int (((ns.take j).idxOf x : Nat) : Int)) else none) :
    (if (Sum.inr x : Key) = Sum.inr n then some (V.int (j : Nat)) else f) = if x ∈ ns.take (j + 1) then some (.int (((ns.take (j + 1)).idxOf x : Nat) : Int)) else none := by
  have hj := (List.getElem?_eq_some_iff.mp hn).1
  have hno : n ∉ ns.take j := fun z => by
    obtain ⟨i, hi, e⟩ := List.getElem_of_mem z
    rw [List.length_take] at hi
    rw [List.getElem_take] at e
    obtain ⟨h1, h2⟩ := List.getElem?_eq_some_iff.mp hn
    have := (List.getElem_inj nd).mp (e.trans h2.symm)
    omega
  rw [take_snoc1 hn, List.idxOf_append]
  by_cases e : x = n
  · subst e
    rw [if_pos rfl, if_pos (List.mem_append_right _ (List.mem_singleton.mpr rfl)), if_neg hno, List.length_take, Nat.min_eq_left (Nat.le_of_lt hj)]
    have : [x].idxOf x = 0 := by simp
    rw [this, Nat.zero_add]
  · rw [if_neg fun z => e (Sum.inr.inj z), hf]
    by_cases h : x ∈ ns.take j
    · rw [if_pos h, if_pos (List.mem_append_left _ h), if_pos h]
    · rw [if_neg h, if_neg fun z => (List.mem_append.mp z).elim h fun y => e (List.mem_singleton.mp y)]
def spGates : Sp := fun vs H Q _ => ∃ (gt : Addr) (d : CircD) (ga : List Addr), vs = [.ref gt] ∧ H gt = some (.tup (ga.map V.ref)) ∧ All2 (GateAt H) ga d.gates ∧ GN d ∧ ∀ (q : Addr) (na : List Addr) (H' : Hp), Ex H H' → H' q = some (.lst (na.map V.ref)) → All2 (fun b l => H' b = some (.lst (natsV l))) na (needN d) → Q (.ref q) H'
theorem sc_gates_read : FnScope ["gates", "places", "g", "gate", "net"] ["gates"] (defScope s_gates_read) := ⟨rfl, rfl, rfl, by decide +kernel, rfl, by decide +kernel, by decide +kernel⟩
theorem ok_gates_read (D : Dfd K mg "_gates_read" s_gates_read ["gates"]) (T : TxtGr mg) : Has P w K mg base 1 "_gates_read" ["gates"] spGates := by
  refine D.has fun f fd F => F.ok sc_gates_read (fun vs H Q E h => ?_) (fun cdv A outer s H vs Q E hr h => ?_)
  · obtain ⟨gt, d, ga, rfl, _⟩ := h
    rfl
  · obtain ⟨gt, d, ga, rfl, hg, hA, hN, q⟩ := h
    refine ⟨_, (pss_cons (ps_set (i := 1) sc_gates_read.nd rfl (.inr rfl) (pe_dc (own := [("g", 2), ("gate", 3)]) (g := gTup K 2 (gCons (gName 2) (gCons (gName 3) gNil))) (tt := tYes) rfl sc_gates_read.nd (pi_enumT (by rfl) T.enumerate (pa_cons (pv 0) pa_nil)) (blkOk_by (N := ["gates", "places", "g", "gate", "net"]) (sc := defScope s_gates_read) (own := [("g", 2), ("gate", 3)]) (by decide +kernel)) (fun _ _ _ _ _ => (pg_tup rfl (pgs_cons (pg_name (i := 2) sc_gates_read.nd rfl (.inl rfl)) (pgs_cons (pg_name (i := 3) sc_gates_read.nd rfl (.inl rfl)) pgs_nil)))) (fun _ _ _ _ _ => pts_nil) (fun _ _ _ _ _ => (pe_ix (kIxT (K := K) rfl) (pv 3) pe_int (fun _ _ => rfl))) (fun _ _ _ _ _ => (pv 2))))
    (pss_one (ps_ret (pe_lc (own := [("gate", 3)]) (g := gName 3) (tt := tYes) rfl sc_gates_read.nd (pi_tup (pv 0)) (blkOk_by (N := ["gates", "places", "g", "gate", "net"]) (sc := defScope s_gates_read) (own := [("gate", 3)]) (by decide +kernel)) (fun _ _ _ _ _ => (pg_name (i := 3) sc_gates_read.nd rfl (.inl rfl))) (fun _ _ _ _ _ => pts_nil) (fun _ _ _ _ _ => (pe_lc (own := [("net", 4)]) (g := gName 4) (tt := _) rfl sc_gates_read.nd (kPiT (K := K) rfl (pe_ix (kIxT (K := K) rfl) (pv 3) pe_int (fun _ _ => rfl))) (blkOk_by (own := [("net", 4)]) (by kernel_rfl)) (fun _ _ _ _ _ => (pg_name (i := 4) sc_gates_read.nd rfl (.inl rfl))) (fun _ _ _ _ _ => pts_one (pt_cmp (pc_din (hu_of hr) (pv 4) (pv 1)))) (fun _ _ _ _ _ => (pe_dget (hu_of hr) (pv 1) (pv 4) (fun _ _ => rfl))))))))), ?_⟩
    have hgl : (ga.map V.ref).length = d.gates.length := by rw [List.length_map, hA.1]
    have hnl : (gnames d).length = d.gates.length := List.length_map _
    have hfew := hN.few
    have ndg : (gnames d).Nodup := hN.nd
    have hname : ∀ (k : Nat) (g : GateD), d.gates[k]? = some g → (gnames d)[k]? = some g.name := fun k g hk => by unfold gnames; rw [List.getElem?_map, hk]; rfl
    -- where each stands
    refine ⟨_, rfl, gt, _, rfl, SqT.of hg, fun Dc nDc => wk_it walk_enumT (fun j H' => Ex H H' ∧ ∃ es : List (Key × V), H' Dc = some (.dK es) ∧ es.length ≤ j ∧ ∀ x : Str, valV es (.inr x) = if x ∈ (gnames d).take j then some (.int ((((gnames d).take j).idxOf x : Nat) : Int)) else none)
      ⟨Ex.new nDc, [], upd_same, Nat.le_refl _, fun x => by rw [List.take_zero]; rfl⟩ (fun j H' _ g => SqT.of (g.1 _ _ hg)) ?_ ?_⟩
    · rintro j x H1 H2 hj ⟨E1, es, hD, hel, hk⟩ ⟨T1, x0, y0, rfl, nT, rfl, hx0, hy0⟩
      rw [hgl] at hj
      cases hx0
      obtain ⟨b, hb, rfl⟩ := refs_get hy0
      obtain ⟨g, hgg, t, pt, rt, rla, hgt, _⟩ := hA.at_ hb
      have E2 : Ex H1 (upd H1 T1 (.tup [.int (j : Nat), .ref b])) := Ex.new nT
      refine ⟨T1, _, rfl, SqT.of upd_same, rfl, _, _, rfl, _, _, rfl, rfl, rfl, tYes_in ?_⟩
      simp only [wipe, _root_.L2.start, List.map_cons, List.map_nil, List.length_cons, List.length_nil, Nat.reduceAdd, Nat.reduceSub, List.replicate_succ, List.replicate_zero, List.cons_append, List.nil_append, List.set_cons_zero, List.set_cons_succ]
      have hD2 := E2 _ _ hD
      generalize upd H1 T1 (.tup [.int (j : Nat), .ref b]) = H2 at *
      refine ⟨_, rfl, _, _, _, _, rfl, rfl, SqT.of ((E1.trans E2) _ _ hgt), atI_nat (j := 0) rfl, _, rfl, es, .inr g.name, rfl, hD2, sz_lt (by omega), (E1.trans E2).mut nDc, _, upd_same, Nat.le_trans (length_putK _ _ _) (Nat.succ_le_succ hel), fun x => ?_⟩
      rw [valV_put]
      exact place_step ndg (hname j g hgg) x _ (hk x)
    rintro H1 ⟨E1, es, hD, hel, hk⟩
    rw [hgl, ← hnl, List.take_length] at hk
    have hneed : ∀ (k : Nat) (g : GateD), d.gates[k]? = some g → (needN d)[k]? = some ((g.pins.filter fun x => decide (x ∈ gnames d)).map fun x => (gnames d).idxOf x) := fun k g hk => by unfold needN; rw [List.getElem?_map, hk]; rfl
    have hg1 := E1 _ _ hg
    refine ⟨_, rfl, gt, rfl, ⟨_, SqT.of hg1⟩, fun L nL => wk_tup (K := K) (a := gt) (xs := ga.map V.ref) (fun j H' => Ex H1 H' ∧ ∃ na : List Addr, H' L = some (.lst (na.map V.ref)) ∧ All2 (fun b l => hid L H' b = some (.lst (natsV l))) na ((needN d).take j)) ⟨Ex.new nL, [], upd_same, .nil⟩ (fun j H' _ z => SqT.of (z.1 _ _ hg1)) ?_ ?_⟩
    · rintro j y H2 hy ⟨E2, na, hL, hna⟩
      obtain ⟨b, hb, rfl⟩ := refs_get hy
      obtain ⟨g, hgg, t, pt, rt, rla, hgt, _, hgp, _⟩ := hA.at_ hb
      have hj : j < d.gates.length := (List.getElem?_eq_some_iff.mp hgg).1
      have hp3 := hN.fewp g (List.mem_of_getElem? hgg)
      have E02 := E1.trans E2
      refine ⟨rfl, tYes_in ?_⟩
      simp only [wipe, _root_.L2.start, List.map_cons, List.map_nil, List.length_cons, List.length_nil, Nat.reduceAdd, Nat.reduceSub, List.replicate_succ, List.replicate_zero, List.cons_append, List.nil_append, List.set_cons_zero, List.set_cons_succ]
      refine ⟨_, rfl, _, _, _, _, rfl, rfl, SqT.of (E02 _ _ hgt), atI_nat (j := 2) rfl, pt, rfl, ⟨_, SqT.of (E02 _ _ hgp)⟩, fun L2 nL2 => wk_tup (K := K) (a := pt) (xs := g.pins.map V.str) (fun i H' => Ex H2 H' ∧ H' L2 = some (.lst (natsV (((g.pins.take i).filter fun x => decide (x ∈ gnames d)).map fun x => (gnames d).idxOf x)))) ⟨Ex.new nL2, upd_same⟩ (fun i H' _ z => SqT.of ((E02.trans z.1) _ _ hgp)) ?_ ?_⟩
      · rintro i y H3 hy ⟨E3, hL2⟩
        obtain ⟨p, hp, rfl⟩ : ∃ p, g.pins[i]? = some p ∧ y = .str p := by
          rw [List.getElem?_map] at hy
          cases e : g.pins[i]? with
          | none => rw [e] at hy; cases hy
          | some p => rw [e] at hy; cases hy; exact ⟨p, rfl, rfl⟩
        have hD3 := (E2.trans E3) _ _ hD
        have hfl : (((g.pins.take i).filter fun x => decide (x ∈ gnames d)).map fun x => (gnames d).idxOf x).length ≤ 100 := by
          rw [List.length_map]
          have h1 := List.length_filter_le (fun x => decide (x ∈ gnames d)) (g.pins.take i)
          rw [List.length_take] at h1
          omega
        refine ⟨rfl, ?_⟩
        simp only [wipe, _root_.L2.start, List.map_cons, List.map_nil, List.length_cons, List.length_nil, Nat.reduceAdd, Nat.reduceSub, List.replicate_succ, List.replicate_zero, List.cons_append, List.nil_append, List.set_cons_zero, List.set_cons_succ]
        refine ⟨_, rfl, _, rfl, Dc, _, rfl, DGet.k (k := Sum.inr p) hD3, _, rfl, ?_⟩
        rw [hk]
        by_cases hin : p ∈ gnames d
        · rw [if_pos hin]
          have hg2 : DGet H3 Dc (kV (Sum.inr p)) (some (.int (((gnames d).idxOf p : Nat) : Int))) := by
            have := DGet.k (k := Sum.inr p) hD3
            rw [hk, if_pos hin] at this
            exact this
          refine iteT ⟨_, rfl, _, rfl, Dc, _, rfl, hg2, _, hL2, sz_lt (by rw [nats_len]; omega), E3.mut nL2, ?_⟩
          rw [upd_same, take_snoc1 hp, List.filter_append, List.map_append, ← nats_snoc]
          rw [List.filter_cons, decide_eq_true hin, if_pos rfl]; rfl
        · rw [if_neg hin]
          refine iteF ⟨E3, ?_⟩
          rw [hL2, take_snoc1 hp, List.filter_append, List.map_append, List.filter_cons, decide_eq_false hin, if_neg Bool.false_ne_true, List.filter_nil, List.map_nil, List.append_nil]
      rintro H3 ⟨E3, hL2⟩
      rw [List.length_map, List.take_length] at hL2
      have hL3 := E3 _ _ hL
      have n2L : L2 ≠ L := (ne_of_none hL nL2).symm
      refine ⟨_, hL3, sz_lt (by rw [List.length_map, hna.1, List.length_take]; unfold needN; rw [List.length_map]; omega), (E2.trans E3).mut nL, na ++ [L2], by rw [upd_same, List.map_append]; rfl, ?_⟩
      rw [hid_upd, take_snoc1 (hneed j g hgg)]
      exact (hna.imp fun _ _ z => by rw [hid_ne (hid_neq z)]; exact E3 _ _ (hid_get z)).snoc (by rw [hid_ne n2L]; exact hL2)
    rintro H2 ⟨E2, na, hL, hna⟩
    have hnd : (needN d).length = d.gates.length := by unfold needN; rw [List.length_map]
    rw [hgl, ← hnd, List.take_length] at hna
    exact q L na H2 (E1.trans E2) hL (hna.imp fun _ _ z => hid_get z)
end
end G
namespace G
open PySem PySem.Spec PyProof.Rows L2 Evl TL
/-! ## the checks of a circuit -/
theorem fs5 {a b n : Str} (ha : a.length ≤ 100) (hb : b.length ≤ 100) (hn : n.length ≤ 1000) : (Str.empty ++ a).length ≤ sizeLine ∧ ((Str.empty ++ a) ++ n).length ≤ sizeLine ∧ (((Str.empty ++ a) ++ n) ++ b).length ≤ sizeLine := by
  have e : ∀ x y : Str, (x ++ y).length = x.length + y.length := fun x y => by rw [len_tl, tl_append, List.length_append, ← len_tl, ← len_tl]
  have e0 : Str.empty.length = 0 := rfl
  refine ⟨sz_of ?_, sz_of ?_, sz_of ?_⟩
  · rw [e, e0]; omega
  · rw [e, e, e0]; omega
  · rw [e, e, e, e0]; omega
theorem perm_in : ∀ {l ks : List Str}, l.Nodup → (∀ x ∈ l, x ∈ ks) → ks.length = l.length → ks.Perm l
  | [], ks, _, _, h => by rw [List.length_eq_zero_iff.mp h]
  | x :: l, ks, d, m, h => by
    obtain ⟨d1, d2⟩ := List.nodup_cons.mp d
    have hx := m x List.mem_cons_self
    refine (List.perm_cons_erase hx).trans ((perm_in d2 (fun y hy => (List.mem_erase_of_ne fun e : y = x => d1 (e ▸ hy)).mpr (m y (List.mem_cons_of_mem _ hy))) ?_).cons x)
    rw [List.length_erase_of_mem hx, h]; rfl
/-- a set of texts has fewer members only where a text stands twice -/
theorem set_nd {l ns : List Str} (nd : l.Nodup) (hm : ∀ x, x ∈ l ↔ x ∈ ns) (hl : l.length ≤ ns.length) : ¬ l.length < ns.length ↔ ns.Nodup := by
  constructor
  · intro h
    exact (perm_in nd (fun x hx => (hm x).mp hx) (by omega)).symm.nodup_iff.mp nd
  · intro h
    have := (perm_in h (fun x hx => (hm x).mpr hx) |> fun f => f)
    intro hlt
    have hp : ∀ (a b : List Str), a.Nodup → (∀ x ∈ a, x ∈ b) → a.length ≤ b.length := fun a => by
      induction a with
      | nil => intro b _ _; exact Nat.zero_le _
      | cons x a ih =>
        intro b d m
        obtain ⟨d1, d2⟩ := List.nodup_cons.mp d
        have hx := m x List.mem_cons_self
        have := ih (b.erase x) d2 fun y hy => (List.mem_erase_of_ne fun e : y = x => d1 (e ▸ hy)).mpr (m y (List.mem_cons_of_mem _ hy))
        rw [List.length_erase_of_mem hx] at this
        have := List.length_pos_of_mem hx
        rw [List.length_cons]; omega
    have := hp ns l h fun x hx => (hm x).mpr hx
    omega
def okR (r : Int × Int) : Prop := 0 ≤ r.1 ∧ r.1 + 2 ≤ r.2
structure TxtC (mg : Str → Option Value) : Prop where
  len : mg "len" = none
  set : mg "set" = none
section
variable {P : Program} {w : World} {K : PySem.W.Frag} {mg : Str → Option Value} {base : Heap}
def spPin (R : Addr) : Sp := fun vs H Q E => ∃ (a : Addr) (r : Int × Int), vs = [.ref a] ∧ IntsAt H a r ∧ (okR r → Q .non H) ∧ (¬ okR r → ∀ H', Ex H H' → E (.ref R) none H')
theorem sc_check_pin_range : FnScope ["pair", "low", "high"] ["pair"] (defScope s_check_pin_range) := ⟨rfl, rfl, rfl, by decide +kernel, rfl, by decide +kernel, by decide +kernel⟩
theorem ok_check_pin_range {R : Addr} (D : Dfd K mg "check_pin_range" s_check_pin_range ["pair"]) (UB : ExcT K mg "BadRange" R) (g : ∃ t, mg "LEAST_SPREAD" = some (.int 2 t)) : HasN P w K mg base 1 "check_pin_range" ["pair"] (spPin R) := by
  obtain ⟨t, g_LEAST_SPREAD⟩ := g
  obtain ⟨f, fd, F, gf, bf⟩ := D
  refine ⟨f, fd, F.okN sc_check_pin_range (fun vs H Q E h => ?_) (fun cdv A outer s H vs Q E hr h => ?_), gf, F.kp, bf⟩
  · obtain ⟨a, r, rfl, _⟩ := h
    rfl
  · obtain ⟨a, r, rfl, ha, q1, q2⟩ := h
    refine ⟨_, (pss_cons (ps_asg (pv 0) (pg_tup rfl (pgs_cons (pg_name (i := 1) sc_check_pin_range.nd rfl (.inl rfl)) (pgs_cons (pg_name (i := 2) sc_check_pin_range.nd rfl (.inl rfl)) pgs_nil))))
    (pss_one (ps_if (PW.pt (pw_or (pt_cmpR op_lt (pv 1) pe_int (nomark _)) (pw_or1 (pt_cmpR op_gt (pe_op op_add (pv 1) (gInt rfl g_LEAST_SPREAD)) (pv 2) (nomark _)))))
      (pss_one (L2N.ps_raise rfl (L2N.takes_of rfl rfl rfl rfl) (pmkN_ownA PySem.F.excBase_ValueError UB.xP UB.gC UB.kC (raises_own UB.bC UB.tC) rfl (pa_cons pe_str pa_nil))))
      pss_nil))), ?_⟩
    refine ⟨_, rfl, a, _, rfl, SqT.of ha, rfl, _, _, rfl, _, _, rfl, rfl, ?_⟩
    simp only [wipe, _root_.L2.start, List.map_cons, List.map_nil, List.length_cons, List.length_nil, Nat.reduceAdd, Nat.reduceSub, List.replicate_succ, List.replicate_zero, List.cons_append, List.nil_append, List.set_cons_zero, List.set_cons_succ]
    refine ⟨_, rfl, _, _, rfl, rfl, _, rfl, ite2 (fun c => ?_) (fun c => ?_)⟩
    · refine iteT ⟨(by show 1 ≤ sizeLine; decide), q2 (fun z => ?_) H (Ex.refl _)⟩
      have := of_decide_eq_true c; have := z.1; omega
    · refine ⟨_, rfl, _, _, rfl, rfl, _, rfl, _, _, rfl, rfl, _, rfl, ite2 (fun c2 => ?_) (fun c2 => ?_)⟩
      · refine ⟨(by show 1 ≤ sizeLine; decide), q2 (fun z => ?_) H (Ex.refl _)⟩
        have := of_decide_eq_true c2; have := z.2; omega
      · refine q1 ⟨?_, ?_⟩
        · have : ¬ r.1 < 0 := fun z => c (decide_eq_true z)
          omega
        · have : ¬ r.1 + 2 > r.2 := fun z => c2 (decide_eq_true z)
          omega
def NmD (d : CircD) : Prop := (namesD d).Nodup ∧ (d.outs.map (·.1)).Nodup
def spCkN (Cn : Addr) : Sp := fun vs H Q E => ∃ (c : Addr) (d : CircD) (it gt rt ot : Addr) (ga ra oa : List Addr), vs = [.ref c] ∧ CircAt H c d it gt rt ot ga ra oa ∧ (namesD d).length ≤ 1000 ∧ d.outs.length ≤ 1000 ∧ (NmD d → ∀ H', Ex H H' → Q .non H') ∧ (¬ NmD d → ∀ H', Ex H H' → E (.ref Cn) none H')
theorem sc_check_names : FnScope ["circuit", "ports", "names", "port", "_"] ["circuit"] (defScope s_check_names) := ⟨rfl, rfl, rfl, by decide +kernel, rfl, by decide +kernel, by decide +kernel⟩
theorem ok_check_names {Cn : Addr} (D : Dfd K mg "_check_names" s_check_names ["circuit"]) (UN : ExcT K mg "NameClash" Cn) (T : TxtC mg) (C1 : Has P w K mg base 1 "_all_names" ["circuit"] spNames) : HasN P w K mg base 2 "_check_names" ["circuit"] (spCkN Cn) := by
  obtain ⟨f_all_names, d_all_names, G_all_names, g_all_names, k_all_names, b_all_names⟩ := C1
  obtain ⟨f, fd, F, gf, bf⟩ := D
  refine ⟨f, fd, F.okN sc_check_names (fun vs H Q E h => ?_) (fun cdv A outer s H vs Q E hr h => ?_), gf, F.kp, bf⟩
  · obtain ⟨c, d, it, gt, rt, ot, ga, ra, oa, rfl, _⟩ := h
    rfl
  · obtain ⟨c, d, it, gt, rt, ot, ga, ra, oa, rfl, hc, hn, ho, q1, q2⟩ := h
    refine ⟨_, (pss_cons (ps_setLc (i := 1) (own := [("port", 3), ("_", 4)]) (g := gTup K 2 (gCons (gName 3) (gCons (gName 4) gNil))) (tt := tYes) rfl sc_check_names.nd rfl rfl (sw_true rfl rfl rfl (by decide +kernel)) (pi_tup (pe_ix ix_tup (pv 0) pe_int (fun _ _ => rfl))) (blkOk_by (N := ["circuit", "ports", "names", "port", "_"]) (sc := defScope s_check_names) (own := [("port", 3), ("_", 4)]) (by decide +kernel)) (fun _ _ _ _ _ => (pg_tup rfl (pgs_cons (pg_name (i := 3) sc_check_names.nd rfl (.inl rfl)) (pgs_cons (pg_name (i := 4) sc_check_names.nd rfl (.inl rfl)) pgs_nil)))) (fun _ _ _ _ _ => pts_nil) (fun _ _ _ _ _ => (pv 3)))
    (pss_one (ps_for (passes_of rfl) rfl (pi_tup (pe_tup (pa_cons (pe_call G_all_names (hr.mono (by omega)) (by rfl) g_all_names k_all_names b_all_names .nil pass0 (pa_cons (pv 0) pa_nil)) (pa_cons (pv 1) pa_nil)))) (pg_name (i := 2) sc_check_names.nd rfl (.inl rfl))
      (pss_one (ps_if (pt_cmpR op_lt (pe_callB XS.cr_lenX (by rfl) T.len (by decide +kernel) (pa_cons (pe_callTy (XS.cr_setX rfl) (by rfl) T.set (by decide +kernel) (pa_cons (pv 2) pa_nil)) pa_nil)) (pe_callB call_len_seq (by rfl) T.len (by decide +kernel) (pa_cons (pv 2) pa_nil)) (nomark _))
        (pss_one (L2N.ps_raise rfl (L2N.takes_of rfl rfl rfl rfl) (pmkN_ownA PySem.F.excBase_ValueError UN.xP UN.gC UN.kC (raises_own UN.bC UN.tC) rfl (pa_cons pe_str pa_nil))))
        pss_nil))))), ?_⟩
    refine ⟨_, rfl, _, _, _, _, rfl, rfl, SqT.of hc.top, atI_nat (j := 3) rfl, ot, rfl, ⟨_, SqT.of hc.ots⟩, fun PL nPL => wk_tup (K := K) (a := ot) (xs := oa.map V.ref)
      (fun j H' => Ex H H' ∧ H' PL = some (.lst (((d.outs.take j).map fun o => o.1).map V.str))) ⟨Ex.new nPL, upd_same⟩ (fun j H' _ z => SqT.of (z.1 _ _ hc.ots)) ?_ ?_⟩
    · rintro j x H2 hx ⟨E2, hL⟩
      obtain ⟨b, hb, rfl⟩ := refs_get hx
      obtain ⟨o, hoj, hot⟩ := hc.outs.at_ hb
      have hj : j < d.outs.length := (List.getElem?_eq_some_iff.mp hoj).1
      refine ⟨b, _, rfl, SqT.of (E2 _ _ hot), rfl, _, _, rfl, _, _, rfl, rfl, (by rw [wipe_set (by decide), wipe_set (by decide), wipe_wipe]), tYes_in ?_⟩
      simp only [wipe, _root_.L2.start, List.map_cons, List.map_nil, List.length_cons, List.length_nil, Nat.reduceAdd, Nat.reduceSub, List.replicate_succ, List.replicate_zero, List.cons_append, List.nil_append, List.set_cons_zero, List.set_cons_succ]
      refine ⟨_, rfl, _, hL, sz_lt (by rw [List.length_map, List.length_map, List.length_take]; omega), E2.mut nPL, ?_⟩
      rw [upd_same, take_snoc1 hoj, List.map_append, List.map_append]; rfl
    rintro H2 ⟨E2, hPL⟩
    rw [List.length_map, hc.outs.1, List.take_length] at hPL
    simp only [wipe, _root_.L2.start, List.map_cons, List.map_nil, List.length_cons, List.length_nil, Nat.reduceAdd, Nat.reduceSub, List.replicate_succ, List.replicate_zero, List.cons_append, List.nil_append, List.set_cons_zero, List.set_cons_succ]
    refine ⟨_, rfl, c, d, it, gt, rt, ot, ga, ra, oa, rfl, hc.te (.of E2), hn, fun NL H3 nNL E3 hNL => ⟨_, rfl, (by show 2 ≤ sizeLine; decide), fun tp ntp => ?_⟩⟩
    have E4 := E3.trans (Ex.new (o := .tup [.ref NL, .ref PL]) ntp)
    have htp : upd H3 tp (.tup [.ref NL, .ref PL]) tp = some (.tup (([NL, PL] : List Addr).map V.ref)) := upd_same
    have hNL4 := Ex.new (o := .tup [.ref NL, .ref PL]) ntp _ _ hNL
    have hPL4 := E4 _ _ hPL
    generalize upd H3 tp (.tup [.ref NL, .ref PL]) = H4 at *
    have E04 := E2.trans E4
    have hA : All2 (fun b l => H4 b = some (.lst ((l : List Str).map V.str))) [NL, PL] [namesD d, d.outs.map fun o => o.1] := .cons hNL4 (.cons hPL4 .nil)
    have hlen : ∀ l ∈ [namesD d, d.outs.map fun o => o.1], l.length ≤ 1000 := fun l hl => by
      simp only [List.mem_cons, List.not_mem_nil, or_false] at hl
      rcases hl with e | e <;> rw [e]
      · exact hn
      · rw [List.length_map]; exact ho
    refine ⟨tp, rfl, ⟨_, SqT.of htp⟩, for_tup (K := K) (a := tp) (xs := ([NL, PL] : List Addr).map V.ref)
      (fun i σ H' => Ex H4 H' ∧ (∀ l ∈ [namesD d, d.outs.map fun o => o.1].take i, l.Nodup) ∧ ∃ z2 z3 z4 : Option V, σ = [some (.ref c), some (.ref PL), z2, z3, z4])
      ⟨.refl _, (by rw [List.take_zero]; exact fun _ h => nomatch h), _, _, _, rfl⟩ (fun i σ H' _ g => SqT.of (g.1 _ _ htp)) ?_ ?_⟩
    · rintro i x σ H5 hx ⟨E5, hall, z2, z3, z4, rfl⟩
      obtain ⟨b, hb, rfl⟩ := refs_get hx
      obtain ⟨l, hl, hbl⟩ := hA.at_ hb
      have hlm := List.mem_of_getElem? hl
      have hl1 := hlen l hlm
      refine ⟨_, rfl, b, l, rfl, .inl (SqL.of (E5 _ _ hbl)), by omega, fun p m nd hm hle np => ⟨p, m, rfl, upd_same, _, rfl, _, _, rfl, .inl (SqL.of (Ex.new np _ _ (E5 _ _ hbl))), _, _, rfl, rfl, _, rfl, ?_⟩⟩
      rw [List.length_map]
      have hx := set_nd nd hm hle
      refine ite2 (fun c1 => ?_) (fun c1 => ?_)
      · have hlt : m.length < l.length := by have := of_decide_eq_true c1; omega
        refine ⟨(by show 1 ≤ sizeLine; decide), q2 (fun z => hx.mpr ?_ hlt) _ (E04.trans (E5.trans (Ex.new np)))⟩
        simp only [List.mem_cons, List.not_mem_nil, or_false] at hlm
        rcases hlm with e | e <;> rw [e]
        · exact z.1
        · exact z.2
      · have hlt : ¬ m.length < l.length := fun z => c1 (decide_eq_true (by omega))
        refine ⟨E5.trans (Ex.new np), fun l' hl' => ?_, _, _, _, rfl⟩
        rw [take_snoc1 hl] at hl'
        rcases List.mem_append.mp hl' with z | z
        · exact hall l' z
        · rw [List.mem_singleton.mp z]; exact hx.mp hlt
    · rintro σ H5 ⟨E5, hall, z2, z3, z4, rfl⟩
      exact q1 ⟨hall _ (List.mem_cons_self ..), hall _ (List.mem_cons_of_mem _ (List.mem_cons_self ..))⟩ H5 (E04.trans E5)
def CntG (g : GateD) : Prop := g.pins.length ≤ 6 ∧ g.rng.length = g.pins.length ∧ g.tab.length = 2 ^ g.pins.length
def spCkC (Wc : Addr) : Sp := fun vs H Q E => ∃ (b : Addr) (g : GateD), vs = [.ref b] ∧ GateAt H b g ∧ g.name.length ≤ 1000 ∧ (CntG g → Q .non H) ∧ (¬ CntG g → E (.ref Wc) none H)
theorem sc_check_counts : FnScope ["gate", "name", "table", "nets", "ranges"] ["gate"] (defScope s_check_counts) := ⟨rfl, rfl, rfl, by decide +kernel, rfl, by decide +kernel, by decide +kernel⟩
theorem ok_check_counts {Wc : Addr} (D : Dfd K mg "_check_counts" s_check_counts ["gate"]) (UW : ExcT K mg "WrongCount" Wc) (T : TxtC mg) (g : ∃ t, mg "MOST_PINS" = some (.int 6 t)) : HasN P w K mg base 1 "_check_counts" ["gate"] (spCkC Wc) := by
  obtain ⟨t, g_MOST_PINS⟩ := g
  obtain ⟨f, fd, F, gf, bf⟩ := D
  refine ⟨f, fd, F.okN sc_check_counts (fun vs H Q E h => ?_) (fun cdv A outer s H vs Q E hr h => ?_), gf, F.kp, bf⟩
  · obtain ⟨b, g, rfl, _⟩ := h
    rfl
  · obtain ⟨b, g, rfl, hg, hnm, q1, q2⟩ := h
    refine ⟨_, (pss_cons (ps_asg (pv 0) (pg_tup rfl (pgs_cons (pg_name (i := 1) sc_check_counts.nd rfl (.inl rfl)) (pgs_cons (pg_name (i := 2) sc_check_counts.nd rfl (.inl rfl)) (pgs_cons (pg_name (i := 3) sc_check_counts.nd rfl (.inl rfl)) (pgs_cons (pg_name (i := 4) sc_check_counts.nd rfl (.inl rfl)) pgs_nil))))))
    (pss_one (ps_if (PW.pt (pw_or (pt_cmpR op_gt (pe_callB call_len_seq (by rfl) T.len (by decide +kernel) (pa_cons (pv 3) pa_nil)) (gInt rfl g_MOST_PINS) (nomark _)) (pw_or (pt_cmpR op_ne (pe_callB call_len_seq (by rfl) T.len (by decide +kernel) (pa_cons (pv 4) pa_nil)) (pe_callB call_len_seq (by rfl) T.len (by decide +kernel) (pa_cons (pv 3) pa_nil)) (nomark _)) (pw_or1 (pt_cmpR op_ne (pe_callB call_len_seq (by rfl) T.len (by decide +kernel) (pa_cons (pv 2) pa_nil)) (pe_op op_shl pe_int (pe_callB call_len_seq (by rfl) T.len (by decide +kernel) (pa_cons (pv 3) pa_nil))) (nomark _))))))
      (pss_one (L2N.ps_raise rfl (L2N.takes_of rfl rfl rfl rfl) (pmkN_ownA PySem.F.excBase_ValueError UW.xP UW.gC UW.kC (raises_own UW.bC UW.tC) rfl (pa_cons (pe_joined (.cons pe_str (.cons (pe_fmt (pv 1)) (.cons pe_str .nil)))) pa_nil))))
      pss_nil))), ?_⟩
    obtain ⟨tt, pt, rgt, rga, a1, a2, a3, a4, a5⟩ := hg
    have hrl := a5.1
    refine ⟨_, rfl, b, _, rfl, SqT.of a1, rfl, _, _, rfl, _, _, rfl, _, _, rfl, _, _, rfl, rfl, ?_⟩
    simp only [wipe, _root_.L2.start, List.map_cons, List.map_nil, List.length_cons, List.length_nil, Nat.reduceAdd, Nat.reduceSub, List.replicate_succ, List.replicate_zero, List.cons_append, List.nil_append, List.set_cons_zero, List.set_cons_succ]
    obtain ⟨z1, z2, z3⟩ := fs5 (a := "the pins, the ranges and the table of gate ") (b := " do not fit") (n := g.name) (by decide +kernel) (by decide +kernel) hnm
    have raise : ¬ CntG g → E (.ref Wc) none H := q2
    refine ⟨_, rfl, _, _, rfl, .inr (SqT.of a3), _, _, rfl, rfl, _, rfl, ite2 (fun c1 => ?_) (fun c1 => ?_)⟩
    · have h1 : (g.pins.length : Int) > 6 := by have := of_decide_eq_true c1; rw [List.length_map] at this; exact this
      exact iteT ⟨_, rfl, z1, _, rfl, .inl ⟨g.name, rfl, sz_of (by omega), _, rfl, z2, _, rfl, z3, (by show 1 ≤ sizeLine; decide), raise fun z => by have := z.1; omega⟩⟩
    have h6 : g.pins.length ≤ 6 := by
      have : ¬ ((g.pins.map V.str).length : Int) > 6 := fun z => c1 (decide_eq_true z)
      rw [List.length_map] at this; omega
    refine ⟨_, rfl, _, _, rfl, .inr (SqT.of a4), _, rfl, _, _, rfl, .inr (SqT.of a3), rfl, _, rfl, ite2 (fun c2 => ?_) (fun c2 => ?_)⟩
    · refine iteT ⟨_, rfl, z1, _, rfl, .inl ⟨g.name, rfl, sz_of (by omega), _, rfl, z2, _, rfl, z3, (by show 1 ≤ sizeLine; decide), raise fun z => ?_⟩⟩
      rw [List.length_map, List.length_map, hrl, z.2.1, decide_eq_true rfl] at c2
      cases c2
    have h2 : g.rng.length = g.pins.length := by
      rw [List.length_map, List.length_map, hrl, Bool.not_eq_true, Bool.not_eq_false', decide_eq_true_iff, V.int.injEq] at c2
      omega
    refine ⟨_, rfl, _, _, rfl, .inr (SqT.of a2), _, rfl, _, _, rfl, .inr (SqT.of a3), _, _, rfl, rfl, ⟨Int.natCast_nonneg _, (by rw [List.length_map]; omega), by decide⟩, rfl, _, rfl, ite2 (fun c3 => ?_) (fun c3 => ?_)⟩
    · refine ⟨_, rfl, z1, _, rfl, .inl ⟨g.name, rfl, sz_of (by omega), _, rfl, z2, _, rfl, z3, (by show 1 ≤ sizeLine; decide), raise fun z => ?_⟩⟩
      rw [List.length_map, List.length_map, z.2.2] at c3
      have e : ((2 ^ g.pins.length : Nat) : Int) = 1 * 2 ^ (g.pins.length : Int).toNat := by rw [Int.toNat_natCast, Int.one_mul, Int.natCast_pow]; rfl
      rw [e, decide_eq_true rfl] at c3
      cases c3
    · refine q1 ⟨h6, h2, ?_⟩
      rw [List.length_map, List.length_map, Bool.not_eq_true, Bool.not_eq_false', decide_eq_true_iff, V.int.injEq, Int.toNat_natCast, Int.one_mul] at c3
      have e : ((2 ^ g.pins.length : Nat) : Int) = (2 : Int) ^ g.pins.length := by rw [Int.natCast_pow]; rfl
      omega
def RegG (r : RegD) : Prop := ((0 ≤ r.edge.1 ∧ r.edge.1 ≤ r.edge.2) ∧ (0 ≤ r.out.1 ∧ r.out.1 ≤ r.out.2)) ∧ 0 ≤ r.setup ∧ 0 ≤ r.hold ∧ r.hold < r.out.2
def spCkR (Br : Addr) : Sp := fun vs H Q E => ∃ (b : Addr) (r : RegD), vs = [.ref b] ∧ RegAt H b r ∧ r.name.length ≤ 1000 ∧ (RegG r → ∀ H', Ex H H' → Q .non H') ∧ (¬ RegG r → ∀ H', Ex H H' → E (.ref Br) none H')
theorem sc_check_reg : FnScope ["reg", "name", "_", "edge", "out", "setup", "hold", "low", "high"] ["reg"] (defScope s_check_reg) := ⟨rfl, rfl, rfl, by decide +kernel, rfl, by decide +kernel, by decide +kernel⟩
theorem ok_check_reg {Br : Addr} (D : Dfd K mg "check_reg" s_check_reg ["reg"]) (UB : ExcT K mg "BadRange" Br) : HasN P w K mg base 1 "check_reg" ["reg"] (spCkR Br) := by
  obtain ⟨f, fd, F, gf, bf⟩ := D
  refine ⟨f, fd, F.okN sc_check_reg (fun vs H Q E h => ?_) (fun cdv A outer s H vs Q E hr h => ?_), gf, F.kp, bf⟩
  · obtain ⟨b, r, rfl, _⟩ := h
    rfl
  · obtain ⟨b, r, rfl, hg, hnm, q1, q2⟩ := h
    refine ⟨_, (pss_cons (ps_asg (pv 0) (pg_tup rfl (pgs_cons (pg_name (i := 1) sc_check_reg.nd rfl (.inl rfl)) (pgs_cons (pg_name (i := 2) sc_check_reg.nd rfl (.inl rfl)) (pgs_cons (pg_name (i := 3) sc_check_reg.nd rfl (.inl rfl)) (pgs_cons (pg_name (i := 4) sc_check_reg.nd rfl (.inl rfl)) (pgs_cons (pg_name (i := 5) sc_check_reg.nd rfl (.inl rfl)) (pgs_cons (pg_name (i := 6) sc_check_reg.nd rfl (.inl rfl)) (pgs_cons (pg_name (i := 2) sc_check_reg.nd rfl (.inl rfl)) pgs_nil)))))))))
    (pss_cons (ps_for (passes_of rfl) rfl (pi_tup (pe_tup (pa_cons (pv 3) (pa_cons (pv 4) pa_nil)))) (pg_tup rfl (pgs_cons (pg_name (i := 7) sc_check_reg.nd rfl (.inl rfl)) (pgs_cons (pg_name (i := 8) sc_check_reg.nd rfl (.inl rfl)) pgs_nil)))
      (pss_one (ps_if (PW.pt (pw_or (pt_cmpR op_lt (pv 7) pe_int (nomark _)) (pw_or1 (pt_cmpR op_gt (pv 7) (pv 8) (nomark _)))))
        (pss_one (L2N.ps_raise rfl (L2N.takes_of rfl rfl rfl rfl) (pmkN_ownA PySem.F.excBase_ValueError UB.xP UB.gC UB.kC (raises_own UB.bC UB.tC) rfl (pa_cons (pe_joined (.cons pe_str (.cons (pe_fmt (pv 1)) (.cons pe_str .nil)))) pa_nil))))
        pss_nil)))
    (pss_one (ps_if (PW.pt (pw_or (pt_cmpR op_lt (pv 5) pe_int (nomark _)) (pw_or (pt_cmpR op_lt (pv 6) pe_int (nomark _)) (pw_or1 (pt_cmpR op_ge (pv 6) (pe_ix ix_tup (pv 4) pe_int (fun _ _ => rfl)) (nomark _))))))
      (pss_one (L2N.ps_raise rfl (L2N.takes_of rfl rfl rfl rfl) (pmkN_ownA PySem.F.excBase_ValueError UB.xP UB.gC UB.kC (raises_own UB.bC UB.tC) rfl (pa_cons (pe_joined (.cons pe_str (.cons (pe_fmt (pv 1)) (.cons pe_str .nil)))) pa_nil))))
      pss_nil)))), ?_⟩
    obtain ⟨ea, oa, a1, a2, a3⟩ := hg
    obtain ⟨z1, z2, z3⟩ := fs5 (a := "a range of reg ") (b := " is not allowed") (n := r.name) (by decide +kernel) (by decide +kernel) hnm
    obtain ⟨y1, y2, y3⟩ := fs5 (a := "setup or hold of reg ") (b := " is not allowed") (n := r.name) (by decide +kernel) (by decide +kernel) hnm
    refine ⟨_, rfl, b, _, rfl, SqT.of a1, rfl, _, _, rfl, _, _, rfl, _, _, rfl, _, _, rfl, _, _, rfl, _, _, rfl, _, _, rfl, rfl, ?_⟩
    simp only [wipe, _root_.L2.start, List.map_cons, List.map_nil, List.length_cons, List.length_nil, Nat.reduceAdd, Nat.reduceSub, List.replicate_succ, List.replicate_zero, List.cons_append, List.nil_append, List.set_cons_zero, List.set_cons_succ]
    refine ⟨_, rfl, _, rfl, (by show 2 ≤ sizeLine; decide), fun tp ntp => ?_⟩
    have E4 := Ex.new (o := .tup [.ref ea, .ref oa]) ntp
    have htp : upd H tp (.tup [.ref ea, .ref oa]) tp = some (.tup (([ea, oa] : List Addr).map V.ref)) := upd_same
    generalize upd H tp (.tup [.ref ea, .ref oa]) = H4 at *
    have hA : All2 (fun b p => IntsAt H4 b p) [ea, oa] [r.edge, r.out] := .cons (E4 _ _ a2) (.cons (E4 _ _ a3) .nil)
    refine ⟨tp, rfl, ⟨_, SqT.of htp⟩, for_tup (K := K) (a := tp) (xs := ([ea, oa] : List Addr).map V.ref)
      (fun i σ H' => Ex H4 H' ∧ (∀ p ∈ [r.edge, r.out].take i, 0 ≤ p.1 ∧ p.1 ≤ p.2) ∧ ∃ z7 z8 : Option V, σ = [some (.ref b), some (.str r.name), some (.bl r.start), some (.ref ea), some (.ref oa), some (.int r.setup), some (.int r.hold), z7, z8])
      ⟨.refl _, (by rw [List.take_zero]; exact fun _ h => nomatch h), _, _, rfl⟩ (fun i σ H' _ g => SqT.of (g.1 _ _ htp)) ?_ ?_⟩
    · rintro i x σ H5 hx ⟨E5, hall, z7, z8, rfl⟩
      obtain ⟨u, hu, rfl⟩ := refs_get hx
      obtain ⟨p, hp, hup⟩ := hA.at_ hu
      have hpm := List.mem_of_getElem? hp
      have bad : ¬ (0 ≤ p.1 ∧ p.1 ≤ p.2) → ¬ RegG r := fun z y => z (by
        simp only [List.mem_cons, List.not_mem_nil, or_false] at hpm
        rcases hpm with e | e <;> rw [e]
        · exact y.1.1
        · exact y.1.2)
      refine ⟨u, _, rfl, SqT.of (E5 _ _ hup), rfl, _, _, rfl, _, _, rfl, rfl, ?_⟩
      simp only [wipe, _root_.L2.start, List.map_cons, List.map_nil, List.length_cons, List.length_nil, Nat.reduceAdd, Nat.reduceSub, List.replicate_succ, List.replicate_zero, List.cons_append, List.nil_append, List.set_cons_zero, List.set_cons_succ]
      refine ⟨_, rfl, _, _, rfl, rfl, _, rfl, ite2 (fun c1 => ?_) (fun c1 => ?_)⟩
      · exact iteT ⟨_, rfl, z1, _, rfl, .inl ⟨r.name, rfl, sz_of (by omega), _, rfl, z2, _, rfl, z3, (by show 1 ≤ sizeLine; decide), q2 (bad fun z => by have := of_decide_eq_true c1; have := z.1; omega) _ (E4.trans E5)⟩⟩
      · refine ⟨_, rfl, _, rfl, _, _, rfl, rfl, _, rfl, ite2 (fun c2 => ?_) (fun c2 => ?_)⟩
        · exact ⟨_, rfl, z1, _, rfl, .inl ⟨r.name, rfl, sz_of (by omega), _, rfl, z2, _, rfl, z3, (by show 1 ≤ sizeLine; decide), q2 (bad fun z => by have := of_decide_eq_true c2; have := z.2; omega) _ (E4.trans E5)⟩⟩
        · refine ⟨E5, fun p' hp' => ?_, _, _, rfl⟩
          rw [take_snoc1 hp] at hp'
          rcases List.mem_append.mp hp' with z | z
          · exact hall p' z
          · rw [List.mem_singleton.mp z]
            have h1 : ¬ p.1 < 0 := fun z => c1 (decide_eq_true z)
            have h2 : ¬ p.1 > p.2 := fun z => c2 (decide_eq_true z)
            omega
    · rintro σ H5 ⟨E5, hall, z7, z8, rfl⟩
      have hall1 := hall r.edge (List.mem_cons_self ..)
      have hall2 := hall r.out (List.mem_cons_of_mem _ (List.mem_cons_self ..))
      have E45 := E4.trans E5
      refine ⟨_, rfl, _, _, rfl, rfl, _, rfl, ite2 (fun c1 => ?_) (fun c1 => ?_)⟩
      · exact iteT ⟨_, rfl, y1, _, rfl, .inl ⟨r.name, rfl, sz_of (by omega), _, rfl, y2, _, rfl, y3, (by show 1 ≤ sizeLine; decide), q2 (fun z => by have := of_decide_eq_true c1; have := z.2.1; omega) _ E45⟩⟩
      refine ⟨_, rfl, _, _, rfl, rfl, _, rfl, ite2 (fun c2 => ?_) (fun c2 => ?_)⟩
      · exact iteT ⟨_, rfl, y1, _, rfl, .inl ⟨r.name, rfl, sz_of (by omega), _, rfl, y2, _, rfl, y3, (by show 1 ≤ sizeLine; decide), q2 (fun z => by have := of_decide_eq_true c2; have := z.2.2.1; omega) _ E45⟩⟩
      refine ⟨_, rfl, _, rfl, _, _, _, _, rfl, rfl, SqT.of (E45 _ _ a3), atI_nat (j := 1) rfl, _, _, rfl, rfl, _, rfl, ite2 (fun c3 => ?_) (fun c3 => ?_)⟩
      · exact ⟨_, rfl, y1, _, rfl, .inl ⟨r.name, rfl, sz_of (by omega), _, rfl, y2, _, rfl, y3, (by show 1 ≤ sizeLine; decide), q2 (fun z => by have := of_decide_eq_true c3; have := z.2.2.2; omega) _ E45⟩⟩
      · refine q1 ⟨⟨hall1, hall2⟩, ?_, ?_, ?_⟩ _ E45
        · have : ¬ r.setup < 0 := fun z => c1 (decide_eq_true z)
          omega
        · have : ¬ r.hold < 0 := fun z => c2 (decide_eq_true z)
          omega
        · have : ¬ r.hold ≥ r.out.2 := fun z => c3 (decide_eq_true z)
          omega
end
end G
namespace G
open PySem PySem.Spec PyProof.Rows L2 Evl TL
/-! ## a cycle among the gates that are left -/
/-- who is left -/
def lf (n : Nat) (ord : List Nat) : List Bool := (List.range n).map fun k => decide (k ∉ ord)
theorem lf_len (n : Nat) (ord : List Nat) : (lf n ord).length = n := by unfold lf; rw [List.length_map, List.length_range]
theorem lf_at {n k : Nat} (ord : List Nat) (h : k < n) : (lf n ord)[k]? = some (decide (k ∉ ord)) := by unfold lf; rw [List.getElem?_map, List.getElem?_range h]; rfl
theorem lf_nil (n : Nat) : lf n [] = List.replicate n true := by
  refine List.ext_getElem? fun k => ?_
  by_cases h : k < n
  · rw [lf_at [] h, List.getElem?_replicate, if_pos h, decide_eq_true (by intro z; cases z)]
  · rw [List.getElem?_eq_none (by rw [lf_len]; omega), List.getElem?_eq_none (by rw [List.length_replicate]; omega)]
theorem lf_snoc {n g : Nat} (ord : List Nat) : (lf n ord).set g false = lf n (ord ++ [g]) := by
  refine List.ext_getElem? fun k => ?_
  by_cases h : k < n
  · rw [List.getElem?_set, lf_at _ h, lf_at _ h, lf_len]
    by_cases e : g = k
    · subst e
      rw [if_pos rfl, if_pos h, decide_eq_false fun z => z (List.mem_append_right _ (List.mem_singleton.mpr rfl))]
    · rw [if_neg e]
      congr 1
      rw [decide_eq_decide]
      constructor
      · exact fun z y => (List.mem_append.mp y).elim z fun y => e (List.mem_singleton.mp y).symm
      · exact fun z y => z (List.mem_append_left _ y)
  · rw [List.getElem?_eq_none (by rw [List.length_set, lf_len]; omega), List.getElem?_eq_none (by rw [lf_len]; omega)]
theorem lf_V (n : Nat) (ord : List Nat) {g : Nat} : ((lf n ord).map V.bl).set g (.bl false) = (lf n (ord ++ [g])).map V.bl := by rw [← lf_snoc, List.map_set]
/-- a cycle: each needs the next, the last the first -/
structure CycOk (N : List (List Nat)) (ord way : List Nat) : Prop where
  ne : way ≠ []
  nd : way.Nodup
  lt : ∀ k ∈ way, k < N.length
  nx : ∀ i k z, way[i]? = some k → (way ++ [way.headD 0])[i + 1]? = some z → z ∈ N.getD k []
structure Chain (N : List (List Nat)) (ord way : List Nat) (g : Nat) : Prop where
  nd : way.Nodup
  lt : ∀ k ∈ way ++ [g], k < N.length ∧ k ∉ ord
  nx : ∀ i k z, way[i]? = some k → (way ++ [g])[i + 1]? = some z → z ∈ N.getD k []
theorem Chain.step {N : List (List Nat)} {ord way : List Nat} {g z : Nat} (C : Chain N ord way g) (h : g ∉ way) (hz : z ∈ N.getD g []) (hl : z < N.length) (ho : z ∉ ord) : Chain N ord (way ++ [g]) z := by
  refine ⟨List.nodup_append.mpr ⟨C.nd, by simp, fun a ha b hb => fun y => h (by rw [← List.mem_singleton.mp hb, ← y]; exact ha)⟩, fun k hk => ?_, fun i k y hi hy => ?_⟩
  · rcases List.mem_append.mp hk with e | e
    · exact C.lt k e
    · rw [List.mem_singleton.mp e]; exact ⟨hl, ho⟩
  · by_cases hl : i < way.length
    · rw [List.getElem?_append_left hl] at hi
      rw [List.getElem?_append_left (by rw [List.length_append]; show _ < _ + 1; omega)] at hy
      exact C.nx i k y hi hy
    · have hil := (List.getElem?_eq_some_iff.mp hi).1
      rw [List.length_append] at hil
      have : i < way.length + 1 := hil
      have ei : i = way.length := by omega
      subst ei
      rw [List.getElem?_append_right (Nat.le_refl _), Nat.sub_self] at hi
      cases hi
      rw [List.getElem?_append_right (by rw [List.length_append]; exact Nat.le_refl _), List.length_append] at hy
      have e : way.length + 1 - (way.length + [g].length) = 0 := by show way.length + 1 - (way.length + 1) = 0; omega
      rw [e] at hy
      cases hy
      exact hz
theorem Chain.cyc {N : List (List Nat)} {ord way : List Nat} {g : Nat} (C : Chain N ord way g) (h : g ∈ way) : CycOk N ord (way.drop (way.idxOf g)) := by
  have hi := List.idxOf_lt_length_iff.mpr h
  have hg : way[way.idxOf g]? = some g := by rw [List.getElem?_eq_getElem hi]; exact congrArg some (List.getElem_idxOf hi)
  generalize way.idxOf g = i at *
  have hd : way.drop i = g :: way.drop (i + 1) := by
    rw [List.drop_eq_getElem_cons hi]
    congr 1
    exact (List.getElem?_eq_some_iff.mp hg).2
  refine ⟨by rw [hd]; exact List.cons_ne_nil _ _, C.nd.sublist (List.drop_sublist _ _), fun k hk => (C.lt k (List.mem_append_left _ (List.mem_of_mem_drop hk))).1, fun j k z hj hz => ?_⟩
  have e : (way.drop i).headD 0 = g := by rw [hd]; rfl
  rw [e] at hz
  rw [List.getElem?_drop] at hj
  refine C.nx (i + j) k z hj ?_
  have e2 : way.drop i ++ [g] = (way ++ [g]).drop i := by rw [List.drop_append_of_le_length (by omega)]
  rw [e2, List.getElem?_drop] at hz
  rw [← hz]; rfl
theorem LOrd.next {N : List (List Nat)} {ord : List Nat} (L : LOrd N ord) {g : Nat} (hg : g < N.length) (ho : g ∉ ord) : (N.getD g []).filter (fun o => decide (o ∉ ord)) ≠ [] := fun e => by
  refine ho (L.full g hg fun o hm => Classical.byContradiction fun z => ?_)
  have : o ∈ (N.getD g []).filter (fun o => decide (o ∉ ord)) := List.mem_filter.mpr ⟨hm, decide_eq_true z⟩
  rw [e] at this; cases this
theorem LOrd.first {N : List (List Nat)} {ord : List Nat} (L : LOrd N ord) (h : ord.length < N.length) : ∃ j, (lf N.length ord)[j]? = some true ∧ (∀ m b, m < j → (lf N.length ord)[m]? = some b → b = false) ∧ j < N.length ∧ j ∉ ord := by
  have hex : ∃ x, x ∈ lf N.length ord ∧ id x = true := by
    refine Classical.byContradiction fun z => ?_
    have all : ∀ k, k < N.length → k ∈ ord := fun k hk => Classical.byContradiction fun y => z ⟨_, List.mem_of_getElem? (lf_at ord hk), decide_eq_true y⟩
    have := (nodup_len ord.length (List.range N.length) List.nodup_range)
    have hp : ∀ (a b : List Nat), a.Nodup → (∀ x ∈ a, x ∈ b) → a.length ≤ b.length := fun a => by
      induction a with
      | nil => intro b _ _; exact Nat.zero_le _
      | cons x a ih =>
        intro b d m
        obtain ⟨d1, d2⟩ := List.nodup_cons.mp d
        have hx := m x List.mem_cons_self
        have := ih (b.erase x) d2 fun y hy => (List.mem_erase_of_ne fun e : y = x => d1 (e ▸ hy)).mpr (m y (List.mem_cons_of_mem _ hy))
        rw [List.length_erase_of_mem hx] at this
        have := List.length_pos_of_mem hx
        rw [List.length_cons]; omega
    have := hp (List.range N.length) ord List.nodup_range fun x hx => all x (List.mem_range.mp hx)
    rw [List.length_range] at this
    omega
  have hlt := List.findIdx_lt_length_of_exists hex
  have hat : id ((lf N.length ord)[(lf N.length ord).findIdx id]) = true := List.findIdx_getElem
  have hj : (lf N.length ord).findIdx id < N.length := by rw [lf_len] at hlt; exact hlt
  refine ⟨(lf N.length ord).findIdx id, by rw [List.getElem?_eq_getElem hlt]; exact congrArg some hat, fun m b hm hb => ?_, hj, ?_⟩
  · have := List.not_of_lt_findIdx hm
    obtain ⟨h1, h2⟩ := List.getElem?_eq_some_iff.mp hb
    rw [h2] at this
    cases b with
    | false => rfl
    | true => cases this
  · have h2 := lf_at ord hj
    rw [List.getElem?_eq_getElem hlt] at h2
    have h3 : (lf N.length ord)[(lf N.length ord).findIdx id] = true := hat
    rw [h3] at h2
    exact of_decide_eq_true (Option.some.inj h2).symm
theorem rep_flat {α : Type} (n : Nat) (x : α) : (List.replicate n [x]).flatten = List.replicate n x := by
  induction n with
  | zero => rfl
  | succ n ih => rw [List.replicate_succ, List.flatten_cons, ih, List.replicate_succ]; rfl
structure PlOk (es : List (Key × V)) (way : List Nat) : Prop where
  val : ∀ k : Nat, valV es (.inl (k : Int)) = if k ∈ way then some (.int ((way.idxOf k : Nat) : Int)) else none
  len : es.length ≤ way.length
theorem PlOk.put {es : List (Key × V)} {way : List Nat} (h : PlOk es way) {g : Nat} (hg : g ∉ way) : PlOk (putK es (.inl (g : Int)) (.int ((way.length : Nat) : Int))) (way ++ [g]) := by
  refine ⟨fun k => ?_, Nat.le_trans (length_putK _ _ _) (by rw [List.length_append]; exact Nat.succ_le_succ h.len)⟩
  rw [valV_put, List.idxOf_append]
  by_cases e : k = g
  · subst e
    rw [if_pos rfl, if_pos (List.mem_append_right _ (List.mem_singleton.mpr rfl)), if_neg hg]
    have : [k].idxOf k = 0 := by simp
    rw [this, Nat.zero_add]
  · rw [if_neg fun z => e (by have := Sum.inl.inj z; omega), h.val k]
    by_cases h1 : k ∈ way
    · rw [if_pos h1, if_pos (List.mem_append_left _ h1), if_pos h1]
    · rw [if_neg h1, if_neg fun z => (List.mem_append.mp z).elim h1 fun y => e (List.mem_singleton.mp y)]
structure TxtCy (mg : Str → Option Value) : Prop where
  len : mg "len" = none
section
variable {P : Program} {w : World} {K : PySem.W.Frag} {mg : Str → Option Value} {base : Heap}
def spCyc : Sp := fun vs H Q _ => ∃ (nl ol : Addr) (na : List Addr) (N : List (List Nat)) (ord : List Nat), vs = [.ref nl, .ref ol] ∧ H nl = some (.lst (na.map V.ref)) ∧ All2 (fun b l => H b = some (.lst (natsV l))) na N ∧ H ol = some (.lst (natsV ord)) ∧ N.length ≤ 200 ∧ (∀ k, (N.getD k []).length ≤ 100) ∧
  (∀ k o, k < N.length → o ∈ N.getD k [] → o < N.length) ∧ LOrd N ord ∧ ord.length < N.length ∧ ∀ (q : Addr) (H' : Hp) (way : List Nat), Ex H H' → H q = none → H' q = some (.lst (natsV way)) → CycOk N ord way → Q (.ref q) H'
theorem sc_cycle : FnScope ["read", "order", "left", "g", "way", "places", "other"] ["read", "order"] (defScope s_cycle) := ⟨rfl, rfl, rfl, by decide +kernel, rfl, by decide +kernel, by decide +kernel⟩
theorem ok_cycle (D : Dfd K mg "_cycle" s_cycle ["read", "order"]) (T : TxtCy mg) : Has P w K mg base 1 "_cycle" ["read", "order"] spCyc := by
  refine D.has fun f fd F => F.ok sc_cycle (fun vs H Q E h => ?_) (fun cdv A outer s H vs Q E hr h => ?_)
  · obtain ⟨nl, ol, na, N, ord, rfl, _⟩ := h
    rfl
  · obtain ⟨nl, ol, na, N, ord, rfl, hnl, hN, hol, hn, hw, hlt, hL, hsh, q⟩ := h
    refine ⟨_, (pss_cons (ps_set (i := 2) sc_cycle.nd rfl (.inr rfl) (pe_op op_rep (pe_lst (pa_cons pe_bl pa_nil)) (pe_callB call_len_seq (by rfl) T.len (by decide +kernel) (pa_cons (pv 0) pa_nil))))
    (pss_cons (ps_for PassesOwn.never rfl (pi_list (pv 1)) (pg_name (i := 3) sc_cycle.nd rfl (.inl rfl))
      (pss_one (ps_asg pe_bl (pg_sub (pv 2) (pv 3) set_list))))
    (pss_cons (ps_set (i := 3) sc_cycle.nd rfl (.inl rfl) (pe_bm PySem.F.plainAttrs_list PySem.F.slot_list_index PySem.F.type_list_index mt_index (pv 2) (pa_cons pe_bl pa_nil)))
    (pss_cons (ps_set (i := 4) sc_cycle.nd rfl (.inl rfl) (pe_lst pa_nil))
    (pss_cons (ps_set (i := 5) sc_cycle.nd rfl (.inl rfl) pe_dnewK)
    (pss_cons (ps_while PassesOwn.never (pt_cmp (pc_dnotin (hu_of hr) (pv 3) (pv 5)))
      (pss_cons (ps_asg (pe_callB call_len_seq (by rfl) T.len (by decide +kernel) (pa_cons (pv 4) pa_nil)) (pg_sub (pv 5) (pv 3) (set_dict (hu_of hr))))
      (pss_cons (ps_expr (pe_bm PySem.F.plainAttrs_list PySem.F.slot_list_append PySem.F.type_list_append mt_append (pv 4) (pa_cons (pv 3) pa_nil)))
      (pss_one (ps_set (i := 3) sc_cycle.nd rfl (.inl rfl) (pe_ix ix_list (pe_lc (own := [("other", 6)]) (g := gName 6) (tt := _) rfl sc_cycle.nd (pi_list (pe_ix ix_list (pv 0) (pv 3) (fun _ _ => rfl))) (blkOk_by (N := ["read", "order", "left", "g", "way", "places", "other"]) (sc := defScope s_cycle) (own := [("other", 6)]) (by decide +kernel)) (fun _ _ _ _ _ => (pg_name (i := 6) sc_cycle.nd rfl (.inl rfl))) (fun _ _ _ _ _ => pts_one (pt_val (pe_ix (kIxL (K := K) rfl) (pv 2) (pv 6) (fun _ _ => rfl)))) (fun _ _ _ _ _ => (pv 6))) pe_int (fun _ _ => rfl)))))))
    (pss_one (ps_ret (pe_slice sl_list (pv 4) (po_some (pe_dget (hu_of hr) (pv 5) (pv 3) (fun _ _ => rfl))) po_none))))))))), ?_⟩
    have hal : (na.map V.ref).length = N.length := by rw [List.length_map, hN.1]
    have hno : ∀ k b, na[k]? = some b → H b = some (.lst (natsV (N.getD k []))) := fun k b hb => by
      obtain ⟨l, hl, h1⟩ := hN.at_ hb
      rw [List.getD_eq_getElem?_getD, hl]; exact h1
    refine ⟨(by show 1 ≤ sizeLine; decide), fun t nt => ⟨_, rfl, _, _, rfl, .inl (SqL.of (Ex.new nt _ _ hnl)), t, _, _, rfl, rfl, upd_same, by omega, by rw [hal]; omega, sz_of (by rw [hal, Int.toNat_natCast]; show 1 * _ ≤ _; omega), fun LL nLL => ?_⟩⟩
    have E1 := (Ex.new (o := .lst [V.bl true]) nt).trans (Ex.new (o := .lst (List.replicate ((((na.map V.ref).length : Nat) : Int)).toNat [V.bl true]).flatten) nLL)
    have nL0 : H LL = none := fresh_back (Ex.new (o := .lst [V.bl true]) nt) nLL
    have hLL : (upd (upd H t (.lst [V.bl true])) LL (.lst (List.replicate ((((na.map V.ref).length : Nat) : Int)).toNat [V.bl true]).flatten)) LL = some (.lst ((lf N.length []).map V.bl)) := by
      rw [upd_same, rep_flat, hal, Int.toNat_natCast, lf_nil, List.map_replicate]
    generalize upd (upd H t (.lst [V.bl true])) LL (.lst (List.replicate ((((na.map V.ref).length : Nat) : Int)).toNat [V.bl true]).flatten) = H1 at *
    refine ⟨_, rfl, ol, rfl, ⟨_, SqL.of (E1 _ _ hol)⟩, for_list (K := K) (a := ol) (xs := natsV ord)
      (fun j σ H' => Ex H H' ∧ H' LL = some (.lst ((lf N.length (ord.take j)).map V.bl)) ∧ ∃ z3 : Option V, σ = [some (.ref nl), some (.ref ol), some (.ref LL), z3, none, none, none])
      ⟨E1, by rw [List.take_zero]; exact hLL, _, rfl⟩ (fun j σ H' _ g => SqL.of (g.1 _ _ hol)) ?_ ?_⟩
    · rintro j y σ H2 hy ⟨E2, hL2, z3, rfl⟩
      obtain ⟨g, hg, rfl⟩ := nats_get hy
      have hgl := hL.lt g (List.mem_of_getElem? hg)
      refine ⟨_, rfl, _, rfl, LL, _, _, g, rfl, rfl, hL2, ixN_nat (by rw [List.length_map, lf_len]; exact hgl), E2.mut nL0, ?_, _, rfl⟩
      rw [upd_same, lf_V, take_snoc1 hg]
    rintro σ H2 ⟨E2, hL2, z3, rfl⟩
    rw [nats_len, List.take_length] at hL2
    obtain ⟨j, hj1, hj2, hjl, hjo⟩ := hL.first hsh
    refine ⟨_, rfl, .inl ⟨rfl, _, SqL.of hL2⟩, LL, _, .bl true, j, .bl true, rfl, rfl, SqL.of hL2, rfl, flat_map (fun _ => rfl) _, by rw [List.getElem?_map, hj1]; rfl, rfl, fun m z' hm hz => ?_, Nat.zero_le _, fun WL nWL => fun PD nPD => ?_⟩
    · rw [List.getElem?_map] at hz
      obtain ⟨b, hb, rfl⟩ := Option.map_eq_some_iff.mp hz
      rw [hj2 m b hm hb]; rfl
    have E3 := (E2.trans (Ex.new (o := .lst []) nWL)).trans (Ex.new (o := .dK []) nPD)
    have hW : (upd (upd H2 WL (.lst [])) PD (.dK [])) WL = some (.lst (natsV [])) := Ex.new nPD _ _ upd_same
    have hP : (upd (upd H2 WL (.lst [])) PD (.dK [])) PD = some (.dK []) := upd_same
    have hL3 : (upd (upd H2 WL (.lst [])) PD (.dK [])) LL = some (.lst ((lf N.length ord).map V.bl)) := Ex.new nPD _ _ (Ex.new nWL _ _ hL2)
    have nW0 : H WL = none := fresh_back E2 nWL
    have nP0 : H PD = none := fresh_back (E2.trans (Ex.new (o := .lst []) nWL)) nPD
    have nLW : LL ≠ WL := ne_of_none hL2 nWL
    have nLP : LL ≠ PD := ne_of_none (Ex.new (o := .lst []) nWL _ _ hL2) nPD
    have nWP : WL ≠ PD := ne_of_none (upd_same (H := H2) (a := WL) (o := .lst [])) nPD
    generalize upd (upd H2 WL (.lst [])) PD (.dK []) = H3 at *
    refine ⟨fun μ σ H' => Ex H H' ∧ H' LL = some (.lst ((lf N.length ord).map V.bl)) ∧ ∃ (way : List Nat) (g : Nat) (es : List (Key × V)), H' WL = some (.lst (natsV way)) ∧ H' PD = some (.dK es) ∧ PlOk es way ∧ Chain N ord way g ∧ μ + way.length = N.length ∧ σ = [some (.ref nl), some (.ref ol), some (.ref LL), some (.int (g : Nat)), some (.ref WL), some (.ref PD), none],
      ⟨N.length, E3, hL3, [], j, [], hW, hP, ⟨fun k => by rw [if_neg (by intro z; cases z)]; rfl, Nat.le_refl _⟩, ⟨List.nodup_nil, fun k hk => by rw [List.nil_append] at hk; rw [List.mem_singleton.mp hk]; exact ⟨hjl, hjo⟩, fun i k z h => by cases h⟩, rfl, rfl⟩, ?_⟩
    rintro μ σ H4 ⟨E4, hL4, way, g, es, hW4, hP4, hPl, hC, hμ, rfl⟩
    obtain ⟨hgl, hgo⟩ := hC.lt g (List.mem_append_right _ (List.mem_singleton.mpr rfl))
    refine ⟨_, rfl, _, rfl, PD, _, rfl, DGet.k (k := Sum.inl (g : Int)) hP4, _, rfl, ?_⟩
    rw [hPl.val g]
    have hwl : way.length ≤ 200 := by omega
    by_cases hin : g ∈ way
    · rw [if_pos hin]
      refine iteF ?_
      have hi := List.idxOf_lt_length_iff.mpr hin
      have hget : DGet H4 PD (kV (Sum.inl (g : Int))) (some (.int ((way.idxOf g : Nat) : Int))) := by
        have := DGet.k (k := Sum.inl (g : Int)) hP4
        rw [hPl.val g, if_pos hin] at this
        exact this
      refine ⟨_, rfl, _, rfl, _, rfl, PD, _, rfl, hget, _, rfl, ?_⟩
      unfold tNoPart
      dsimp only
      refine ⟨WL, _, rfl, SqL.of hW4, fun p np => ?_⟩
      rw [cutV_tail (by rw [nats_len]; omega)]
      refine q p _ (way.drop (way.idxOf g)) (E4.trans (Ex.new np)) (fresh_back E4 np) ?_ (hC.cyc hin)
      rw [upd_same]
      unfold natsV
      rw [List.map_drop]
    · rw [if_neg hin]
      refine iteT ⟨fun σ' H' => Ex H H' ∧ H' LL = some (.lst ((lf N.length ord).map V.bl)) ∧ ∃ (g' : Nat) (es : List (Key × V)), H' WL = some (.lst (natsV (way ++ [g]))) ∧ H' PD = some (.dK es) ∧ PlOk es (way ++ [g]) ∧ Chain N ord (way ++ [g]) g' ∧ σ' = [some (.ref nl), some (.ref ol), some (.ref LL), some (.int (g' : Nat)), some (.ref WL), some (.ref PD), none], ?_, ?_⟩
      · rintro σ' H' ⟨b1, b2, g', es', b3, b4, b5, b6, rfl⟩
        have hle : (way ++ [g]).length ≤ N.length := nodup_len N.length (way ++ [g]) b6.nd fun k hk => (hC.lt k hk).1
        rw [List.length_append] at hle
        have hle : way.length + 1 ≤ N.length := hle
        exact ⟨μ - 1, by omega, b1, b2, way ++ [g], g', es', b3, b4, b5, b6, by rw [List.length_append]; show μ - 1 + (way.length + 1) = _; omega, rfl⟩
      refine ⟨_, rfl, _, _, rfl, .inl (SqL.of hW4), _, rfl, _, rfl, PD, _, rfl, .inl ⟨es, .inl (g : Int), hP4, rfl, sz_lt (by have := hPl.len; omega), rfl⟩, ?_⟩
      rw [nats_len]
      have E5 := E4.mut (o := .dK (putK es (.inl (g : Int)) (.int ((way.length : Nat) : Int)))) nP0
      have hP5 : upd H4 PD (.dK (putK es (.inl (g : Int)) (.int ((way.length : Nat) : Int)))) PD = some (.dK (putK es (.inl (g : Int)) (.int ((way.length : Nat) : Int)))) := upd_same
      have hW5 : upd H4 PD (.dK (putK es (.inl (g : Int)) (.int ((way.length : Nat) : Int)))) WL = some (.lst (natsV way)) := by rw [upd_ne nWP]; exact hW4
      have hL5 : upd H4 PD (.dK (putK es (.inl (g : Int)) (.int ((way.length : Nat) : Int)))) LL = some (.lst ((lf N.length ord).map V.bl)) := by rw [upd_ne nLP]; exact hL4
      generalize upd H4 PD (.dK (putK es (.inl (g : Int)) (.int ((way.length : Nat) : Int)))) = H5 at *
      refine ⟨_, rfl, .inl ⟨rfl, _, SqL.of hW5⟩, _, rfl, WL, _, .int (g : Nat), rfl, rfl, hW5, sz_lt (by rw [nats_len]; omega), ?_⟩
      rw [← nats_snoc]
      have E6 := E5.mut (o := .lst (natsV (way ++ [g]))) nW0
      have hP6 : upd H5 WL (.lst (natsV (way ++ [g]))) PD = some (.dK (putK es (.inl (g : Int)) (.int ((way.length : Nat) : Int)))) := by rw [upd_ne (Ne.symm nWP)]; exact hP5
      have hW6 : upd H5 WL (.lst (natsV (way ++ [g]))) WL = some (.lst (natsV (way ++ [g]))) := upd_same
      have hL6 : upd H5 WL (.lst (natsV (way ++ [g]))) LL = some (.lst ((lf N.length ord).map V.bl)) := by rw [upd_ne nLW]; exact hL5
      generalize upd H5 WL (.lst (natsV (way ++ [g]))) = H6 at *
      obtain ⟨b, hb⟩ : ∃ b, na[g]? = some b := ⟨_, List.getElem?_eq_getElem (by have := hN.1; omega)⟩
      have hbl := hno g b hb
      refine ⟨_, rfl, _, rfl, nl, _, _, .ref b, rfl, rfl, SqL.of (E6 _ _ hnl), at_of (j := g) rfl (by rw [List.getElem?_map, hb]; rfl), b, rfl, ⟨_, SqL.of (E6 _ _ hbl)⟩, fun OL nOL => wk_list (K := K) (a := b) (xs := natsV (N.getD g []))
        (fun i H' => Ex H6 H' ∧ H' OL = some (.lst (natsV (((N.getD g []).take i).filter fun o => decide (o ∉ ord))))) ⟨Ex.new nOL, upd_same⟩ (fun i H' _ z => SqL.of ((E6.trans z.1) _ _ hbl)) ?_ ?_⟩
      · rintro i y H7 hy ⟨E7, hO⟩
        obtain ⟨o, ho, rfl⟩ := nats_get hy
        have hol := hlt g o hgl (List.mem_of_getElem? ho)
        have hfl : (((N.getD g []).take i).filter fun o => decide (o ∉ ord)).length ≤ 100 := by
          have h1 := List.length_filter_le (fun o => decide (o ∉ ord)) ((N.getD g []).take i)
          rw [List.length_take] at h1
          have := hw g
          omega
        refine ⟨rfl, ?_⟩
        simp only [wipe, _root_.L2.start, List.map_cons, List.map_nil, List.length_cons, List.length_nil, Nat.reduceAdd, Nat.reduceSub, List.replicate_succ, List.replicate_zero, List.cons_append, List.nil_append, List.set_cons_zero, List.set_cons_succ]
        refine ⟨_, rfl, _, rfl, LL, _, _, .bl (decide (o ∉ ord)), rfl, rfl, SqL.of (E7 _ _ hL6), at_of (j := o) rfl (by rw [List.getElem?_map, lf_at ord hol]; rfl), _, rfl, ?_⟩
        cases hb2 : decide (o ∉ ord) with
        | true =>
          refine iteT ⟨_, rfl, _, hO, sz_lt (by rw [nats_len]; omega), E7.mut nOL, ?_⟩
          rw [upd_same, take_snoc1 ho, List.filter_append, ← nats_snoc, List.filter_cons, hb2, if_pos rfl]; rfl
        | false =>
          refine iteF ⟨E7, ?_⟩
          rw [hO, take_snoc1 ho, List.filter_append, List.filter_cons, hb2, if_neg Bool.false_ne_true, List.filter_nil, List.append_nil]
      · rintro H7 ⟨E7, hO⟩
        rw [nats_len, List.take_length] at hO
        have hne := hL.next hgl hgo
        obtain ⟨z, r, hz⟩ := List.exists_cons_of_ne_nil hne
        have hzm : z ∈ (N.getD g []).filter fun o => decide (o ∉ ord) := by rw [hz]; exact List.mem_cons_self ..
        obtain ⟨hz1, hz2⟩ := List.mem_filter.mp hzm
        rw [hz] at hO
        refine ⟨OL, _, _, .int (z : Nat), rfl, rfl, SqL.of hO, atI_nat (j := 0) rfl, ?_⟩
        exact ⟨E6.trans E7, E7 _ _ hL6, z, _, E7 _ _ hW6, E7 _ _ hP6, hPl.put hin, hC.step hin hz1 (hlt g z hgl hz1) (of_decide_eq_true hz2), rfl⟩
end
end G
namespace G
open PySem PySem.Spec PyProof.Rows L2 Evl TL
/-! ## the lengths of the paths -/
def mxF (f : Nat → Nat) (l : List Nat) : Nat := (l.map f).foldl max 0
def stepL (N : List (List Nat)) (f : Nat → Nat) (g : Nat) : Nat → Nat := fun x => if x = g then 1 + mxF f (N.getD g []) else f x
def lenF (N : List (List Nat)) (ord : List Nat) : Nat → Nat := ord.foldl (stepL N) fun _ => 0
theorem lenF_snoc (N : List (List Nat)) (ord : List Nat) (g : Nat) : lenF N (ord ++ [g]) = stepL N (lenF N ord) g := by unfold lenF; rw [List.foldl_append]; rfl
def DeepP (N : List (List Nat)) (ord : List Nat) : Prop := ∃ i k, ord[i]? = some k ∧ 100 < lenF N (ord.take (i + 1)) k
def lensI (N : List (List Nat)) (ord : List Nat) (n : Nat) : List Int := (List.range n).map fun k => ((lenF N ord k : Nat) : Int)
theorem lensI_len (N : List (List Nat)) (ord : List Nat) (n : Nat) : (lensI N ord n).length = n := by unfold lensI; rw [List.length_map, List.length_range]
theorem lensI_at {N : List (List Nat)} {ord : List Nat} {n k : Nat} (h : k < n) : (lensI N ord n)[k]? = some ((lenF N ord k : Nat) : Int) := by unfold lensI; rw [List.getElem?_map, List.getElem?_range h]; rfl
theorem lensI_nil (N : List (List Nat)) (n : Nat) : lensI N [] n = List.replicate n 0 := by
  refine List.ext_getElem? fun k => ?_
  by_cases h : k < n
  · rw [lensI_at h, List.getElem?_replicate, if_pos h]; rfl
  · rw [List.getElem?_eq_none (by rw [lensI_len]; omega), List.getElem?_eq_none (by rw [List.length_replicate]; omega)]
theorem lensI_snoc (N : List (List Nat)) (ord : List Nat) (n g : Nat) : (lensI N ord n).set g ((1 + mxF (lenF N ord) (N.getD g []) : Nat) : Int) = lensI N (ord ++ [g]) n := by
  refine List.ext_getElem? fun k => ?_
  by_cases h : k < n
  · rw [List.getElem?_set, lensI_at h, lensI_at h, lensI_len, lenF_snoc]
    unfold stepL
    by_cases e : g = k
    · subst e
      rw [if_pos rfl, if_pos h, if_pos rfl]
    · rw [if_neg e, if_neg fun z => e z.symm]
  · rw [List.getElem?_eq_none (by rw [List.length_set, lensI_len]; omega), List.getElem?_eq_none (by rw [lensI_len]; omega)]
theorem foldl_cast : ∀ (l : List Nat) (n : Nat), (l.map fun k : Nat => (k : Int)).foldl max (n : Int) = ((l.foldl max n : Nat) : Int)
  | [], _ => rfl
  | x :: l, n => by
    rw [List.map_cons, List.foldl_cons, List.foldl_cons, show max (n : Int) (x : Int) = ((max n x : Nat) : Int) by omega]
    exact foldl_cast l _
theorem rMaxDf_of {K : PySem.W.Frag} {H : Hp} {Q : VK} {a : Addr} {ns : List Int} {m d : Int} (hs : SqL K H a (ns.map V.int)) (h0 : ns = [] → m = d) (h1 : ∀ n r, ns = n :: r → r.foldl max n = m) (q : Q (.int m) H) : rMaxDf K [.ref a] [.int d] H Q :=
  ⟨a, ns, d, rfl, rfl, hs, fun e => by rw [← h0 e]; exact q, fun n r e => by rw [h1 n r e]; exact q⟩
theorem str_len_app5 (a b : Str) : (a ++ b).length = a.length + b.length := by rw [len_tl, tl_append, List.length_append, ← len_tl, ← len_tl]
structure TxtPt (mg : Str → Option Value) : Prop where
  len : mg "len" = none
  tuple : mg "tuple" = none
  max : mg "max" = none
section
variable {P : Program} {w : World} {K : PySem.W.Frag} {mg : Str → Option Value} {base : Heap}
def spCkP (Dc Lc : Addr) : Sp := fun vs H Q E => ∃ (gt : Addr) (d : CircD) (ga : List Addr), vs = [.ref gt] ∧ H gt = some (.tup (ga.map V.ref)) ∧ All2 (GateAt H) ga d.gates ∧ GN d ∧ (∀ g ∈ d.gates, g.name.length ≤ 1000) ∧ ∀ ord, LOrd (needN d) ord →
  (ord.length = d.gates.length → ¬ DeepP (needN d) ord → ∀ H', Ex H H' → Q .non H') ∧ (ord.length = d.gates.length → DeepP (needN d) ord → ∀ H', Ex H H' → E (.ref Dc) none H') ∧
  (ord.length < d.gates.length → ∀ (H1 : Hp) (dd tp : Addr) (way : List Nat), Ex H H1 → H1 dd = none → CycOk (needN d) ord way → H1 tp = some (.tup ((way.map fun k => (gnames d).getD k "").map V.str)) → E (.ref Lc) (some dd) (upd H1 dd (.xd [("names", .ref tp)])))
theorem sc_check_paths : FnScope ["gates", "read", "order", "g", "lengths", "other"] ["gates"] (defScope s_check_paths) := ⟨rfl, rfl, rfl, by decide +kernel, rfl, by decide +kernel, by decide +kernel⟩
theorem ok_check_paths {Dc Lc fL : Addr} {dL : FuncData} (D : Dfd K mg "_check_paths" s_check_paths ["gates"]) (T : TxtPt mg) (UD : ExcT K mg "TooDeep" Dc) (OL : Own1 P w K mg base "Looped" "names" Lc fL dL okNms) (g : ∃ t, mg "LONGEST_PATH" = some (.int 100 t))
    (C1 : Has P w K mg base 1 "_gates_read" ["gates"] spGates) (C2 : Has P w K mg base 1 "least_order" ["needed"] spLeast) (C3 : Has P w K mg base 1 "_cycle" ["read", "order"] spCyc) : HasN P w K mg base 4 "_check_paths" ["gates"] (spCkP Dc Lc) := by
  obtain ⟨t, g_LONGEST_PATH⟩ := g
  obtain ⟨f_gates_read, d_gates_read, G_gates_read, g_gates_read, k_gates_read, b_gates_read⟩ := C1
  obtain ⟨f_least_order, d_least_order, G_least_order, g_least_order, k_least_order, b_least_order⟩ := C2
  obtain ⟨f_cycle, d_cycle, G_cycle, g_cycle, k_cycle, b_cycle⟩ := C3
  obtain ⟨f, fd, F, gf, bf⟩ := D
  refine ⟨f, fd, F.okN sc_check_paths (fun vs H Q E h => ?_) (fun cdv A outer s H vs Q E hr h => ?_), gf, F.kp, bf⟩
  · obtain ⟨gt, d, ga, rfl, _⟩ := h
    rfl
  · obtain ⟨gt, d, ga, rfl, hgt, hA, hN, hnm, q⟩ := h
    refine ⟨_, (pss_cons (ps_set (i := 1) sc_check_paths.nd rfl (.inl rfl) (pe_call G_gates_read (hr.mono (by omega)) (by rfl) g_gates_read k_gates_read b_gates_read .nil pass0 (pa_cons (pv 0) pa_nil)))
    (pss_cons (ps_set (i := 2) sc_check_paths.nd rfl (.inl rfl) (pe_call G_least_order (hr.mono (by omega)) (by rfl) g_least_order k_least_order b_least_order .nil pass0 (pa_cons (pv 1) pa_nil)))
    (pss_cons (ps_if (pt_cmpR op_lt (pe_callB call_len_seq (by rfl) T.len (by decide +kernel) (pa_cons (pv 2) pa_nil)) (pe_callB call_len_seq (by rfl) T.len (by decide +kernel) (pa_cons (pv 0) pa_nil)) (nomark _))
      (pss_one (L2N.ps_raise rfl (L2N.takes_of rfl rfl rfl rfl) (pmkN_own1 OL (hr.mono (by omega)) rfl (pa_cons (pe_callTy call_tuple_of (by rfl) T.tuple (by decide +kernel) (pa_cons (pe_lc (own := [("g", 3)]) (g := gName 3) (tt := tYes) rfl sc_check_paths.nd (pi_list (pe_call G_cycle (hr.mono (by omega)) (by rfl) g_cycle k_cycle b_cycle .nil pass0 (pa_cons (pv 1) (pa_cons (pv 2) pa_nil)))) (blkOk_by (N := ["gates", "read", "order", "g", "lengths", "other"]) (sc := defScope s_check_paths) (own := [("g", 3)]) (by decide +kernel)) (fun _ _ _ _ _ => (pg_name (i := 3) sc_check_paths.nd rfl (.inl rfl))) (fun _ _ _ _ _ => pts_nil) (fun _ _ _ _ _ => (pe_ix (kIxT (K := K) rfl) (pe_ix (kIxT (K := K) rfl) (pv 0) (pv 3) (fun _ _ => rfl)) pe_int (fun _ _ => rfl)))) pa_nil)) pa_nil))))
      pss_nil)
    (pss_cons (ps_set (i := 4) sc_check_paths.nd rfl (.inr rfl) (pe_op op_rep (pe_lst (pa_cons pe_int pa_nil)) (pe_callB call_len_seq (by rfl) T.len (by decide +kernel) (pa_cons (pv 0) pa_nil))))
    (pss_one (ps_for (passes_of rfl) rfl (pi_list (pv 2)) (pg_name (i := 3) sc_check_paths.nd rfl (.inl rfl))
      (pss_cons (ps_asg (pe_op op_add pe_int (pe_callBK (cr_maxDf rfl (Nat.lt_of_le_of_lt (Nat.add_le_add_right (Nat.le_add_right _ _) _) hr.un)) (by rfl) T.max (by decide +kernel) (pa_cons (pe_lc (own := [("other", 5)]) (g := gName 5) (tt := tYes) rfl sc_check_paths.nd (pi_list (pe_ix ix_list (pv 1) (pv 3) (fun _ _ => rfl))) (blkOk_by (N := ["gates", "read", "order", "g", "lengths", "other"]) (sc := defScope s_check_paths) (own := [("other", 5)]) (by decide +kernel)) (fun _ _ _ _ _ => (pg_name (i := 5) sc_check_paths.nd rfl (.inl rfl))) (fun _ _ _ _ _ => pts_nil) (fun _ _ _ _ _ => (pe_ix (kIxL (K := K) rfl) (pv 4) (pv 5) (fun _ _ => rfl)))) pa_nil) (pk_cons pe_int pk_nil))) (pg_sub (pv 4) (pv 3) set_list))
      (pss_one (ps_if (pt_cmpR op_gt (pe_ix ix_list (pv 4) (pv 3) (fun _ _ => rfl)) (gInt rfl g_LONGEST_PATH) (nomark _))
        (pss_one (L2N.ps_raise rfl (L2N.takes_of rfl rfl rfl rfl) (pmkN_ownA PySem.F.excBase_ValueError UD.xP UD.gC UD.kC (raises_own UD.bC UD.tC) rfl (pa_cons (pe_joined (.cons pe_str (.cons (pe_fmt (pe_ix ix_tup (pe_ix ix_tup (pv 0) (pv 3) (fun _ _ => rfl)) pe_int (fun _ _ => rfl))) (.cons pe_str (.cons (pe_fmt (gInt rfl g_LONGEST_PATH)) (.cons pe_str .nil)))))) pa_nil))))
        pss_nil))))))))), ?_⟩
    have hgl : ga.length = d.gates.length := hA.1
    have hnl := need_len d
    have hfew := hN.few
    have hw : ∀ k, ((needN d).getD k []).length ≤ 100 := fun k => by
      unfold needN
      rw [List.getD_eq_getElem?_getD, List.getElem?_map]
      cases e : d.gates[k]? with
      | none => exact Nat.zero_le _
      | some g =>
        show ((g.pins.filter _).map _).length ≤ 100
        rw [List.length_map]
        have h1 := List.length_filter_le (fun x => decide (x ∈ gnames d)) g.pins
        have h2 := hN.fewp g (List.mem_of_getElem? e)
        omega
    refine ⟨_, rfl, gt, d, ga, rfl, hgt, hA, hN, fun nl na H1 E1 hnl1 hna => ?_⟩
    refine ⟨_, rfl, nl, na, needN d, rfl, hnl1, hna, by omega, hw, need_lt, fun ol H2 ord E2 nol hol hL => ?_⟩
    obtain ⟨q1, q2, q3⟩ := q ord hL
    have E02 := E1.trans E2
    have hole : ord.length ≤ (needN d).length := nodup_len _ ord hL.nd hL.lt
    have hgate : ∀ (k : Nat) (g : GateD), d.gates[k]? = some g → ∃ b xs, ga[k]? = some b ∧ H b = some (.tup xs) ∧ xs[0]? = some (.str g.name) := fun k g hk => by
      obtain ⟨b, hb, t', pt, rgt, rla, h1, _⟩ := hA.of hk
      exact ⟨b, _, hb, h1, rfl⟩
    have hna2 : All2 (fun b l => H2 b = some (.lst (natsV l))) na (needN d) := hna.imp fun _ _ z => E2 _ _ z
    refine ⟨_, rfl, _, _, rfl, .inl (SqL.of hol), _, rfl, _, _, rfl, .inr (SqT.of (E02 _ _ hgt)), _, _, rfl, rfl, _, rfl, ite2 (fun c1 => ?_) (fun c1 => ?_)⟩
    · have hsh : ord.length < d.gates.length := by have := of_decide_eq_true c1; rw [nats_len, List.length_map, hgl] at this; omega
      refine ⟨_, rfl, _, rfl, nl, ol, na, needN d, ord, rfl, E2 _ _ hnl1, hna2, hol, by omega, hw, need_lt, hL, by omega, fun wq H3 way E3 nwq hwq hC => ⟨wq, rfl, ⟨_, SqL.of hwq⟩, fun TL nTL => wk_list (K := K) (a := wq) (xs := natsV way)
        (fun j H' => Ex H3 H' ∧ H' TL = some (.lst (((way.take j).map fun k => (gnames d).getD k "").map V.str))) ⟨Ex.new nTL, upd_same⟩ (fun j H' _ z => SqL.of (z.1 _ _ hwq)) ?_ ?_⟩⟩
      · rintro j y H4 hy ⟨E4, hT⟩
        obtain ⟨k, hk, rfl⟩ := nats_get hy
        have hkl := hC.lt k (List.mem_of_getElem? hk)
        have hwl := nodup_len _ way hC.nd hC.lt
        have hj : j < way.length := (List.getElem?_eq_some_iff.mp hk).1
        obtain ⟨g, hg⟩ : ∃ g, d.gates[k]? = some g := ⟨_, List.getElem?_eq_getElem (by omega)⟩
        obtain ⟨b, xs, hb, hbx, hx0⟩ := hgate k g hg
        have e04 := E02.trans (E3.trans E4)
        refine ⟨rfl, tYes_in ?_⟩
        simp only [wipe, _root_.L2.start, List.map_cons, List.map_nil, List.length_cons, List.length_nil, Nat.reduceAdd, Nat.reduceSub, List.replicate_succ, List.replicate_zero, List.cons_append, List.nil_append, List.set_cons_zero, List.set_cons_succ]
        refine ⟨_, rfl, _, rfl, gt, _, _, .ref b, rfl, rfl, SqT.of (e04 _ _ hgt), at_of (j := k) rfl (by rw [List.getElem?_map, hb]; rfl), _, _, _, _, rfl, rfl, SqT.of (e04 _ _ hbx), atI_nat (j := 0) hx0, _, hT, sz_lt (by rw [List.length_map, List.length_map, List.length_take]; omega), E4.mut nTL, ?_⟩
        rw [upd_same, take_snoc1 hk, List.map_append, List.map_append]
        have e : (gnames d).getD k "" = g.name := by unfold gnames; rw [List.getD_eq_getElem?_getD, List.getElem?_map, hg]; rfl
        show _ = some (HO.lst (_ ++ [V.str ((gnames d).getD k "")]))
        rw [e]
      · rintro H4 ⟨E4, hT⟩
        rw [nats_len, List.take_length] at hT
        have hwl := nodup_len _ way hC.nd hC.lt
        refine ⟨TL, _, rfl, .inl ⟨SqL.of hT, fun tp ntp => mk1 (fun a na => ⟨tp, _, rfl, Ex.new na _ _ upd_same, by rw [List.length_map]; omega⟩) fun dd nd => ?_⟩⟩
        exact q3 hsh _ dd tp way (E02.trans (E3.trans (E4.trans (Ex.new ntp)))) nd hC upd_same
    have hfull : ord.length = d.gates.length := by
      have : ¬ ((natsV ord).length : Int) < ((ga.map V.ref).length : Int) := fun z => c1 (decide_eq_true z)
      rw [nats_len, List.length_map, hgl] at this
      omega
    refine ⟨(by show 1 ≤ sizeLine; decide), fun t0 nt0 => ⟨_, rfl, _, _, rfl, .inr (SqT.of (Ex.new nt0 _ _ (E02 _ _ hgt))), t0, _, _, rfl, rfl, upd_same, by omega, by rw [List.length_map]; omega, sz_of (by rw [List.length_map, Int.toNat_natCast]; show 1 * _ ≤ _; omega), fun LL nLL => ?_⟩⟩
    have E3 := (Ex.new (o := .lst [V.int 0]) nt0).trans (Ex.new (o := .lst (List.replicate ((((ga.map V.ref).length : Nat) : Int)).toNat [V.int 0]).flatten) nLL)
    have nL0 : H LL = none := fresh_back (E02.trans (Ex.new (o := .lst [V.int 0]) nt0)) nLL
    have hLL : (upd (upd H2 t0 (.lst [V.int 0])) LL (.lst (List.replicate ((((ga.map V.ref).length : Nat) : Int)).toNat [V.int 0]).flatten)) LL = some (.lst ((lensI (needN d) [] d.gates.length).map V.int)) := by
      rw [upd_same, rep_flat, List.length_map, hgl, Int.toNat_natCast, lensI_nil, List.map_replicate]
    have E03 := E02.trans E3
    have hol3 := E3 _ _ hol
    have nLo : ol ≠ LL := ne_of_none (Ex.new (o := .lst [V.int 0]) nt0 _ _ hol) nLL
    have hnl3 := E3 _ _ (E2 _ _ hnl1)
    have nLn : nl ≠ LL := ne_of_none (Ex.new (o := .lst [V.int 0]) nt0 _ _ (E2 _ _ hnl1)) nLL
    have hna3 : ∀ k b, na[k]? = some b → H2 b = some (.lst (natsV ((needN d).getD k []))) := fun k b hb => by
      obtain ⟨l, hl, h1⟩ := hna2.at_ hb
      rw [List.getD_eq_getElem?_getD, hl]; exact h1
    have nL2 : H2 LL = none := fresh_back (Ex.new (o := .lst [V.int 0]) nt0) nLL
    generalize upd (upd H2 t0 (.lst [V.int 0])) LL (.lst (List.replicate ((((ga.map V.ref).length : Nat) : Int)).toNat [V.int 0]).flatten) = H3 at *
    refine ⟨_, rfl, ol, rfl, ⟨_, SqL.of hol3⟩, for_list (K := K) (a := ol) (xs := natsV ord)
      (fun i σ H' => Ex H2 H' ∧ H' LL = some (.lst ((lensI (needN d) (ord.take i) d.gates.length).map V.int)) ∧ (∀ j k, j < i → ord[j]? = some k → lenF (needN d) (ord.take (j + 1)) k ≤ 100) ∧ ∃ z3 : Option V, σ = [some (.ref gt), some (.ref nl), some (.ref ol), z3, some (.ref LL), none])
      ⟨E3, by rw [List.take_zero]; exact hLL, (fun j k h => absurd h (Nat.not_lt_zero _)), _, rfl⟩ (fun i σ H' _ g => SqL.of (g.1 _ _ hol)) ?_ ?_⟩
    · rintro i y σ H4 hy ⟨E4, hL4, hok, z3, rfl⟩
      obtain ⟨g, hg, rfl⟩ := nats_get hy
      have hgl2 := hL.lt g (List.mem_of_getElem? hg)
      obtain ⟨b, hb⟩ : ∃ b, na[g]? = some b := ⟨_, List.getElem?_eq_getElem (by have := hna.1; omega)⟩
      have hbl := hna3 g b hb
      refine ⟨_, rfl, _, rfl, nl, _, _, .ref b, rfl, rfl, SqL.of (E4 _ _ (E2 _ _ hnl1)), at_of (j := g) rfl (by rw [List.getElem?_map, hb]; rfl), b, rfl, ⟨_, SqL.of (E4 _ _ hbl)⟩, fun OL nOL => wk_list (K := K) (a := b) (xs := natsV ((needN d).getD g []))
        (fun j H' => Ex H4 H' ∧ H' OL = some (.lst (((((needN d).getD g []).take j).map fun o => ((lenF (needN d) (ord.take i) o : Nat) : Int)).map V.int))) ⟨Ex.new nOL, upd_same⟩ (fun j H' _ z => SqL.of ((E4.trans z.1) _ _ hbl)) ?_ ?_⟩
      · rintro j y H5 hy ⟨E5, hO⟩
        obtain ⟨o, ho, rfl⟩ := nats_get hy
        have hol' := need_lt g o hgl2 (List.mem_of_getElem? ho)
        have hj : j < ((needN d).getD g []).length := (List.getElem?_eq_some_iff.mp ho).1
        have := hw g
        refine ⟨rfl, tYes_in ?_⟩
        simp only [wipe, _root_.L2.start, List.map_cons, List.map_nil, List.length_cons, List.length_nil, Nat.reduceAdd, Nat.reduceSub, List.replicate_succ, List.replicate_zero, List.cons_append, List.nil_append, List.set_cons_zero, List.set_cons_succ]
        refine ⟨_, rfl, _, rfl, LL, _, _, .int ((lenF (needN d) (ord.take i) o : Nat) : Int), rfl, rfl, SqL.of (E5 _ _ hL4), at_of (j := o) rfl (by rw [List.getElem?_map, lensI_at (by omega)]; rfl), _, hO, sz_lt (by rw [List.length_map, List.length_map, List.length_take]; omega), E5.mut nOL, ?_⟩
        rw [upd_same, take_snoc1 ho, List.map_append, List.map_append]; rfl
      · rintro H5 ⟨E5, hO⟩
        rw [nats_len, List.take_length] at hO
        have hcast : (((needN d).getD g []).map fun o => ((lenF (needN d) (ord.take i) o : Nat) : Int)) = (((needN d).getD g []).map (lenF (needN d) (ord.take i))).map fun k : Nat => (k : Int) := by rw [List.map_map]; rfl
        dsimp only [tNil, tCons, tC]
        refine rMaxDf_of (m := ((mxF (lenF (needN d) (ord.take i)) ((needN d).getD g []) : Nat) : Int)) (SqL.of hO) (fun e => ?_) (fun n r e => ?_) ?_
        · have : (needN d).getD g [] = [] := List.map_eq_nil_iff.mp e
          rw [this]; rfl
        · rw [hcast] at e
          unfold mxF
          cases hl : ((needN d).getD g []).map (lenF (needN d) (ord.take i)) with
          | nil => rw [hl] at e; cases e
          | cons x l =>
            rw [hl, List.map_cons] at e
            cases e
            rw [foldl_cast, List.foldl_cons, show max 0 x = x by omega]
        have hL5 := E5 _ _ hL4
        have hgn : g < d.gates.length := by omega
        refine ⟨_, _, rfl, rfl, _, rfl, _, rfl, LL, _, _, g, rfl, rfl, hL5, ixN_nat (by rw [List.length_map, lensI_len]; exact hgn), ?_⟩
        have e5 : ∀ m : Nat, (fun i j : Int => V.int (i + j)) 1 (m : Int) = V.int ((1 + m : Nat) : Int) := fun m => by
          show V.int (1 + (m : Int)) = _
          rw [show (1 : Int) + (m : Int) = ((1 + m : Nat) : Int) by omega]
        rw [e5, ← List.map_set, lensI_snoc, ← take_snoc1 hg]
        have E6 := (E4.trans E5).mut (o := .lst ((lensI (needN d) (ord.take (i + 1)) d.gates.length).map V.int)) nL2
        have hL6 : upd H5 LL (.lst ((lensI (needN d) (ord.take (i + 1)) d.gates.length).map V.int)) LL = some (.lst ((lensI (needN d) (ord.take (i + 1)) d.gates.length).map V.int)) := upd_same
        generalize upd H5 LL (.lst ((lensI (needN d) (ord.take (i + 1)) d.gates.length).map V.int)) = H6 at *
        refine ⟨_, rfl, _, rfl, LL, _, _, _, rfl, rfl, SqL.of hL6, at_of (j := g) rfl (by rw [List.getElem?_map, lensI_at hgn]; rfl), _, _, rfl, rfl, _, rfl, ite2 (fun c2 => ?_) (fun c2 => ?_)⟩
        · have hdp : 100 < lenF (needN d) (ord.take (i + 1)) g := by have := of_decide_eq_true c2; omega
          obtain ⟨g', hg'⟩ : ∃ g', d.gates[g]? = some g' := ⟨_, List.getElem?_eq_getElem hgn⟩
          obtain ⟨b', xs, hb', hbx, hx0⟩ := hgate g g' hg'
          have e06 := E02.trans E6
          have hn1 := hnm g' (List.mem_of_getElem? hg')
          have l1 : ("a path to gate " : Str).length = 15 := rfl
          have l2 : (" has more than " : Str).length = 15 := rfl
          have l3 : (" gates" : Str).length = 6 := rfl
          have l4 : (Str.ofString (toString (100 : Int))).length = 3 := by decide
          have l0 : Str.empty.length = 0 := rfl
          refine ⟨_, rfl, ?_, _, rfl, _, rfl, gt, _, _, .ref b', rfl, rfl, SqT.of (e06 _ _ hgt), at_of (j := g) rfl (by rw [List.getElem?_map, hb']; rfl), _, _, _, _, rfl, rfl, SqT.of (e06 _ _ hbx), atI_nat (j := 0) hx0, .inl ⟨g'.name, rfl, sz_of (by omega), _, rfl, ?_, _, rfl, ?_, .inr ⟨100, rfl, by decide, _, rfl, ?_, _, rfl, ?_, (by show 1 ≤ sizeLine; decide), q2 hfull ⟨i, g, hg, hdp⟩ _ e06⟩⟩⟩
          all_goals exact sz_of (by simp only [str_len_app5, l0, l1, l2, l3, l4]; omega)
        · refine ⟨E6, hL6, fun j k hj hk => ?_, _, rfl⟩
          rcases Nat.lt_succ_iff_lt_or_eq.mp hj with z | z
          · exact hok j k z hk
          · subst z
            rw [hg] at hk
            cases hk
            have : ¬ ((lenF (needN d) (ord.take (j + 1)) g : Nat) : Int) > 100 := fun z => c2 (decide_eq_true z)
            omega
    · rintro σ H4 ⟨E4, hL4, hok, z3, rfl⟩
      refine q1 hfull (fun ⟨i, k, hi, hd⟩ => ?_) _ (E02.trans E4)
      have := hok i k (by rw [nats_len]; exact (List.getElem?_eq_some_iff.mp hi).1) hi
      omega
end
end G
namespace G
open PySem PySem.Spec PyProof.Rows L2 Evl TL
/-! ## check_circuit -/
def readsD (d : CircD) : List Str := d.gates.flatMap (·.pins) ++ d.regs.map (·.net) ++ d.outs.map (·.2)
def CntD (d : CircD) : Prop := ∀ g ∈ d.gates, CntG g
def NetD (d : CircD) : Prop := ∀ x ∈ readsD d, x ∈ namesD d
def RngD (d : CircD) : Prop := (∀ g ∈ d.gates, ∀ r ∈ g.rng, okR r) ∧ ∀ r ∈ d.regs, RegG r
/-- not many of anything -/
structure FewD (d : CircD) : Prop where
  nm : (namesD d).length ≤ 1000
  gs : d.gates.length ≤ 200
  rs : d.regs.length ≤ 200
  os : d.outs.length ≤ 200
  gn : ∀ g ∈ d.gates, g.name.length ≤ 1000
  rn : ∀ r ∈ d.regs, r.name.length ≤ 1000
  tx : ∀ x ∈ readsD d, x.length ≤ 1000
theorem flat_leS {α β : Type} {f : α → List β} {k : Nat} : ∀ l : List α, (∀ x ∈ l, (f x).length ≤ k) → (l.flatMap f).length ≤ l.length * k
  | [], _ => Nat.zero_le _
  | x :: l, h => by
    rw [List.flatMap_cons, List.length_append, List.length_cons, Nat.succ_mul]
    have := h x (List.mem_cons_self ..)
    have := flat_leS l fun y hy => h y (List.mem_cons_of_mem _ hy)
    omega
theorem gn_of {d : CircD} (h : NmD d) (hf : FewD d) (hc : CntD d) : GN d := by
  refine ⟨?_, hf.gs, fun g hg => by have := (hc g hg).1; omega⟩
  have := h.1
  unfold namesD at this
  exact (List.nodup_append.mp (List.nodup_append.mp this).1).2.1
section
variable {P : Program} {w : World} {K : PySem.W.Frag} {mg : Str → Option Value} {base : Heap}
def spCkD (Cn Cw Cu Cr Dc Lc : Addr) : Sp := fun vs H Q E => ∃ (c : Addr) (d : CircD) (it gt rt ot : Addr) (ga ra oa : List Addr), vs = [.ref c] ∧ CircAt H c d it gt rt ot ga ra oa ∧ FewD d ∧
  (¬ NmD d → ∀ H', Ex H H' → E (.ref Cn) none H') ∧ (NmD d → ¬ CntD d → ∀ H', Ex H H' → E (.ref Cw) none H') ∧ (NmD d → CntD d → ¬ NetD d → ∀ H', Ex H H' → E (.ref Cu) none H') ∧ (NmD d → CntD d → NetD d → ¬ RngD d → ∀ H', Ex H H' → E (.ref Cr) none H') ∧
  (NmD d → CntD d → NetD d → RngD d → ∀ ord, LOrd (needN d) ord →
    (ord.length = d.gates.length → ¬ DeepP (needN d) ord → ∀ H', Ex H H' → Q .non H') ∧ (ord.length = d.gates.length → DeepP (needN d) ord → ∀ H', Ex H H' → E (.ref Dc) none H') ∧
    (ord.length < d.gates.length → ∀ (H1 : Hp) (dd tp : Addr) (way : List Nat), Ex H H1 → H1 dd = none → CycOk (needN d) ord way → H1 tp = some (.tup ((way.map fun k => (gnames d).getD k "").map V.str)) → E (.ref Lc) (some dd) (upd H1 dd (.xd [("names", .ref tp)]))))
theorem sc_check_circuit : FnScope ["circuit", "_", "gates", "regs", "outputs", "gate", "read", "reg", "stored", "pair", "net"] ["circuit"] (defScope s_check_circuit) := ⟨rfl, rfl, rfl, by decide +kernel, rfl, by decide +kernel, by decide +kernel⟩
theorem ok_check_circuit {Cn Cw Cu Cr Dc Lc : Addr} (D : Dfd K mg "check_circuit" s_check_circuit ["circuit"]) (C1 : HasN P w K mg base 2 "_check_names" ["circuit"] (spCkN Cn)) (C2 : HasN P w K mg base 1 "_check_counts" ["gate"] (spCkC Cw)) (C3 : HasN P w K mg base 2 "check_nets" ["circuit", "names"] (spCheck Cu))
    (C4 : HasN P w K mg base 1 "check_pin_range" ["pair"] (spPin Cr)) (C5 : HasN P w K mg base 1 "check_reg" ["reg"] (spCkR Cr)) (C6 : HasN P w K mg base 4 "_check_paths" ["gates"] (spCkP Dc Lc)) : HasN P w K mg base 5 "check_circuit" ["circuit"] (spCkD Cn Cw Cu Cr Dc Lc) := by
  obtain ⟨f_check_names, d_check_names, G_check_names, g_check_names, k_check_names, b_check_names⟩ := C1
  obtain ⟨f_check_counts, d_check_counts, G_check_counts, g_check_counts, k_check_counts, b_check_counts⟩ := C2
  obtain ⟨f_check_nets, d_check_nets, G_check_nets, g_check_nets, k_check_nets, b_check_nets⟩ := C3
  obtain ⟨f_check_pin_range, d_check_pin_range, G_check_pin_range, g_check_pin_range, k_check_pin_range, b_check_pin_range⟩ := C4
  obtain ⟨f_check_reg, d_check_reg, G_check_reg, g_check_reg, k_check_reg, b_check_reg⟩ := C5
  obtain ⟨f_check_paths, d_check_paths, G_check_paths, g_check_paths, k_check_paths, b_check_paths⟩ := C6
  obtain ⟨f, fd, F, gf, bf⟩ := D
  refine ⟨f, fd, F.okN sc_check_circuit (fun vs H Q E h => ?_) (fun cdv A outer s H vs Q E hr h => ?_), gf, F.kp, bf⟩
  · obtain ⟨c, d, it, gt, rt, ot, ga, ra, oa, rfl, _⟩ := h
    rfl
  · obtain ⟨c, d, it, gt, rt, ot, ga, ra, oa, rfl, hc, hf, eN, eW, eU, eR, hP⟩ := h
    refine ⟨_, (pss_cons (ps_asg (pv 0) (pg_tup rfl (pgs_cons (pg_name (i := 1) sc_check_circuit.nd rfl (.inl rfl)) (pgs_cons (pg_name (i := 2) sc_check_circuit.nd rfl (.inl rfl)) (pgs_cons (pg_name (i := 3) sc_check_circuit.nd rfl (.inl rfl)) (pgs_cons (pg_name (i := 4) sc_check_circuit.nd rfl (.inl rfl)) pgs_nil))))))
    (pss_cons (ps_expr (pe_call G_check_names (hr.mono (by omega)) (by rfl) g_check_names k_check_names b_check_names .nil (L2N.passes_call (L2N.takes_of rfl rfl rfl rfl) fun _ _ _ _ h => h) (pa_cons (pv 0) pa_nil)))
    (pss_cons (ps_for (passes_of rfl) rfl (pi_tup (pv 2)) (pg_name (i := 5) sc_check_circuit.nd rfl (.inl rfl))
      (pss_one (ps_expr (pe_call G_check_counts (hr.mono (by omega)) (by rfl) g_check_counts k_check_counts b_check_counts .nil (L2N.passes_call (L2N.takes_of rfl rfl rfl rfl) fun _ _ _ _ h => h) (pa_cons (pv 5) pa_nil)))))
    (pss_cons (ps_setLc2 (i := 6) (own := [("gate", 5), ("net", 10)]) (vs1 := [10]) (g := (gName 5)) (tt := tYes) (g1 := (gName 10)) (tt1 := tYes) rfl sc_check_circuit.nd rfl rfl (sw_true rfl rfl rfl (by decide +kernel)) (pi_tup (pv 2)) (blkOk_by (N := ["circuit", "_", "gates", "regs", "outputs", "gate", "read", "reg", "stored", "pair", "net"]) (sc := defScope s_check_circuit) (own := [("gate", 5), ("net", 10)]) (by decide +kernel)) (by decide) (fun _ _ _ _ _ => (pg_name (i := 5) sc_check_circuit.nd rfl (.inl rfl))) (fun _ _ _ _ _ => pts_nil) (fun _ _ _ _ _ => (kPiT (K := K) rfl (pe_ix (kIxT (K := K) rfl) (pv 5) pe_int (fun _ _ => rfl)))) (fun _ _ _ _ _ => (pg_name (i := 10) sc_check_circuit.nd rfl (.inl rfl))) (fun _ _ _ _ _ => pts_nil) (fun _ _ _ _ _ => (pv 10)))
    (pss_cons (ps_setLc (i := 8) (own := [("reg", 7)]) (g := gName 7) (tt := tYes) rfl sc_check_circuit.nd rfl rfl (sw_true rfl rfl rfl (by decide +kernel)) (pi_tup (pv 3)) (blkOk_by (N := ["circuit", "_", "gates", "regs", "outputs", "gate", "read", "reg", "stored", "pair", "net"]) (sc := defScope s_check_circuit) (own := [("reg", 7)]) (by decide +kernel)) (fun _ _ _ _ _ => (pg_name (i := 7) sc_check_circuit.nd rfl (.inl rfl))) (fun _ _ _ _ _ => pts_nil) (fun _ _ _ _ _ => (pe_ix (kIxT (K := K) rfl) (pv 7) pe_int (fun _ _ => rfl))))
    (pss_cons (ps_expr (pe_call G_check_nets (hr.mono (by omega)) (by rfl) g_check_nets k_check_nets b_check_nets .nil (L2N.passes_call (L2N.takes_of rfl rfl rfl rfl) fun _ _ _ _ h => h) (pa_cons (pv 0) (pa_cons (pe_op op_cat (pe_op op_cat (pv 6) (pv 8)) (pe_lc (own := [("_", 1), ("net", 10)]) (g := gTup K 2 (gCons (gName 1) (gCons (gName 10) gNil))) (tt := tYes) rfl sc_check_circuit.nd (pi_tup (pv 4)) (blkOk_by (N := ["circuit", "_", "gates", "regs", "outputs", "gate", "read", "reg", "stored", "pair", "net"]) (sc := defScope s_check_circuit) (own := [("_", 1), ("net", 10)]) (by decide +kernel)) (fun _ _ _ _ _ => (pg_tup rfl (pgs_cons (pg_name (i := 1) sc_check_circuit.nd rfl (.inl rfl)) (pgs_cons (pg_name (i := 10) sc_check_circuit.nd rfl (.inl rfl)) pgs_nil)))) (fun _ _ _ _ _ => pts_nil) (fun _ _ _ _ _ => (pv 10)))) pa_nil))))
    (pss_cons (ps_for (passes_of rfl) rfl (pi_tup (pv 2)) (pg_name (i := 5) sc_check_circuit.nd rfl (.inl rfl))
      (pss_one (ps_for (passes_of rfl) rfl (pi_tup (pe_ix ix_tup (pv 5) pe_int (fun _ _ => rfl))) (pg_name (i := 9) sc_check_circuit.nd rfl (.inl rfl))
        (pss_one (ps_expr (pe_call G_check_pin_range (hr.mono (by omega)) (by rfl) g_check_pin_range k_check_pin_range b_check_pin_range .nil (L2N.passes_call (L2N.takes_of rfl rfl rfl rfl) fun _ _ _ _ h => h) (pa_cons (pv 9) pa_nil)))))))
    (pss_cons (ps_for (passes_of rfl) rfl (pi_tup (pv 3)) (pg_name (i := 7) sc_check_circuit.nd rfl (.inl rfl))
      (pss_one (ps_expr (pe_call G_check_reg (hr.mono (by omega)) (by rfl) g_check_reg k_check_reg b_check_reg .nil (L2N.passes_call (L2N.takes_of rfl rfl rfl rfl) fun _ _ _ _ h => h) (pa_cons (pv 7) pa_nil)))))
    (pss_one (ps_expr (pe_call G_check_paths (hr.mono (by omega)) (by rfl) g_check_paths k_check_paths b_check_paths .nil (L2N.passes_call (L2N.takes_of rfl rfl rfl rfl) fun _ _ _ _ h => h) (pa_cons (pv 2) pa_nil)))))))))))), ?_⟩
    have hgl := hc.gates.1
    have hrl := hc.regs.1
    have hol := hc.outs.1
    have hgs := hf.gs
    have hrs := hf.rs
    have hos := hf.os
    refine ⟨_, rfl, c, _, rfl, SqT.of hc.top, rfl, _, _, rfl, _, _, rfl, _, _, rfl, _, _, rfl, rfl, ?_⟩
    simp only [wipe, _root_.L2.start, List.map_cons, List.map_nil, List.length_cons, List.length_nil, Nat.reduceAdd, Nat.reduceSub, List.replicate_succ, List.replicate_zero, List.cons_append, List.nil_append, List.set_cons_zero, List.set_cons_succ]
    refine ⟨_, rfl, c, d, it, gt, rt, ot, ga, ra, oa, rfl, hc, hf.nm, by omega, fun hNm H1 E1 => ?_, eN⟩
    refine ⟨_, rfl, gt, rfl, ⟨_, SqT.of (E1 _ _ hc.gts)⟩, for_tup (K := K) (a := gt) (xs := ga.map V.ref)
      (fun i σ H' => H' = H1 ∧ (∀ g ∈ d.gates.take i, CntG g) ∧ ∃ z5 : Option V, σ = [some (.ref c), some (.ref it), some (.ref gt), some (.ref rt), some (.ref ot), z5, none, none, none, none, none])
      ⟨rfl, (by rw [List.take_zero]; exact fun _ h => nomatch h), _, rfl⟩ (fun i σ H' _ g => by rw [g.1]; exact SqT.of (E1 _ _ hc.gts)) ?_ ?_⟩
    · rintro i x σ H2 hx ⟨rfl, hall, z5, rfl⟩
      obtain ⟨b, hb, rfl⟩ := refs_get hx
      obtain ⟨g, hg, hga⟩ := hc.gates.at_ hb
      have hgm := List.mem_of_getElem? hg
      refine ⟨_, rfl, b, g, rfl, hga.te (.of E1), hf.gn g hgm, fun hcg => ⟨rfl, fun g' hg' => ?_, _, rfl⟩, fun hcg => eW hNm (fun z => hcg (z g hgm)) _ E1⟩
      rw [take_snoc1 hg] at hg'
      rcases List.mem_append.mp hg' with z | z
      · exact hall g' z
      · rw [List.mem_singleton.mp z]; exact hcg
    rintro σ H2 ⟨rfl, hCnt, z5, rfl⟩
    rw [List.length_map, hgl, List.take_length] at hCnt
    have hCnt : CntD d := hCnt
    have hflat := flat_leS (f := fun g : GateD => g.pins) (k := 6) d.gates fun g hg => (hCnt g hg).1
    refine ⟨_, rfl, gt, rfl, ⟨_, SqT.of (E1 _ _ hc.gts)⟩, fun RL nRL => wk_tup (K := K) (a := gt) (xs := ga.map V.ref)
      (fun j H' => Ex H2 H' ∧ H' RL = some (.lst (((d.gates.take j).flatMap fun g : GateD => g.pins).map V.str))) ⟨Ex.new nRL, upd_same⟩ (fun j H' _ z => SqT.of ((E1.trans z.1) _ _ hc.gts)) ?_ ?_⟩
    · rintro j y H3 hy ⟨E3, hL⟩
      obtain ⟨b, hb, rfl⟩ := refs_get hy
      obtain ⟨g, hg, t, pt, rgt, rga, a1, a2, a3, a4, a5⟩ := hc.gates.at_ hb
      have hj : j < d.gates.length := (List.getElem?_eq_some_iff.mp hg).1
      have h6 := (hCnt g (List.mem_of_getElem? hg)).1
      have hfj := flat_leS (f := fun g : GateD => g.pins) (k := 6) (d.gates.take j) fun g hg => (hCnt g (List.mem_of_mem_take hg)).1
      rw [List.length_take] at hfj
      have e03 := E1.trans E3
      refine ⟨(by rw [wipe_set (by decide), wipe_wipe]), tYes_in ?_⟩
      simp only [wipe, _root_.L2.start, List.map_cons, List.map_nil, List.length_cons, List.length_nil, Nat.reduceAdd, Nat.reduceSub, List.replicate_succ, List.replicate_zero, List.cons_append, List.nil_append, List.set_cons_zero, List.set_cons_succ]
      refine ⟨_, rfl, _, _, _, _, rfl, rfl, SqT.of (e03 _ _ a1), atI_nat (j := 2) rfl, pt, rfl, ⟨_, SqT.of (e03 _ _ a3)⟩, wk_tup (K := K) (a := pt) (xs := g.pins.map V.str)
        (fun k H' => Ex H2 H' ∧ H' RL = some (.lst ((((d.gates.take j).flatMap fun g : GateD => g.pins) ++ g.pins.take k).map V.str))) ⟨E3, ?_⟩ (fun k H' _ z => SqT.of ((E1.trans z.1) _ _ a3)) ?_ ?_⟩
      · rw [List.take_zero, List.append_nil]; exact hL
      · rintro k y H4 hy ⟨E4, hL4⟩
        rw [List.getElem?_map] at hy
        obtain ⟨p, hp, rfl⟩ := Option.map_eq_some_iff.mp hy
        have hk : k < g.pins.length := (List.getElem?_eq_some_iff.mp hp).1
        refine ⟨rfl, tYes_in ?_⟩
        simp only [wipe, _root_.L2.start, List.map_cons, List.map_nil, List.length_cons, List.length_nil, Nat.reduceAdd, Nat.reduceSub, List.replicate_succ, List.replicate_zero, List.cons_append, List.nil_append, List.set_cons_zero, List.set_cons_succ]
        refine ⟨_, rfl, _, hL4, sz_lt (by rw [List.length_map, List.length_append, List.length_take]; omega), E4.mut nRL, ?_⟩
        rw [upd_same, take_snoc1 hp]
        simp only [List.map_append, List.append_assoc]; rfl
      · rintro H4 ⟨E4, hL4⟩
        rw [List.length_map, List.take_length] at hL4
        refine ⟨E4, ?_⟩
        rw [hL4, take_snoc1 hg, List.flatMap_append]
        simp
    rintro H3 ⟨E3, hRL⟩
    rw [List.length_map, hgl, List.take_length] at hRL
    have e03 := E1.trans E3
    simp only [wipe, _root_.L2.start, List.map_cons, List.map_nil, List.length_cons, List.length_nil, Nat.reduceAdd, Nat.reduceSub, List.replicate_succ, List.replicate_zero, List.cons_append, List.nil_append, List.set_cons_zero, List.set_cons_succ]
    refine ⟨_, rfl, rt, rfl, ⟨_, SqT.of (e03 _ _ hc.rgs)⟩, fun SL nSL => wk_tup (K := K) (a := rt) (xs := ra.map V.ref)
      (fun j H' => Ex H3 H' ∧ H' SL = some (.lst (((d.regs.take j).map fun r : RegD => r.net).map V.str))) ⟨Ex.new nSL, upd_same⟩ (fun j H' _ z => SqT.of ((e03.trans z.1) _ _ hc.rgs)) ?_ ?_⟩
    · rintro j y H4 hy ⟨E4, hL⟩
      obtain ⟨b, hb, rfl⟩ := refs_get hy
      obtain ⟨r, hr', ea, ob, a1, a2, a3⟩ := hc.regs.at_ hb
      have hj : j < d.regs.length := (List.getElem?_eq_some_iff.mp hr').1
      refine ⟨(by rw [wipe_set (by decide), wipe_wipe]), tYes_in ?_⟩
      simp only [wipe, _root_.L2.start, List.map_cons, List.map_nil, List.length_cons, List.length_nil, Nat.reduceAdd, Nat.reduceSub, List.replicate_succ, List.replicate_zero, List.cons_append, List.nil_append, List.set_cons_zero, List.set_cons_succ]
      refine ⟨_, rfl, _, _, _, _, rfl, rfl, SqT.of ((e03.trans E4) _ _ a1), atI_nat (j := 1) rfl, _, hL, sz_lt (by rw [List.length_map, List.length_map, List.length_take]; omega), E4.mut nSL, ?_⟩
      rw [upd_same, take_snoc1 hr', List.map_append, List.map_append]; rfl
    rintro H4 ⟨E4, hSL⟩
    rw [List.length_map, hrl, List.take_length] at hSL
    have e04 := e03.trans E4
    simp only [wipe, _root_.L2.start, List.map_cons, List.map_nil, List.length_cons, List.length_nil, Nat.reduceAdd, Nat.reduceSub, List.replicate_succ, List.replicate_zero, List.cons_append, List.nil_append, List.set_cons_zero, List.set_cons_succ]
    have hRL4 := E4 _ _ hRL
    refine ⟨_, rfl, _, rfl, _, rfl, RL, SL, _, _, rfl, rfl, hRL4, hSL, sz_of (by rw [List.length_map, List.length_map, List.length_map]; omega), fun L1 n1 => ?_⟩
    rw [← List.map_append]
    have E5 := Ex.new (o := .lst ((d.gates.flatMap (fun g : GateD => g.pins) ++ d.regs.map fun r : RegD => r.net).map V.str)) n1
    have hL1 : (upd H4 L1 (.lst ((d.gates.flatMap (fun g : GateD => g.pins) ++ d.regs.map fun r : RegD => r.net).map V.str))) L1 = some (.lst ((d.gates.flatMap (fun g : GateD => g.pins) ++ d.regs.map fun r : RegD => r.net).map V.str)) := upd_same
    generalize upd H4 L1 (.lst ((d.gates.flatMap (fun g : GateD => g.pins) ++ d.regs.map fun r : RegD => r.net).map V.str)) = H5 at *
    have e05 := e04.trans E5
    refine ⟨_, rfl, ot, rfl, ⟨_, SqT.of (e05 _ _ hc.ots)⟩, fun OL nOL => wk_tup (K := K) (a := ot) (xs := oa.map V.ref)
      (fun j H' => Ex H5 H' ∧ H' OL = some (.lst (((d.outs.take j).map fun o : Str × Str => o.2).map V.str))) ⟨Ex.new nOL, upd_same⟩ (fun j H' _ z => SqT.of ((e05.trans z.1) _ _ hc.ots)) ?_ ?_⟩
    · rintro j y H6 hy ⟨E6, hL⟩
      obtain ⟨b, hb, rfl⟩ := refs_get hy
      obtain ⟨o, ho, a1⟩ := hc.outs.at_ hb
      have hj : j < d.outs.length := (List.getElem?_eq_some_iff.mp ho).1
      refine ⟨b, _, rfl, SqT.of ((e05.trans E6) _ _ a1), rfl, _, _, rfl, _, _, rfl, rfl, (by rw [wipe_set (by decide), wipe_set (by decide), wipe_wipe]), tYes_in ?_⟩
      simp only [wipe, _root_.L2.start, List.map_cons, List.map_nil, List.length_cons, List.length_nil, Nat.reduceAdd, Nat.reduceSub, List.replicate_succ, List.replicate_zero, List.cons_append, List.nil_append, List.set_cons_zero, List.set_cons_succ]
      refine ⟨_, rfl, _, hL, sz_lt (by rw [List.length_map, List.length_map, List.length_take]; omega), E6.mut nOL, ?_⟩
      rw [upd_same, take_snoc1 ho, List.map_append, List.map_append]; rfl
    rintro H6 ⟨E6, hOL⟩
    rw [List.length_map, hol, List.take_length] at hOL
    have e06 := e05.trans E6
    refine ⟨L1, OL, _, _, rfl, rfl, E6 _ _ hL1, hOL, sz_of (by rw [List.length_map, List.length_map, List.length_append, List.length_map, List.length_map]; omega), fun L2 n2 => ?_⟩
    rw [← List.map_append]
    have e07 := e06.trans (Ex.new (o := .lst ((d.gates.flatMap (fun g : GateD => g.pins) ++ (d.regs.map fun r : RegD => r.net) ++ d.outs.map fun o : Str × Str => o.2).map V.str)) n2)
    refine ⟨c, L2, d, readsD d, it, gt, rt, ot, ga, ra, oa, rfl, hc.te (.of e07), hf.nm, upd_same, hf.tx, fun hNet H7 E7 => ?_, fun ⟨x, hx, hno⟩ H' E' => eU hNm hCnt (fun z => hno (z x hx)) H' (e07.trans E')⟩
    have hNet : NetD d := hNet
    have e7 := e07.trans E7
    refine ⟨_, rfl, gt, rfl, ⟨_, SqT.of (e7 _ _ hc.gts)⟩, for_tup (K := K) (a := gt) (xs := ga.map V.ref)
      (fun i σ H' => H' = H7 ∧ (∀ g ∈ d.gates.take i, ∀ r ∈ g.rng, okR r) ∧ ∃ z5 z9 : Option V, σ = [some (.ref c), some (.ref it), some (.ref gt), some (.ref rt), some (.ref ot), z5, some (.ref RL), none, some (.ref SL), z9, none])
      ⟨rfl, (by rw [List.take_zero]; exact fun _ h => nomatch h), _, _, rfl⟩ (fun i σ H' _ g => by rw [g.1]; exact SqT.of (e7 _ _ hc.gts)) ?_ ?_⟩
    · rintro i x σ H8 hx ⟨rfl, hall, z5, z9, rfl⟩
      obtain ⟨b, hb, rfl⟩ := refs_get hx
      obtain ⟨g, hg, t, pt, rgt, rga, a1, a2, a3, a4, a5⟩ := hc.gates.at_ hb
      have hgm := List.mem_of_getElem? hg
      refine ⟨_, rfl, _, _, _, _, rfl, rfl, SqT.of (e7 _ _ a1), atI_nat (j := 3) rfl, rgt, rfl, ⟨_, SqT.of (e7 _ _ a4)⟩, for_tup (K := K) (a := rgt) (xs := rga.map V.ref)
        (fun j σ H' => H' = H8 ∧ (∀ r ∈ g.rng.take j, okR r) ∧ ∃ z9 : Option V, σ = [some (.ref c), some (.ref it), some (.ref gt), some (.ref rt), some (.ref ot), some (.ref b), some (.ref RL), none, some (.ref SL), z9, none])
        ⟨rfl, (by rw [List.take_zero]; exact fun _ h => nomatch h), _, rfl⟩ (fun i σ H' _ g => by rw [g.1]; exact SqT.of (e7 _ _ a4)) ?_ ?_⟩
      · rintro j x σ H9 hx ⟨rfl, hallj, z9, rfl⟩
        obtain ⟨u, hu, rfl⟩ := refs_get hx
        obtain ⟨p, hp, hup⟩ := a5.at_ hu
        refine ⟨_, rfl, u, p, rfl, e7 _ _ hup, fun ok => ⟨rfl, fun r hr' => ?_, _, rfl⟩, fun nok H' E' => eR hNm hCnt hNet (fun z => nok (z.1 g hgm p (List.mem_of_getElem? hp))) H' (e7.trans E')⟩
        rw [take_snoc1 hp] at hr'
        rcases List.mem_append.mp hr' with z | z
        · exact hallj r z
        · rw [List.mem_singleton.mp z]; exact ok
      · rintro σ H9 ⟨rfl, hallj, z9, rfl⟩
        rw [List.length_map, a5.1, List.take_length] at hallj
        refine ⟨rfl, fun g' hg' => ?_, _, _, rfl⟩
        rw [take_snoc1 hg] at hg'
        rcases List.mem_append.mp hg' with z | z
        · exact hall g' z
        · rw [List.mem_singleton.mp z]; exact hallj
    rintro σ H8 ⟨rfl, hRg, z5, z9, rfl⟩
    rw [List.length_map, hgl, List.take_length] at hRg
    refine ⟨_, rfl, rt, rfl, ⟨_, SqT.of (e7 _ _ hc.rgs)⟩, for_tup (K := K) (a := rt) (xs := ra.map V.ref)
      (fun i σ H' => Ex H8 H' ∧ (∀ r ∈ d.regs.take i, RegG r) ∧ ∃ z7 : Option V, σ = [some (.ref c), some (.ref it), some (.ref gt), some (.ref rt), some (.ref ot), z5, some (.ref RL), z7, some (.ref SL), z9, none])
      ⟨.refl _, (by rw [List.take_zero]; exact fun _ h => nomatch h), _, rfl⟩ (fun i σ H' _ g => SqT.of ((e7.trans g.1) _ _ hc.rgs)) ?_ ?_⟩
    · rintro i x σ H9 hx ⟨E9, hall, z7, rfl⟩
      obtain ⟨b, hb, rfl⟩ := refs_get hx
      obtain ⟨r, hr', hra⟩ := hc.regs.at_ hb
      have hrm := List.mem_of_getElem? hr'
      refine ⟨_, rfl, b, r, rfl, hra.te (.of (e7.trans E9)), hf.rn r hrm, fun ok H' E' => ⟨E9.trans E', fun r' hr2 => ?_, _, rfl⟩, fun nok H' E' => eR hNm hCnt hNet (fun z => nok (z.2 r hrm)) H' (e7.trans (E9.trans E'))⟩
      rw [take_snoc1 hr'] at hr2
      rcases List.mem_append.mp hr2 with z | z
      · exact hall r' z
      · rw [List.mem_singleton.mp z]; exact ok
    rintro σ H9 ⟨E9, hRr, z7, rfl⟩
    rw [List.length_map, hrl, List.take_length] at hRr
    have e9 := e7.trans E9
    have hc9 := hc.te (.of e9)
    refine ⟨_, rfl, gt, d, ga, rfl, hc9.gts, hc9.gates, gn_of hNm hf hCnt, hf.gn, fun ord hL => ?_⟩
    obtain ⟨p1, p2, p3⟩ := hP hNm hCnt hNet ⟨hRg, hRr⟩ ord hL
    exact ⟨fun a b H' E' => p1 a b H' (e9.trans E'), fun a b H' E' => p2 a b H' (e9.trans E'), fun a H1' dd tp way E' nd hC ht => p3 a H1' dd tp way (e9.trans E') nd hC ht⟩
end
end G
namespace G
open PySem PySem.Spec PyProof.Rows L2 Evl TL
/-! ## circuits with one rule broken, or two -/
def hd (x : Str) : Nat := (tl x).headD 0
def letter : Nat → Nat
  | 0 => 120 | 1 => 119 | 2 => 118 | 3 => 117 | 4 => 99 | _ => 100
def cyG (m k : Nat) : GateD := ⟨nm "c" k, [true, false], [nm "c" ((k + 1) % m)], [(0, 2)]⟩
def dcG (k : Nat) : GateD := ⟨nm "d" k, [true, false], [if k = 0 then "i0" else nm "d" (k - 1)], [(0, 2)]⟩
def ws : List GateD := [⟨"w", [true, false], ["i0"], []⟩, ⟨"w", [true], ["i0"], [(0, 2)]⟩, ⟨"w", List.replicate 128 true, List.replicate 7 "i0", List.replicate 7 (0, 2)⟩]
def vG : GateD := ⟨"v", [true, false], ["nowhere"], [(0, 2)]⟩
def vR : RegD := ⟨"v", "nowhere", (0, 0), (0, 1), 0, 0, true⟩
def prs : List (Int × Int) := [(-1, 4), (3, 4), (5, 3)]
def uG (pr : Int × Int) : GateD := ⟨"u", [true, false], ["i0"], [pr]⟩
def tms : List ((Int × Int) × (Int × Int) × Int × Int) := [((0, 0), (0, 1), -1, 0), ((2, 1), (0, 1), 0, 0), ((0, 0), (0, 3), 0, 3)]
def uR (t : (Int × Int) × (Int × Int) × Int × Int) : RegD := ⟨"u", "i0", t.1, t.2.1, t.2.2.1, t.2.2.2, true⟩
/-- what is added to break the r-th rule -/
inductive Add : Nat → List Str → List GateD → List RegD → List (Str × Str) → Prop where
  | o : Add 0 [] [] [] [("o", "i0"), ("o", "i0")]
  | x (y : Str) (h : y = "x" ∨ y = "i0") : Add 0 ["x", y] [] [] []
  | w (g : GateD) (h : g ∈ ws) : Add 1 [] [g] [] []
  | vg : Add 2 [] [vG] [] []
  | vr : Add 2 [] [] [vR] []
  | vo : Add 2 [] [] [] [("v", "nowhere")]
  | ug (pr : Int × Int) (h : pr ∈ prs) : Add 3 [] [uG pr] [] []
  | ur (t : (Int × Int) × (Int × Int) × Int × Int) (h : t ∈ tms) : Add 3 [] [] [uR t] []
  | c (m : Nat) (GX : List GateD) (h : m = 1 ∨ m = 2 ∨ m = 4) (hp : GX.Perm ((List.range m).map (cyG m))) : Add 4 [] GX [] []
  | d (GX : List GateD) (hp : GX.Perm ((List.range 101).map dcG)) : Add 5 [] GX [] []
def extD (d : CircD) (X : List Str) (GX : List GateD) (RX : List RegD) (OX : List (Str × Str)) : CircD := ⟨d.ins ++ X, d.gates ++ GX, d.regs ++ RX, d.outs ++ OX⟩
theorem tl_nm (c : Str) (k : Nat) : tl (nm c k) = tl c ++ numL k := by unfold nm; rw [tl_append, tl_num]
theorem nm_injk {c : Str} {a b : Nat} (h : nm c a = nm c b) : a = b := by
  have := congrArg tl h
  rw [tl_nm, tl_nm] at this
  exact numL_inj (List.append_cancel_left this)
theorem hd_nm {c : Str} {z : Nat} {r : List Nat} (h : tl c = z :: r) (k : Nat) : hd (nm c k) = z := by
  unfold hd
  rw [tl_nm, h]; rfl
theorem nm_len {c : Str} {k : Nat} (hc : c.length = 1) (h : k ≤ 200) : (nm c k).length ≤ 10 := by
  have := numL_len (n := k) (k := 9) (by decide) (by omega)
  rw [len_tl, tl_nm, List.length_append, ← len_tl, hc]; omega
/-- what the added things are called -/
theorem Add.names {r : Nat} {X : List Str} {GX : List GateD} {RX : List RegD} {OX : List (Str × Str)} (h : Add r X GX RX OX) (h0 : r ≠ 0) : X = [] ∧ (∀ x ∈ GX.map (·.name) ++ RX.map (·.name), hd x = letter r) ∧ (GX.map (·.name) ++ RX.map (·.name)).Nodup := by
  have hw : hd "w" = 119 ∧ hd "v" = 118 ∧ hd "u" = 117 := by decide
  cases h with
  | o => exact absurd rfl h0
  | x => exact absurd rfl h0
  | w g h =>
    have e : g.name = "w" := by
      simp only [ws, List.mem_cons, List.not_mem_nil, or_false] at h
      rcases h with h | h | h <;> rw [h]
    refine ⟨rfl, fun x hx => ?_, by simp⟩
    have hx : x ∈ [g.name] := hx
    rw [List.mem_singleton.mp hx, e]; exact hw.1
  | vg =>
    refine ⟨rfl, fun x hx => ?_, by simp⟩
    have hx : x ∈ [("v" : Str)] := hx
    rw [List.mem_singleton.mp hx]; exact hw.2.1
  | vr =>
    refine ⟨rfl, fun x hx => ?_, by simp⟩
    have hx : x ∈ [("v" : Str)] := hx
    rw [List.mem_singleton.mp hx]; exact hw.2.1
  | vo => exact ⟨rfl, (fun x hx => nomatch hx), List.nodup_nil⟩
  | ug pr h =>
    refine ⟨rfl, fun x hx => ?_, by simp⟩
    have hx : x ∈ [("u" : Str)] := hx
    rw [List.mem_singleton.mp hx]; exact hw.2.2
  | ur t h =>
    refine ⟨rfl, fun x hx => ?_, by simp⟩
    have hx : x ∈ [("u" : Str)] := hx
    rw [List.mem_singleton.mp hx]; exact hw.2.2
  | c m GX h hp =>
    have hp2 := hp.map (fun g : GateD => g.name)
    rw [List.map_map] at hp2
    have e : GX.map (·.name) ++ ([] : List RegD).map (·.name) = GX.map (·.name) := List.append_nil _
    rw [e]
    refine ⟨rfl, fun x hx => ?_, ?_⟩
    · obtain ⟨k, _, rfl⟩ := List.mem_map.mp (hp2.mem_iff.mp hx)
      exact hd_nm (c := "c") (z := 99) (r := []) rfl k
    · rw [hp2.nodup_iff, List.nodup_iff_pairwise_ne, List.pairwise_map]
      exact List.nodup_range.imp fun h e => h (nm_injk (c := "c") e)
  | d GX hp =>
    have hp2 := hp.map (fun g : GateD => g.name)
    rw [List.map_map] at hp2
    have e : GX.map (·.name) ++ ([] : List RegD).map (·.name) = GX.map (·.name) := List.append_nil _
    rw [e]
    refine ⟨rfl, fun x hx => ?_, ?_⟩
    · obtain ⟨k, _, rfl⟩ := List.mem_map.mp (hp2.mem_iff.mp hx)
      exact hd_nm (c := "d") (z := 100) (r := []) rfl k
    · rw [hp2.nodup_iff, List.nodup_iff_pairwise_ne, List.pairwise_map]
      exact List.nodup_range.imp fun h e => h (nm_injk (c := "d") e)
theorem ws_pins {g : GateD} (h : g ∈ ws) : (∀ x ∈ g.pins, x = "i0") ∧ (∀ r ∈ g.rng, r = (0, 2)) ∧ ¬ CntG g ∧ g.name = "w" := by
  simp only [ws, List.mem_cons, List.not_mem_nil, or_false] at h
  rcases h with h | h | h <;> subst h
  · exact ⟨fun x hx => List.mem_singleton.mp hx, (fun r hr => nomatch hr), fun z => absurd z.2.1 (by decide), rfl⟩
  · exact ⟨fun x hx => List.mem_singleton.mp hx, fun r hr => List.mem_singleton.mp hr, fun z => absurd z.2.2 (by decide), rfl⟩
  · exact ⟨fun x hx => List.eq_of_mem_replicate hx, fun r hr => List.eq_of_mem_replicate hr, fun z => absurd z.1 (by decide), rfl⟩
/-- the circuit has the rules rs broken, by what was added -/
structure Sd (rs : List Nat) (d : CircD) : Prop where
  gs : d.gates.length ≤ 6 + 5 * rs.length + (if 5 ∈ rs then 101 else 0)
  ot : d.ins.length ≤ 3 + 2 * rs.length ∧ d.regs.length ≤ 3 + rs.length ∧ d.outs.length ≤ 3 + 2 * rs.length
  tx : ∀ x ∈ namesD d ++ readsD d, x.length ≤ 10
  nl : ∀ x ∈ namesD d, (hd x = 105 ∨ hd x = 114 ∨ hd x = 103) ∨ ∃ r ∈ rs, hd x = letter r
  pl : ∀ o ∈ d.outs, hd o.1 = 112 ∨ (hd o.1 = 111 ∧ 0 ∈ rs) ∨ (hd o.1 = 118 ∧ 2 ∈ rs)
  i0 : ("i0" : Str) ∈ d.ins
  n0 : 0 ∉ rs → NmD d
  b0 : 0 ∈ rs → ¬ NmD d
  n1 : 1 ∉ rs → CntD d
  b1 : 1 ∈ rs → ¬ CntD d
  n2 : 2 ∉ rs → NetD d
  b2 : 2 ∈ rs → ("nowhere" : Str) ∈ readsD d
  n3 : 3 ∉ rs → RngD d
  b3 : 3 ∈ rs → ¬ RngD d
  b4 : 4 ∈ rs → ∃ m, 0 < m ∧ ∀ k, k < m → cyG m k ∈ d.gates
  n4 : rs = [] ∨ rs = [5] → ∃ rank : Str → Nat, ∀ g ∈ d.gates, ∀ x ∈ g.pins, x ∈ gnames d → rank x < rank g.name
  b5 : 5 ∈ rs → ∀ k, k < 101 → dcG k ∈ d.gates
section
variable {rs : List Nat} {d : CircD} {r : Nat} {X : List Str} {GX : List GateD} {RX : List RegD} {OX : List (Str × Str)}
theorem ext_names (d : CircD) : namesD (extD d X GX RX OX) = (d.ins ++ X) ++ (d.gates.map (·.name) ++ GX.map (·.name)) ++ (d.regs.map (·.name) ++ RX.map (·.name)) := by
  unfold namesD extD
  rw [List.map_append, List.map_append]
theorem ext_mem {x : Str} : x ∈ namesD (extD d X GX RX OX) ↔ x ∈ namesD d ∨ x ∈ X ∨ x ∈ GX.map (·.name) ∨ x ∈ RX.map (·.name) := by
  rw [ext_names]
  unfold namesD
  simp only [List.mem_append]
  constructor
  · rintro (((h | h) | (h | h)) | (h | h))
    · exact .inl (.inl (.inl h))
    · exact .inr (.inl h)
    · exact .inl (.inl (.inr h))
    · exact .inr (.inr (.inl h))
    · exact .inl (.inr h)
    · exact .inr (.inr (.inr h))
  · rintro (((h | h) | h) | (h | h | h))
    · exact .inl (.inl (.inl h))
    · exact .inl (.inr (.inl h))
    · exact .inr (.inl h)
    · exact .inl (.inl (.inr h))
    · exact .inl (.inr (.inr h))
    · exact .inr (.inr h)
theorem ext_perm (d : CircD) : (namesD (extD d X GX RX OX)).Perm (namesD d ++ (X ++ (GX.map (·.name) ++ RX.map (·.name)))) := by
  rw [ext_names]
  unfold namesD
  rw [List.perm_iff_count]
  intro a
  simp only [List.count_append]
  omega
theorem ext_reads {x : Str} : x ∈ readsD (extD d X GX RX OX) ↔ x ∈ readsD d ∨ (∃ g ∈ GX, x ∈ g.pins) ∨ (∃ q ∈ RX, x = q.net) ∨ ∃ o ∈ OX, x = o.2 := by
  unfold readsD extD
  simp only [List.mem_append, List.flatMap_append, List.map_append, List.mem_flatMap, List.mem_map]
  constructor
  · rintro (((h | h) | (h | h)) | (h | h))
    · exact .inl (.inl (.inl h))
    · exact .inr (.inl h)
    · exact .inl (.inl (.inr h))
    · obtain ⟨q, a, b⟩ := h
      exact .inr (.inr (.inl ⟨q, a, b.symm⟩))
    · exact .inl (.inr h)
    · obtain ⟨q, a, b⟩ := h
      exact .inr (.inr (.inr ⟨q, a, b.symm⟩))
  · rintro (((h | h) | h) | (h | ⟨q, a, b⟩ | ⟨q, a, b⟩))
    · exact .inl (.inl (.inl h))
    · exact .inl (.inr (.inl h))
    · exact .inr (.inl h)
    · exact .inl (.inl (.inr h))
    · exact .inl (.inr (.inr ⟨q, a, b.symm⟩))
    · exact .inr (.inr ⟨q, a, b.symm⟩)
theorem letter_ne {r q : Nat} (hr : r < 6) (hq : q < 6) (h : letter r = letter q) : r = q := by
  match r, hr, q, hq with
  | 0, _, 0, _ => rfl
  | 1, _, 1, _ => rfl
  | 2, _, 2, _ => rfl
  | 3, _, 3, _ => rfl
  | 4, _, 4, _ => rfl
  | 5, _, 5, _ => rfl
  | 0, _, 1, _ | 0, _, 2, _ | 0, _, 3, _ | 0, _, 4, _ | 0, _, 5, _ | 1, _, 0, _ | 1, _, 2, _ | 1, _, 3, _ | 1, _, 4, _ | 1, _, 5, _ | 2, _, 0, _ | 2, _, 1, _ | 2, _, 3, _ | 2, _, 4, _ | 2, _, 5, _
  | 3, _, 0, _ | 3, _, 1, _ | 3, _, 2, _ | 3, _, 4, _ | 3, _, 5, _ | 4, _, 0, _ | 4, _, 1, _ | 4, _, 2, _ | 4, _, 3, _ | 4, _, 5, _ | 5, _, 0, _ | 5, _, 1, _ | 5, _, 2, _ | 5, _, 3, _ | 5, _, 4, _ => exact absurd h (by decide)
theorem letter_base {r : Nat} : letter r ≠ 105 ∧ letter r ≠ 114 ∧ letter r ≠ 103 ∧ letter r ≠ 110 := by
  unfold letter
  split <;> decide
/-- a name with the letter of a rule that is not yet broken is new -/
theorem Sd.fresh (S : Sd rs d) (hrs : ∀ q ∈ rs, q < 6) (hr : r < 6) (hn : r ∉ rs) {x : Str} (h : hd x = letter r) : x ∉ namesD d := fun z => by
  obtain ⟨b1, b2, b3, _⟩ := letter_base (r := r)
  rcases S.nl x z with (e | e | e) | ⟨q, hq, e⟩
  · exact b1 (h.symm.trans e)
  · exact b2 (h.symm.trans e)
  · exact b3 (h.symm.trans e)
  · have := letter_ne hr (hrs q hq) (h.symm.trans e)
    rw [this] at hn
    exact hn hq
end
end G
namespace G
open PySem PySem.Spec PyProof.Rows L2 Evl TL
section
variable {rs : List Nat} {d : CircD} {r : Nat} {X : List Str} {GX : List GateD} {RX : List RegD} {OX : List (Str × Str)}
theorem Add.sizes (A : Add r X GX RX OX) : X.length ≤ 2 ∧ RX.length ≤ 1 ∧ OX.length ≤ 2 ∧ GX.length ≤ (if r = 5 then 101 else 4) := by
  cases A with
  | o => exact ⟨by decide, by decide, by decide, by decide⟩
  | x => exact ⟨Nat.le_refl 2, by decide, by decide, by decide⟩
  | w => exact ⟨by decide, by decide, by decide, by show 1 ≤ 4; decide⟩
  | vg => exact ⟨by decide, by decide, by decide, by decide⟩
  | vr => exact ⟨by decide, by decide, by decide, by decide⟩
  | vo => exact ⟨by decide, by decide, by decide, by decide⟩
  | ug => exact ⟨by decide, by decide, by decide, by show 1 ≤ 4; decide⟩
  | ur => exact ⟨by decide, by show 1 ≤ 1; decide, by decide, by decide⟩
  | c m GX h hp =>
    refine ⟨by decide, by decide, by decide, ?_⟩
    rw [hp.length_eq, List.length_map, List.length_range, if_neg (by decide)]
    omega
  | d GX hp =>
    refine ⟨by decide, by decide, by decide, ?_⟩
    rw [hp.length_eq, List.length_map, List.length_range, if_pos rfl]
    exact Nat.le_refl _
/-- the nets that the added things read -/
theorem Add.reads (A : Add r X GX RX OX) : (∀ g ∈ GX, ∀ x ∈ g.pins, x = "i0" ∨ (x = "nowhere" ∧ r = 2) ∨ x ∈ GX.map (·.name)) ∧ (∀ q ∈ RX, q.net = "i0" ∨ (q.net = "nowhere" ∧ r = 2)) ∧ ∀ o ∈ OX, o.2 = "i0" ∨ (o.2 = "nowhere" ∧ r = 2) := by
  have none_ : ∀ {α : Type} {p : α → Prop}, ∀ x ∈ ([] : List α), p x := fun x h => nomatch h
  cases A with
  | o => exact ⟨none_, none_, fun o ho => by simp only [List.mem_cons, List.not_mem_nil, or_false] at ho; rcases ho with h | h <;> exact .inl (by rw [h])⟩
  | x => exact ⟨none_, none_, none_⟩
  | w g h => exact ⟨fun g' hg x hx => by rw [List.mem_singleton.mp hg] at hx; exact .inl ((ws_pins h).1 x hx), none_, none_⟩
  | vg => exact ⟨fun g' hg x hx => by rw [List.mem_singleton.mp hg] at hx; exact .inr (.inl ⟨List.mem_singleton.mp hx, rfl⟩), none_, none_⟩
  | vr => exact ⟨none_, fun q hq => by rw [List.mem_singleton.mp hq]; exact .inr ⟨rfl, rfl⟩, none_⟩
  | vo => exact ⟨none_, none_, fun q hq => by rw [List.mem_singleton.mp hq]; exact .inr ⟨rfl, rfl⟩⟩
  | ug pr h => exact ⟨fun g' hg x hx => by rw [List.mem_singleton.mp hg] at hx; exact .inl (List.mem_singleton.mp hx), none_, none_⟩
  | ur t h => exact ⟨none_, fun q hq => by rw [List.mem_singleton.mp hq]; exact .inl rfl, none_⟩
  | c m GX h hp =>
    refine ⟨fun g hg x hx => ?_, none_, none_⟩
    obtain ⟨k, hk, rfl⟩ := List.mem_map.mp (hp.mem_iff.mp hg)
    have hx : x ∈ [nm "c" ((k + 1) % m)] := hx
    refine .inr (.inr ?_)
    rw [List.mem_singleton.mp hx]
    exact List.mem_map.mpr ⟨cyG m ((k + 1) % m), hp.mem_iff.mpr (List.mem_map.mpr ⟨(k + 1) % m, List.mem_range.mpr (Nat.mod_lt _ (by omega)), rfl⟩), rfl⟩
  | d GX hp =>
    refine ⟨fun g hg x hx => ?_, none_, none_⟩
    obtain ⟨k, hk, rfl⟩ := List.mem_map.mp (hp.mem_iff.mp hg)
    have hk := List.mem_range.mp hk
    have hx : x ∈ [if k = 0 then ("i0" : Str) else nm "d" (k - 1)] := hx
    rw [List.mem_singleton.mp hx]
    by_cases e : k = 0
    · rw [if_pos e]; exact .inl rfl
    · rw [if_neg e]
      exact .inr (.inr (List.mem_map.mpr ⟨dcG (k - 1), hp.mem_iff.mpr (List.mem_map.mpr ⟨k - 1, List.mem_range.mpr (by omega), rfl⟩), rfl⟩))
theorem Add.good (A : Add r X GX RX OX) : (r ≠ 1 → ∀ g ∈ GX, CntG g) ∧ (r ≠ 3 → (∀ g ∈ GX, ∀ p ∈ g.rng, okR p) ∧ ∀ q ∈ RX, RegG q) := by
  have none_ : ∀ {α : Type} {p : α → Prop}, ∀ x ∈ ([] : List α), p x := fun x h => nomatch h
  have ok02 : okR ((0, 2) : Int × Int) := ⟨by decide, by decide⟩
  cases A with
  | o => exact ⟨fun _ => none_, fun _ => ⟨none_, none_⟩⟩
  | x => exact ⟨fun _ => none_, fun _ => ⟨none_, none_⟩⟩
  | w g h => exact ⟨fun z => absurd rfl z, fun _ => ⟨fun g' hg p hp => by rw [List.mem_singleton.mp hg] at hp; rw [(ws_pins h).2.1 p hp]; exact ok02, none_⟩⟩
  | vg => exact ⟨fun _ g' hg => by rw [List.mem_singleton.mp hg]; exact ⟨by decide, rfl, rfl⟩, fun _ => ⟨fun g' hg p hp => by rw [List.mem_singleton.mp hg] at hp; rw [List.mem_singleton.mp hp]; exact ok02, none_⟩⟩
  | vr => exact ⟨fun _ => none_, fun _ => ⟨none_, fun q hq => by rw [List.mem_singleton.mp hq]; exact ⟨⟨⟨by decide, by decide⟩, by decide, by decide⟩, by decide, by decide, by decide⟩⟩⟩
  | vo => exact ⟨fun _ => none_, fun _ => ⟨none_, none_⟩⟩
  | ug pr h => exact ⟨fun _ g' hg => by rw [List.mem_singleton.mp hg]; exact ⟨by show 1 ≤ 6; decide, rfl, rfl⟩, fun z => absurd rfl z⟩
  | ur t h => exact ⟨fun _ => none_, fun z => absurd rfl z⟩
  | c m GX h hp =>
    refine ⟨fun _ g hg => ?_, fun _ => ⟨fun g hg p hpp => ?_, none_⟩⟩
    · obtain ⟨k, hk, rfl⟩ := List.mem_map.mp (hp.mem_iff.mp hg)
      exact ⟨by show 1 ≤ 6; decide, rfl, rfl⟩
    · obtain ⟨k, hk, rfl⟩ := List.mem_map.mp (hp.mem_iff.mp hg)
      have hpp : p ∈ [((0 : Int), (2 : Int))] := hpp
      rw [List.mem_singleton.mp hpp]; exact ok02
  | d GX hp =>
    refine ⟨fun _ g hg => ?_, fun _ => ⟨fun g hg p hpp => ?_, none_⟩⟩
    · obtain ⟨k, hk, rfl⟩ := List.mem_map.mp (hp.mem_iff.mp hg)
      exact ⟨by show 1 ≤ 6; decide, rfl, rfl⟩
    · obtain ⟨k, hk, rfl⟩ := List.mem_map.mp (hp.mem_iff.mp hg)
      have hpp : p ∈ [((0 : Int), (2 : Int))] := hpp
      rw [List.mem_singleton.mp hpp]; exact ok02
/-- what is broken -/
theorem Add.bad (A : Add r X GX RX OX) : (r = 1 → ∃ g ∈ GX, ¬ CntG g) ∧ (r = 2 → (∃ g ∈ GX, ("nowhere" : Str) ∈ g.pins) ∨ (∃ q ∈ RX, ("nowhere" : Str) = q.net) ∨ ∃ o ∈ OX, ("nowhere" : Str) = o.2) ∧ (r = 3 → (∃ g ∈ GX, ∃ p ∈ g.rng, ¬ okR p) ∨ ∃ q ∈ RX, ¬ RegG q) ∧
    (r = 4 → ∃ m, 0 < m ∧ ∀ k, k < m → cyG m k ∈ GX) ∧ (r = 5 → ∀ k, k < 101 → dcG k ∈ GX) ∧ (r = 0 → (OX = [(("o" : Str), ("i0" : Str)), ("o", "i0")]) ∨ ∃ y : Str, (y = "x" ∨ y = "i0") ∧ X = [("x" : Str), y]) := by
  cases A with
  | o => exact ⟨(fun z => by cases z), (fun z => by cases z), (fun z => by cases z), (fun z => by cases z), (fun z => by cases z), fun _ => .inl rfl⟩
  | x y h => exact ⟨(fun z => by cases z), (fun z => by cases z), (fun z => by cases z), (fun z => by cases z), (fun z => by cases z), fun _ => .inr ⟨y, h, rfl⟩⟩
  | w g h => exact ⟨fun _ => ⟨g, List.mem_singleton.mpr rfl, (ws_pins h).2.2.1⟩, (fun z => by cases z), (fun z => by cases z), (fun z => by cases z), (fun z => by cases z), (fun z => by cases z)⟩
  | vg => exact ⟨(fun z => by cases z), fun _ => .inl ⟨vG, List.mem_singleton.mpr rfl, List.mem_singleton.mpr rfl⟩, (fun z => by cases z), (fun z => by cases z), (fun z => by cases z), (fun z => by cases z)⟩
  | vr => exact ⟨(fun z => by cases z), fun _ => .inr (.inl ⟨vR, List.mem_singleton.mpr rfl, rfl⟩), (fun z => by cases z), (fun z => by cases z), (fun z => by cases z), (fun z => by cases z)⟩
  | vo => exact ⟨(fun z => by cases z), fun _ => .inr (.inr ⟨_, List.mem_singleton.mpr rfl, rfl⟩), (fun z => by cases z), (fun z => by cases z), (fun z => by cases z), (fun z => by cases z)⟩
  | ug pr h =>
    refine ⟨(fun z => by cases z), (fun z => by cases z), fun _ => .inl ⟨uG pr, List.mem_singleton.mpr rfl, pr, List.mem_singleton.mpr rfl, ?_⟩, (fun z => by cases z), (fun z => by cases z), (fun z => by cases z)⟩
    simp only [prs, List.mem_cons, List.not_mem_nil, or_false] at h
    rcases h with h | h | h <;> subst h <;> (unfold okR; decide)
  | ur t h =>
    refine ⟨(fun z => by cases z), (fun z => by cases z), fun _ => .inr ⟨uR t, List.mem_singleton.mpr rfl, ?_⟩, (fun z => by cases z), (fun z => by cases z), (fun z => by cases z)⟩
    simp only [tms, List.mem_cons, List.not_mem_nil, or_false] at h
    rcases h with h | h | h <;> subst h <;> (unfold RegG uR; decide)
  | c m GX h hp =>
    refine ⟨(fun z => by cases z), (fun z => by cases z), (fun z => by cases z), fun _ => ⟨m, by omega, fun k hk => hp.mem_iff.mpr (List.mem_map.mpr ⟨k, List.mem_range.mpr hk, rfl⟩)⟩, (fun z => by cases z), (fun z => by cases z)⟩
  | d GX hp =>
    refine ⟨(fun z => by cases z), (fun z => by cases z), (fun z => by cases z), (fun z => by cases z), fun _ k hk => hp.mem_iff.mpr (List.mem_map.mpr ⟨k, List.mem_range.mpr hk, rfl⟩), (fun z => by cases z)⟩
theorem Add.ports (A : Add r X GX RX OX) : ∀ o ∈ OX, (hd o.1 = 111 ∧ r = 0) ∨ (hd o.1 = 118 ∧ r = 2) := by
  have h : hd "o" = 111 ∧ hd "v" = 118 := by decide
  cases A with
  | o => exact fun o ho => by simp only [List.mem_cons, List.not_mem_nil, or_false] at ho; rcases ho with e | e <;> exact .inl ⟨by rw [e]; exact h.1, rfl⟩
  | vo => exact fun o ho => by rw [List.mem_singleton.mp ho]; exact .inr ⟨h.2, rfl⟩
  | x | w | vg | vr | ug | ur | c | d => exact fun o ho => nomatch ho
theorem Add.one (A : Add r X GX RX OX) (h : r ≠ 0) : OX.length ≤ 1 := by
  cases A with
  | o => exact absurd rfl h
  | x => exact absurd rfl h
  | w | vg | vr | vo | ug | ur | c | d => first | exact Nat.zero_le _ | exact Nat.le_refl 1
theorem Add.tx (A : Add r X GX RX OX) : (∀ x ∈ X, x.length ≤ 10) ∧ (∀ x ∈ GX.map (·.name) ++ RX.map (·.name), x.length ≤ 10) := by
  have none_ : ∀ {p : Str → Prop}, ∀ x ∈ ([] : List Str), p x := fun x h => nomatch h
  have hc : ("c" : Str).length = 1 := rfl
  have hdd : ("d" : Str).length = 1 := rfl
  cases A with
  | o => exact ⟨none_, none_⟩
  | x y h => exact ⟨fun x hx => by simp only [List.mem_cons, List.not_mem_nil, or_false] at hx; rcases hx with e | e <;> rw [e]; exact (by decide : ("x" : Str).length ≤ 10); (rcases h with h | h <;> rw [h] <;> decide), none_⟩
  | w g h => exact ⟨none_, fun x hx => by have hx : x ∈ [g.name] := hx; rw [List.mem_singleton.mp hx, (ws_pins h).2.2.2]; decide⟩
  | vg => exact ⟨none_, fun x hx => by have hx : x ∈ [("v" : Str)] := hx; rw [List.mem_singleton.mp hx]; decide⟩
  | vr => exact ⟨none_, fun x hx => by have hx : x ∈ [("v" : Str)] := hx; rw [List.mem_singleton.mp hx]; decide⟩
  | vo => exact ⟨none_, none_⟩
  | ug pr h => exact ⟨none_, fun x hx => by have hx : x ∈ [("u" : Str)] := hx; rw [List.mem_singleton.mp hx]; decide⟩
  | ur t h => exact ⟨none_, fun x hx => by have hx : x ∈ [("u" : Str)] := hx; rw [List.mem_singleton.mp hx]; decide⟩
  | c m GX h hp =>
    refine ⟨none_, fun x hx => ?_⟩
    have hx : x ∈ GX.map (·.name) ++ [] := hx
    rw [List.append_nil] at hx
    obtain ⟨g, hg, rfl⟩ := List.mem_map.mp hx
    obtain ⟨k, hk, rfl⟩ := List.mem_map.mp (hp.mem_iff.mp hg)
    exact nm_len hc (by have := List.mem_range.mp hk; omega)
  | d GX hp =>
    refine ⟨none_, fun x hx => ?_⟩
    have hx : x ∈ GX.map (·.name) ++ [] := hx
    rw [List.append_nil] at hx
    obtain ⟨g, hg, rfl⟩ := List.mem_map.mp hx
    obtain ⟨k, hk, rfl⟩ := List.mem_map.mp (hp.mem_iff.mp hg)
    exact nm_len hdd (by have := List.mem_range.mp hk; omega)
theorem not_nd2 {a : Str} {l : List Str} (h : a ∈ l) : ¬ (l ++ [a]).Nodup := fun z => (List.nodup_append.mp z).2.2 a h a (List.mem_singleton.mpr rfl) rfl
end
end G
namespace G
open PySem PySem.Spec PyProof.Rows L2 Evl TL
section
variable {rs : List Nat} {d : CircD} {r : Nat} {X : List Str} {GX : List GateD} {RX : List RegD} {OX : List (Str × Str)}
theorem nodup_left {α : Type} {a b : List α} (h : (a ++ b).Nodup) : a.Nodup := (List.nodup_append.mp h).1
theorem two_nd {α : Type} {a : List α} {x : α} (h : x ∈ a) : ¬ (a ++ [x]).Nodup := fun z => (List.nodup_append.mp z).2.2 x h x (List.mem_singleton.mpr rfl) rfl
theorem Sd.step (S : Sd rs d) (hrs : ∀ q ∈ rs, q < 6) (hr : r < 6) (hn : r ∉ rs) (A : Add r X GX RX OX) (rl : ∀ x ∈ readsD d, x ∈ namesD d ∨ x = "nowhere") : Sd (r :: rs) (extD d X GX RX OX) ∧ ∀ x ∈ readsD (extD d X GX RX OX), x ∈ namesD (extD d X GX RX OX) ∨ x = "nowhere" := by
  obtain ⟨z1, z2, z3, z4⟩ := A.sizes
  obtain ⟨g1, g3⟩ := A.good
  obtain ⟨d1, d2, d3, d4, d5, d0⟩ := A.bad
  obtain ⟨p1, p2, p3⟩ := A.reads
  obtain ⟨t1, t2⟩ := A.tx
  have mono : ∀ {x : Str}, x ∈ namesD d → x ∈ namesD (extD d X GX RX OX) := fun h => ext_mem.mpr (.inl h)
  have i0n : ("i0" : Str) ∈ namesD (extD d X GX RX OX) := mono (by unfold namesD; exact List.mem_append_left _ (List.mem_append_left _ S.i0))
  have newread : ∀ x, ((∃ g ∈ GX, x ∈ g.pins) ∨ (∃ q ∈ RX, x = q.net) ∨ ∃ o ∈ OX, x = o.2) → x ∈ namesD (extD d X GX RX OX) ∨ (x = "nowhere" ∧ r = 2) := fun x h => by
    rcases h with ⟨g, hg, hx⟩ | ⟨q, hq, hx⟩ | ⟨o, ho, hx⟩
    · rcases p1 g hg x hx with e | e | e
      · exact .inl (by rw [e]; exact i0n)
      · exact .inr e
      · exact .inl (ext_mem.mpr (.inr (.inr (.inl e))))
    · rcases p2 q hq with e | e
      · exact .inl (by rw [hx, e]; exact i0n)
      · exact .inr ⟨by rw [hx, e.1], e.2⟩
    · rcases p3 o ho with e | e
      · exact .inl (by rw [hx, e]; exact i0n)
      · exact .inr ⟨by rw [hx, e.1], e.2⟩
  have mem : ∀ {q : Nat}, q ∈ rs → q ∈ r :: rs := fun h => List.mem_cons_of_mem _ h
  have me : r ∈ r :: rs := List.mem_cons_self ..
  have rl' : ∀ x ∈ readsD (extD d X GX RX OX), x ∈ namesD (extD d X GX RX OX) ∨ x = "nowhere" := fun x hx => by
    rcases ext_reads.mp hx with h | h
    · exact (rl x h).imp mono id
    · exact (newread x h).imp id fun z => z.1
  refine ⟨⟨?_, ?_, fun x hx => ?_, fun x hx => ?_, fun o ho => ?_, List.mem_append_left _ S.i0, fun h => ?_, fun h => ?_, fun h => ?_, fun h => ?_, fun h => ?_, fun h => ?_, fun h => ?_, fun h => ?_, fun h => ?_, fun h => ?_, fun h => ?_⟩, rl'⟩
  · have := S.gs
    show (d.gates ++ GX).length ≤ _
    rw [List.length_append, List.length_cons]
    by_cases e : r = 5
    · rw [if_pos e] at z4
      rw [if_neg (by rw [e] at hn; exact hn)] at this
      rw [if_pos (by rw [e]; exact List.mem_cons_self ..)]
      omega
    · rw [if_neg e] at z4
      by_cases e5 : 5 ∈ rs
      · rw [if_pos e5] at this
        rw [if_pos (mem e5)]
        omega
      · rw [if_neg e5] at this
        rw [if_neg fun z => (List.mem_cons.mp z).elim (fun y => e y.symm) e5]
        omega
  · obtain ⟨h1, h2, h3⟩ := S.ot
    refine ⟨?_, ?_, ?_⟩
    · show (d.ins ++ X).length ≤ _
      rw [List.length_append, List.length_cons]; omega
    · show (d.regs ++ RX).length ≤ _
      rw [List.length_append, List.length_cons]; omega
    · show (d.outs ++ OX).length ≤ _
      rw [List.length_append, List.length_cons]; omega
  · have hname : ∀ y ∈ namesD (extD d X GX RX OX), y.length ≤ 10 := fun y hy => by
      rcases ext_mem.mp hy with h | h | h | h
      · exact S.tx y (List.mem_append_left _ h)
      · exact t1 y h
      · exact t2 y (List.mem_append_left _ h)
      · exact t2 y (List.mem_append_right _ h)
    rcases List.mem_append.mp hx with h | h
    · exact hname x h
    · rcases rl' x h with e | e
      · exact hname x e
      · rw [e]; decide
  · by_cases e : r = 0
    · rcases ext_mem.mp hx with h | h | h | h
      · exact (S.nl x h).imp id fun ⟨q, hq, y⟩ => ⟨q, mem hq, y⟩
      · rcases d0 e with y | ⟨y, hy, ex⟩
        · have : X = [] := by cases A with
            | o => rfl
            | x => cases y
            | w | vg | vr | vo | ug | ur | c | d => rfl
          rw [this] at h; cases h
        · rw [ex] at h
          simp only [List.mem_cons, List.not_mem_nil, or_false] at h
          have hx120 : hd "x" = 120 ∧ hd "i0" = 105 := by decide
          rcases h with h | h
          · exact .inr ⟨r, me, by rw [h, e]; exact hx120.1⟩
          · rcases hy with hy | hy
            · exact .inr ⟨r, me, by rw [h, hy, e]; exact hx120.1⟩
            · exact .inl (.inl (by rw [h, hy]; exact hx120.2))
      · cases A with
        | o | x => cases h
        | w | vg | vr | vo | ug | ur | c | d => cases e
      · cases A with
        | o | x => cases h
        | w | vg | vr | vo | ug | ur | c | d => cases e
    · obtain ⟨n1, n2, n3⟩ := A.names e
      rcases ext_mem.mp hx with h | h | h | h
      · exact (S.nl x h).imp id fun ⟨q, hq, y⟩ => ⟨q, mem hq, y⟩
      · rw [n1] at h; cases h
      · exact .inr ⟨r, me, n2 x (List.mem_append_left _ h)⟩
      · exact .inr ⟨r, me, n2 x (List.mem_append_right _ h)⟩
  · rcases List.mem_append.mp ho with h | h
    · exact (S.pl o h).imp id fun z => z.imp (fun y => ⟨y.1, mem y.2⟩) fun y => ⟨y.1, mem y.2⟩
    · rcases A.ports o h with ⟨a, b⟩ | ⟨a, b⟩
      · exact .inr (.inl ⟨a, by rw [b]; exact List.mem_cons_self ..⟩)
      · exact .inr (.inr ⟨a, by rw [b]; exact List.mem_cons_self ..⟩)
  · have hr0 : r ≠ 0 := fun z => h (by rw [z]; exact List.mem_cons_self ..)
    have h0 : 0 ∉ rs := fun z => h (mem z)
    obtain ⟨n1, n2, n3⟩ := A.names hr0
    obtain ⟨m1, m2⟩ := S.n0 h0
    refine ⟨?_, ?_⟩
    · rw [(ext_perm d).nodup_iff, n1, List.nil_append]
      refine List.nodup_append.mpr ⟨m1, n3, fun a ha b hb e => ?_⟩
      exact S.fresh hrs hr hn (n2 b hb) (by rw [← e]; exact ha)
    · show ((d.outs ++ OX).map (·.1)).Nodup
      rw [List.map_append]
      have hone := A.one hr0
      refine List.nodup_append.mpr ⟨m2, ?_, fun a ha b hb e => ?_⟩
      · match OX, hone with
        | [], _ => exact List.nodup_nil
        | [o], _ => simp
      · obtain ⟨o1, ho1, rfl⟩ := List.mem_map.mp ha
        obtain ⟨o2, ho2, rfl⟩ := List.mem_map.mp hb
        rcases A.ports o2 ho2 with ⟨y, z⟩ | ⟨y, z⟩
        · exact hr0 z
        · rcases S.pl o1 ho1 with w | w | w
          · rw [e, y] at w; exact absurd w (by decide)
          · exact h0 w.2
          · exact hn (by rw [z]; exact w.2)
  · rcases List.mem_cons.mp h with e | e
    · have e := e.symm
      rcases d0 e with y | ⟨y, hy, ex⟩
      · refine fun z => ?_
        have z2 := z.2
        have e2 : ((extD d X GX RX OX).outs.map fun o => o.1) = (d.outs.map (fun o => o.1) ++ [("o" : Str)]) ++ [("o" : Str)] := by
          show ((d.outs ++ OX).map fun o => o.1) = _
          rw [y, List.map_append]; simp
        rw [e2] at z2
        exact two_nd (List.mem_append_right _ (List.mem_singleton.mpr rfl)) z2
      · refine fun z => ?_
        have z1' := z.1
        rw [(ext_perm d).nodup_iff, ex] at z1'
        have h1 : (namesD d ++ [("x" : Str), y]).Nodup := by
          rw [← List.append_assoc] at z1'
          exact nodup_left z1'
        rcases hy with hy | hy
        · have := (List.nodup_append.mp h1).2.1
          rw [hy] at this
          exact absurd this (by simp)
        · have h2 : (namesD d ++ [("x" : Str)] ++ [("i0" : Str)]).Nodup := by rw [hy] at h1; simpa using h1
          exact two_nd (List.mem_append_left _ (by unfold namesD; exact List.mem_append_left _ (List.mem_append_left _ S.i0))) h2
    · refine fun z => S.b0 e ⟨?_, ?_⟩
      · have z1' := z.1
        rw [(ext_perm d).nodup_iff] at z1'
        exact nodup_left z1'
      · have z2 : ((d.outs ++ OX).map (·.1)).Nodup := z.2
        rw [List.map_append] at z2
        exact nodup_left z2
  · intro g hg
    rcases List.mem_append.mp hg with y | y
    · exact S.n1 (fun z => h (mem z)) g y
    · exact g1 (fun z => h (by rw [z]; exact List.mem_cons_self ..)) g y
  · intro z
    rcases List.mem_cons.mp h with e | e
    · obtain ⟨g, hg, hb⟩ := d1 e.symm
      exact hb (z g (List.mem_append_right _ hg))
    · exact S.b1 e fun g hg => z g (List.mem_append_left _ hg)
  · intro x hx
    rcases ext_reads.mp hx with y | y
    · exact mono (S.n2 (fun z => h (mem z)) x y)
    · rcases newread x y with e | e
      · exact e
      · exact absurd (by rw [e.2]; exact List.mem_cons_self ..) h
  · rcases List.mem_cons.mp h with e | e
    · exact ext_reads.mpr (.inr (d2 e.symm))
    · exact ext_reads.mpr (.inl (S.b2 e))
  · have hr3 : r ≠ 3 := fun z => h (by rw [z]; exact List.mem_cons_self ..)
    obtain ⟨q1, q2⟩ := S.n3 fun z => h (mem z)
    obtain ⟨k1, k2⟩ := g3 hr3
    refine ⟨fun g hg => ?_, fun q hq => ?_⟩
    · rcases List.mem_append.mp hg with y | y
      · exact q1 g y
      · exact k1 g y
    · rcases List.mem_append.mp hq with y | y
      · exact q2 q y
      · exact k2 q y
  · intro z
    rcases List.mem_cons.mp h with e | e
    · rcases d3 e.symm with ⟨g, hg, p, hp, hb⟩ | ⟨q, hq, hb⟩
      · exact hb (z.1 g (List.mem_append_right _ hg) p hp)
      · exact hb (z.2 q (List.mem_append_right _ hq))
    · exact S.b3 e ⟨fun g hg => z.1 g (List.mem_append_left _ hg), fun q hq => z.2 q (List.mem_append_left _ hq)⟩
  · rcases List.mem_cons.mp h with e | e
    · obtain ⟨m, hm, hk⟩ := d4 e.symm
      exact ⟨m, hm, fun k h => List.mem_append_right _ (hk k h)⟩
    · obtain ⟨m, hm, hk⟩ := S.b4 e
      exact ⟨m, hm, fun k h => List.mem_append_left _ (hk k h)⟩
  · rcases h with h | h
    · cases h
    · obtain ⟨e1, e2⟩ := List.cons.inj h
      subst e1 e2
      obtain ⟨rank, hrk⟩ := S.n4 (.inl rfl)
      obtain ⟨nm1, _⟩ := S.n0 (by intro z; cases z)
      have hnet := S.n2 (by intro z; cases z)
      have hd_old : ∀ x ∈ namesD d, hd x ≠ 100 := fun x hx e => by
        rcases S.nl x hx with (z | z | z) | ⟨q, hq, _⟩
        · omega
        · omega
        · omega
        · cases hq
      cases A with
      | d GX hp =>
        have hnew : ∀ x ∈ GX.map (·.name), ∃ k, k < 101 ∧ x = nm "d" k := fun x hx => by
          obtain ⟨g, hg, rfl⟩ := List.mem_map.mp hx
          obtain ⟨k, hk, rfl⟩ := List.mem_map.mp (hp.mem_iff.mp hg)
          exact ⟨k, List.mem_range.mp hk, rfl⟩
        have hd100 : ∀ k, hd (nm "d" k) = 100 := fun k => hd_nm (c := "d") (z := 100) (r := []) rfl k
        have hval : ∀ k, NumText.digitsVal ((tl (nm "d" k)).drop 1) = k := fun k => by
          rw [tl_nm]
          show NumText.digitsVal (numL k) = k
          exact numL_val k
        have hgn : ∀ x, x ∈ gnames (extD d [] GX [] []) → x ∈ gnames d ∨ ∃ k, k < 101 ∧ x = nm "d" k := fun x hx => by
          have hx : x ∈ (d.gates ++ GX).map (·.name) := hx
          rw [List.map_append] at hx
          exact (List.mem_append.mp hx).imp id (hnew x)
        have gsub : ∀ x ∈ gnames d, x ∈ namesD d := fun x hx => by
          unfold namesD
          exact List.mem_append_left _ (List.mem_append_right _ hx)
        refine ⟨fun x => if hd x = 100 then NumText.digitsVal ((tl x).drop 1) else rank x, fun g hg x hx hxg => ?_⟩
        show (if hd x = 100 then _ else _) < (if hd g.name = 100 then _ else _)
        rcases List.mem_append.mp hg with y | y
        · have hxr : x ∈ readsD d := by
            unfold readsD
            exact List.mem_append_left _ (List.mem_append_left _ (List.mem_flatMap.mpr ⟨g, y, hx⟩))
          have hxn := hd_old x (hnet x hxr)
          have hgn' := hd_old g.name (gsub _ (List.mem_map.mpr ⟨g, y, rfl⟩))
          rw [if_neg hxn, if_neg hgn']
          rcases hgn x hxg with z | ⟨k, _, z⟩
          · exact hrk g y x hx z
          · rw [z] at hxn
            exact absurd (hd100 k) hxn
        · obtain ⟨k, hk, rfl⟩ := List.mem_map.mp (hp.mem_iff.mp y)
          have hx : x ∈ [if k = 0 then ("i0" : Str) else nm "d" (k - 1)] := hx
          have hx := List.mem_singleton.mp hx
          have e2 : (dcG k).name = nm "d" k := rfl
          rw [e2, if_pos (hd100 k), hval]
          by_cases e : k = 0
          · rw [if_pos e] at hx
            exfalso
            rcases hgn x hxg with z | ⟨j, _, z⟩
            · unfold namesD at nm1
              exact (List.nodup_append.mp (List.nodup_append.mp nm1).1).2.2 x (by rw [hx]; exact S.i0) x z rfl
            · rw [hx] at z
              have := hd100 j
              rw [← z] at this
              exact absurd this (by decide)
          · rw [if_neg e] at hx
            rw [hx, if_pos (hd100 _), hval]
            omega
  · rcases List.mem_cons.mp h with e | e
    · exact fun k hk => List.mem_append_right _ (d5 e.symm k hk)
    · exact fun k hk => List.mem_append_left _ (S.b5 e k hk)
theorem Sd.nowhere (S : Sd rs d) : ("nowhere" : Str) ∉ namesD d := fun z => by
  have h : hd "nowhere" = 110 := by decide
  rcases S.nl _ z with (e | e | e) | ⟨q, _, e⟩
  · rw [h] at e; exact absurd e (by decide)
  · rw [h] at e; exact absurd e (by decide)
  · rw [h] at e; exact absurd e (by decide)
  · exact (letter_base (r := q)).2.2.2 (e.symm.trans h)
end
end G
namespace G
open PySem PySem.Spec PyProof.Rows L2 Evl TL
theorem nd_sub {α : Type} [BEq α] [LawfulBEq α] : ∀ (a b : List α), a.Nodup → (∀ x ∈ a, x ∈ b) → a.length ≤ b.length
  | [], _, _, _ => Nat.zero_le _
  | x :: a, b, d, m => by
    obtain ⟨d1, d2⟩ := List.nodup_cons.mp d
    have hx := m x List.mem_cons_self
    have := nd_sub a (b.erase x) d2 fun y hy => (List.mem_erase_of_ne fun e : y = x => d1 (e ▸ hy)).mpr (m y (List.mem_cons_of_mem _ hy))
    rw [List.length_erase_of_mem hx] at this
    have := List.length_pos_of_mem hx
    rw [List.length_cons]; omega
/-! ### the lengths of the paths, at the end -/
theorem fold_out {N : List (List Nat)} {x : Nat} : ∀ (l : List Nat) (f : Nat → Nat), x ∉ l → l.foldl (stepL N) f x = f x
  | [], _, _ => rfl
  | g :: l, f, h => by
    rw [List.foldl_cons, fold_out l _ fun z => h (List.mem_cons_of_mem _ z)]
    unfold stepL
    exact if_neg fun z => h (by rw [z]; exact List.mem_cons_self ..)
theorem lenF_out {N : List (List Nat)} {x : Nat} {a b : List Nat} (h : x ∉ b) : lenF N (a ++ b) x = lenF N a x := by
  unfold lenF
  rw [List.foldl_append]
  exact fold_out b _ h
theorem mxF_congr {f g : Nat → Nat} {l : List Nat} (h : ∀ o ∈ l, f o = g o) : mxF f l = mxF g l := by
  unfold mxF
  rw [List.map_congr_left h]
theorem lenF_fix {N : List (List Nat)} {ord : List Nat} (L : LOrd N ord) {i k : Nat} (h : ord[i]? = some k) : lenF N (ord.take (i + 1)) k = lenF N ord k ∧ lenF N ord k = 1 + mxF (lenF N ord) (N.getD k []) := by
  have hi := (List.getElem?_eq_some_iff.mp h).1
  have e1 : ord = ord.take (i + 1) ++ ord.drop (i + 1) := (List.take_append_drop _ _).symm
  have e0 : ord = ord.take i ++ ord.drop i := (List.take_append_drop _ _).symm
  have ht := take_snoc1 h
  have nd1 : (ord.take (i + 1) ++ ord.drop (i + 1)).Nodup := by rw [← e1]; exact L.nd
  have nd0 : (ord.take i ++ ord.drop i).Nodup := by rw [← e0]; exact L.nd
  have hk : k ∈ ord.take (i + 1) := by rw [ht]; exact List.mem_append_right _ (List.mem_singleton.mpr rfl)
  have a1 : lenF N (ord.take (i + 1)) k = lenF N ord k := by
    conv => rhs; rw [e1]
    exact (lenF_out fun z => (List.nodup_append.mp nd1).2.2 k hk k z rfl).symm
  refine ⟨a1, ?_⟩
  rw [← a1, ht, lenF_snoc]
  unfold stepL
  rw [if_pos rfl]
  congr 1
  refine mxF_congr fun o ho => ?_
  have hot := L.closed i k h o ho
  conv => rhs; rw [e0]
  exact (lenF_out fun z => (List.nodup_append.mp nd0).2.2 o hot o z rfl).symm
theorem fold_le {N : List (List Nat)} : ∀ (l : List Nat) (f : Nat → Nat) (b : Nat), (∀ x, f x ≤ b) → ∀ x, l.foldl (stepL N) f x ≤ b + l.length
  | [], f, b, h, x => h x
  | g :: l, f, b, h, x => by
    rw [List.foldl_cons, List.length_cons]
    have := fold_le (N := N) l (stepL N f g) (b + 1) (fun y => by
      unfold stepL
      by_cases e : y = g
      · rw [if_pos e]
        have hm : ∀ (l : List Nat) (n : Nat), n ≤ b → (l.map f).foldl max n ≤ b := fun l => by
          induction l with
          | nil => exact fun n hn => hn
          | cons z l ih =>
            intro n hn
            rw [List.map_cons, List.foldl_cons]
            exact ih _ (by have := h z; omega)
        have := hm (N.getD g []) 0 (Nat.zero_le _)
        show 1 + mxF f (N.getD g []) ≤ _
        unfold mxF
        omega
      · rw [if_neg e]
        have := h y; omega) x
    omega
theorem lenF_le {N : List (List Nat)} (ord : List Nat) (x : Nat) : lenF N ord x ≤ ord.length := by
  have := fold_le (N := N) ord (fun _ => 0) 0 (fun _ => Nat.le_refl _) x
  rw [Nat.zero_add] at this
  exact this
section
variable {d : CircD}
/-- where a gate stands, and what it needs -/
theorem gate_pos (G : GN d) {g : GateD} (h : g ∈ d.gates) : d.gates[(gnames d).idxOf g.name]? = some g := by
  obtain ⟨f, hf, e⟩ := List.getElem_of_mem h
  have h1 : (gnames d)[f]'(by unfold gnames; rw [List.length_map]; exact hf) = g.name := by
    show (d.gates.map _)[f]'_ = _
    rw [List.getElem_map, e]
  rw [← h1, G.nd.idxOf_getElem f]
  exact List.getElem?_eq_some_iff.mpr ⟨hf, e⟩
theorem gate_in {g : GateD} (h : g ∈ d.gates) : g.name ∈ gnames d := List.mem_map.mpr ⟨g, h, rfl⟩
theorem need_one (G : GN d) {g g2 : GateD} (h : g ∈ d.gates) (h2 : g2 ∈ d.gates) (hp : g.pins = [g2.name]) : (needN d).getD ((gnames d).idxOf g.name) [] = [(gnames d).idxOf g2.name] := by
  rw [need_at (gate_pos G h), hp, List.filter_cons, decide_eq_true (gate_in h2)]; rfl
/-- gates in a cycle are in no order -/
theorem cyc_short (G : GN d) {m : Nat} (hm : 0 < m) (hc : ∀ k, k < m → cyG m k ∈ d.gates) {ord : List Nat} (L : LOrd (needN d) ord) : ord.length < d.gates.length := by
  have hno : ∀ i, ∀ k, k < m → ord[i]? ≠ some ((gnames d).idxOf (cyG m k).name) := fun i => by
    induction i using Nat.strongRecOn with
    | _ i ih =>
      intro k hk h
      have hk2 : (k + 1) % m < m := Nat.mod_lt _ hm
      have hn := need_one G (hc k hk) (hc _ hk2) rfl
      have := L.closed i _ h ((gnames d).idxOf (cyG m ((k + 1) % m)).name) (by rw [hn]; exact List.mem_singleton.mpr rfl)
      obtain ⟨j, hj, e⟩ := List.getElem_of_mem this
      have hji : j < i := by rw [List.length_take] at hj; omega
      rw [List.getElem_take] at e
      exact ih j hji _ hk2 (List.getElem?_eq_some_iff.mpr ⟨by rw [List.length_take] at hj; omega, e⟩)
  have hp : (gnames d).idxOf (cyG m 0).name ∉ ord := fun z => by
    obtain ⟨i, hi, e⟩ := List.getElem_of_mem z
    exact hno i 0 hm (List.getElem?_eq_some_iff.mpr ⟨hi, e⟩)
  have hl := (List.getElem?_eq_some_iff.mp (gate_pos G (hc 0 hm))).1
  have := nodup_len d.gates.length (ord ++ [(gnames d).idxOf (cyG m 0).name]) (List.nodup_append.mpr ⟨L.nd, by simp, fun a ha b hb e => hp (by rw [← List.mem_singleton.mp hb, ← e]; exact ha)⟩) fun k hk => by
    rcases List.mem_append.mp hk with z | z
    · have := L.lt k z
      rw [need_len] at this; exact this
    · rw [List.mem_singleton.mp z]; exact hl
  rw [List.length_append] at this
  exact this
/-- where none reads itself, the order takes all -/
theorem rank_all {rank : Str → Nat} (hr : ∀ g ∈ d.gates, ∀ x ∈ g.pins, x ∈ gnames d → rank x < rank g.name) {ord : List Nat} (L : LOrd (needN d) ord) : ord.length = d.gates.length ∧ ∀ k, k < d.gates.length → k ∈ ord := by
  have all : ∀ r k, (hk : k < d.gates.length) → rank (d.gates[k]).name = r → k ∈ ord := by
    intro r
    induction r using Nat.strongRecOn with
    | _ r ih =>
      intro k hk e
      refine L.full k (by rw [need_len]; exact hk) fun o ho => ?_
      rw [need_at (List.getElem?_eq_getElem hk)] at ho
      obtain ⟨x, hx, rfl⟩ := List.mem_map.mp ho
      obtain ⟨hx1, hx2⟩ := List.mem_filter.mp hx
      have hxg := of_decide_eq_true hx2
      have hlt := List.idxOf_lt_length_iff.mpr hxg
      have hlt2 : (gnames d).idxOf x < d.gates.length := by
        have : (gnames d).length = d.gates.length := List.length_map _
        omega
      have hnx : (d.gates[(gnames d).idxOf x]).name = x := by
        have h2 : (gnames d)[(gnames d).idxOf x] = x := List.getElem_idxOf hlt
        have h3 : (gnames d)[(gnames d).idxOf x]? = (d.gates[(gnames d).idxOf x]?).map (fun g : GateD => g.name) := List.getElem?_map ..
        rw [List.getElem?_eq_getElem hlt, List.getElem?_eq_getElem hlt2] at h3
        exact (Option.some.inj h3).symm.trans h2
      have := hr _ (List.getElem_mem hk) x hx1 hxg
      exact ih (rank x) (by omega) _ hlt2 (by rw [hnx])
  refine ⟨Nat.le_antisymm ?_ ?_, fun k hk => all _ k hk rfl⟩
  · have := nodup_len _ ord L.nd L.lt
    rw [need_len] at this; exact this
  · have := nd_sub (List.range d.gates.length) ord List.nodup_range fun k hk => all _ k (List.mem_range.mp hk) rfl
    rw [List.length_range] at this; exact this
theorem chain_deep (G : GN d) (hc : ∀ k, k < 101 → dcG k ∈ d.gates) {ord : List Nat} (L : LOrd (needN d) ord) (hall : ∀ k, k < d.gates.length → k ∈ ord) : DeepP (needN d) ord := by
  have hin : ∀ k, k < 101 → ∃ i, ord[i]? = some ((gnames d).idxOf (dcG k).name) := fun k hk => by
    have hl := (List.getElem?_eq_some_iff.mp (gate_pos G (hc k hk))).1
    obtain ⟨i, hi, e⟩ := List.getElem_of_mem (hall _ hl)
    exact ⟨i, List.getElem?_eq_some_iff.mpr ⟨hi, e⟩⟩
  have hL : ∀ k, k < 101 → k + 1 ≤ lenF (needN d) ord ((gnames d).idxOf (dcG k).name) := fun k => by
    induction k with
    | zero =>
      intro hk
      obtain ⟨i, hi⟩ := hin 0 hk
      rw [(lenF_fix L hi).2]; omega
    | succ k ih =>
      intro hk
      obtain ⟨i, hi⟩ := hin (k + 1) hk
      have hn := need_one G (hc (k + 1) hk) (hc k (by omega)) (by show [if k + 1 = 0 then ("i0" : Str) else nm "d" (k + 1 - 1)] = [nm "d" k]; rw [if_neg (Nat.succ_ne_zero _)]; rfl)
      rw [(lenF_fix L hi).2, hn]
      have := ih (by omega)
      show _ ≤ 1 + ([lenF (needN d) ord ((gnames d).idxOf (dcG k).name)].foldl max 0)
      show _ ≤ 1 + max 0 (lenF (needN d) ord ((gnames d).idxOf (dcG k).name))
      omega
  obtain ⟨i, hi⟩ := hin 100 (by decide)
  refine ⟨i, _, hi, ?_⟩
  rw [(lenF_fix L hi).1]
  have := hL 100 (by decide)
  omega
theorem few_shallow {ord : List Nat} (L : LOrd (needN d) ord) (h : d.gates.length ≤ 100) : ¬ DeepP (needN d) ord := fun ⟨i, k, hi, hd⟩ => by
  have h1 := lenF_le (N := needN d) (ord.take (i + 1)) k
  rw [List.length_take] at h1
  have h2 := nodup_len _ ord L.nd L.lt
  rw [need_len] at h2
  omega
end
/-! ### what the check says -/
def Ok4 (d : CircD) : Prop := NmD d ∧ CntD d ∧ NetD d ∧ RngD d
def Brk (m : Nat) (d : CircD) : Prop := match m with
  | 0 => ¬ NmD d
  | 1 => NmD d ∧ ¬ CntD d
  | 2 => NmD d ∧ CntD d ∧ ¬ NetD d
  | 3 => NmD d ∧ CntD d ∧ NetD d ∧ ¬ RngD d
  | 4 => Ok4 d ∧ ∀ ord, LOrd (needN d) ord → ord.length < d.gates.length
  | _ => Ok4 d ∧ ∀ ord, LOrd (needN d) ord → ord.length = d.gates.length ∧ DeepP (needN d) ord
section
variable {rs : List Nat} {d : CircD}
theorem Sd.few (S : Sd rs d) (h : rs.length ≤ 2) : FewD d := by
  obtain ⟨h1, h2, h3⟩ := S.ot
  have h4 := S.gs
  have h5 : d.gates.length ≤ 120 := by
    by_cases e : 5 ∈ rs
    · rw [if_pos e] at h4; omega
    · rw [if_neg e] at h4; omega
  refine ⟨?_, by omega, by omega, by omega, fun g hg => ?_, fun r hr => ?_, fun x hx => ?_⟩
  · unfold namesD
    rw [List.length_append, List.length_append, List.length_map, List.length_map]; omega
  · have := S.tx g.name (List.mem_append_left _ (by unfold namesD; exact List.mem_append_left _ (List.mem_append_right _ (List.mem_map.mpr ⟨g, hg, rfl⟩))))
    omega
  · have := S.tx r.name (List.mem_append_left _ (by unfold namesD; exact List.mem_append_right _ (List.mem_map.mpr ⟨r, hr, rfl⟩)))
    omega
  · have := S.tx x (List.mem_append_right _ hx)
    omega
theorem Sd.brk (S : Sd rs d) (hl : rs.length ≤ 2) {m : Nat} (hm : m ∈ rs) (hm6 : m < 6) (hle : ∀ q ∈ rs, m ≤ q) (h5 : m = 5 → rs = [5]) : Brk m d := by
  have out : ∀ q, q < m → q ∉ rs := fun q hq z => by have := hle q z; omega
  have gn : NmD d → CntD d → GN d := fun a b => gn_of a (S.few hl) b
  match m, hm6 with
  | 0, _ => exact S.b0 hm
  | 1, _ => exact ⟨S.n0 (out 0 (by decide)), S.b1 hm⟩
  | 2, _ => exact ⟨S.n0 (out 0 (by decide)), S.n1 (out 1 (by decide)), fun z => S.nowhere (z _ (S.b2 hm))⟩
  | 3, _ => exact ⟨S.n0 (out 0 (by decide)), S.n1 (out 1 (by decide)), S.n2 (out 2 (by decide)), S.b3 hm⟩
  | 4, _ =>
    have o := (⟨S.n0 (out 0 (by decide)), S.n1 (out 1 (by decide)), S.n2 (out 2 (by decide)), S.n3 (out 3 (by decide))⟩ : Ok4 d)
    refine ⟨o, fun ord L => ?_⟩
    obtain ⟨m, h1, h2⟩ := S.b4 hm
    exact cyc_short (gn o.1 o.2.1) h1 h2 L
  | 5, _ =>
    have o := (⟨S.n0 (out 0 (by decide)), S.n1 (out 1 (by decide)), S.n2 (out 2 (by decide)), S.n3 (out 3 (by decide))⟩ : Ok4 d)
    refine ⟨o, fun ord L => ?_⟩
    obtain ⟨rank, hr⟩ := S.n4 (.inr (h5 rfl))
    obtain ⟨r1, r2⟩ := rank_all hr L
    exact ⟨r1, chain_deep (gn o.1 o.2.1) (S.b5 hm) L r2⟩
theorem Sd.good (S : Sd [] d) : Ok4 d ∧ ∀ ord, LOrd (needN d) ord → ord.length = d.gates.length ∧ ¬ DeepP (needN d) ord := by
  have o := (⟨S.n0 (by intro z; cases z), S.n1 (by intro z; cases z), S.n2 (by intro z; cases z), S.n3 (by intro z; cases z)⟩ : Ok4 d)
  refine ⟨o, fun ord L => ?_⟩
  obtain ⟨rank, hr⟩ := S.n4 (.inl rfl)
  have h4 := S.gs
  rw [if_neg (by intro z; cases z)] at h4
  exact ⟨(rank_all hr L).1, few_shallow L (by rw [List.length_nil] at h4; omega)⟩
theorem sd_base {Gs : List GateD} (W : CircWf 6 d Gs) : Sd [] d ∧ ∀ x ∈ readsD d, x ∈ namesD d := by
  obtain ⟨hN, _⟩ := nets_of W (by decide)
  obtain ⟨ni, hi1, hi3, ei⟩ := W.ins
  obtain ⟨nr, hr3, er⟩ := W.regs
  obtain ⟨no, ho3, eo⟩ := W.outs
  have hG := W.few
  have none_ : ∀ {p : Prop} {q : Nat}, q ∈ ([] : List Nat) → p := fun h => nomatch h
  have pn : (namesD d).Perm (srcs d ++ gnames d) := by
    unfold namesD srcs gnames
    rw [List.perm_iff_count]
    intro a
    simp only [List.count_append]
    omega
  have hgl : d.gates.length ≤ 6 := by rw [W.perm.length_eq]; exact hG
  have hrl : d.regs.length = nr := by have := congrArg List.length er; rw [List.length_map, List.length_map, List.length_range] at this; exact this
  have hol : d.outs.length = no := by have := congrArg List.length eo; rw [List.length_map, List.length_map, List.length_range] at this; exact this
  have hgm : ∀ g ∈ d.gates, ∃ k, k < 6 ∧ GateWf (d.ins ++ d.regs.map (·.name) ++ (List.range k).map (nm "g")) k g := fun g hg => by
    obtain ⟨k, hk, e⟩ := List.getElem_of_mem (W.perm.mem_iff.mp hg)
    exact ⟨k, by omega, W.gates k g (List.getElem?_eq_some_iff.mpr ⟨hk, e⟩)⟩
  have kinds : ∀ x ∈ namesD d, ∃ k, k ≤ 16 ∧ (x = nm "i" k ∨ x = nm "g" k ∨ x = nm "r" k) := fun x hx => by
    unfold namesD at hx
    rcases List.mem_append.mp hx with h | h
    · rcases List.mem_append.mp h with h | h
      · rw [ei] at h
        obtain ⟨k, hk, e⟩ := List.mem_map.mp h
        exact ⟨k, by have := List.mem_range.mp hk; omega, .inl e.symm⟩
      · obtain ⟨g, hg, e⟩ := List.mem_map.mp h
        obtain ⟨k, hk, w⟩ := hgm g hg
        exact ⟨k, by omega, .inr (.inl (by rw [← e, w.name]))⟩
    · rw [er] at h
      obtain ⟨k, hk, e⟩ := List.mem_map.mp h
      exact ⟨k, by have := List.mem_range.mp hk; omega, .inr (.inr e.symm)⟩
  have lens : ∀ x ∈ namesD d, x.length ≤ 10 := fun x hx => by
    obtain ⟨k, hk, e | e | e⟩ := kinds x hx <;> rw [e] <;> exact nm_len rfl (by omega)
  have sub : ∀ x ∈ d.ins ++ d.regs.map (·.name) ++ (List.range Gs.length).map (nm "g"), x ∈ namesD d := fun x hx => by
    unfold namesD
    rcases List.mem_append.mp hx with h | h
    · rcases List.mem_append.mp h with h | h
      · exact List.mem_append_left _ (List.mem_append_left _ h)
      · exact List.mem_append_right _ h
    · obtain ⟨k, hk, e⟩ := List.mem_map.mp h
      have hk := List.mem_range.mp hk
      have w := W.gates k _ (List.getElem?_eq_getElem hk)
      refine List.mem_append_left _ (List.mem_append_right _ (List.mem_map.mpr ⟨Gs[k], W.perm.mem_iff.mpr (List.getElem_mem hk), ?_⟩))
      rw [w.name]; exact e
  have net : ∀ x ∈ readsD d, x ∈ namesD d := fun x hx => by
    unfold readsD at hx
    rcases List.mem_append.mp hx with h | h
    · rcases List.mem_append.mp h with h | h
      · obtain ⟨g, hg, hx⟩ := List.mem_flatMap.mp h
        exact pn.mem_iff.mpr (hN.pins g hg x hx)
      · obtain ⟨r, hr, e⟩ := List.mem_map.mp h
        rw [← e]
        exact sub _ (W.rwf r hr).2
    · obtain ⟨o, ho, e⟩ := List.mem_map.mp h
      rw [← e]
      exact sub _ (W.onet o ho)
  refine ⟨⟨by rw [if_neg (by intro z; cases z), List.length_nil]; omega, ?_, fun x hx => ?_, fun x hx => .inl ?_, fun o ho => .inl ?_, ?_, fun _ => ⟨pn.nodup_iff.mpr hN.nd, ?_⟩, none_, fun _ g hg => ?_, none_, fun _ => net, none_, fun _ => ⟨fun g hg r hr => ?_, fun r hr => ?_⟩, none_, none_, fun _ => hN.rank, none_⟩, net⟩
  · refine ⟨?_, ?_, ?_⟩
    · rw [ei, List.length_map, List.length_range]; omega
    · omega
    · omega
  · rcases List.mem_append.mp hx with h | h
    · exact lens x h
    · exact lens x (net x h)
  · obtain ⟨k, hk, e | e | e⟩ := kinds x hx
    · rw [e]; exact .inl (hd_nm (c := "i") (z := 105) (r := []) rfl k)
    · rw [e]; exact .inr (.inr (hd_nm (c := "g") (z := 103) (r := []) rfl k))
    · rw [e]; exact .inr (.inl (hd_nm (c := "r") (z := 114) (r := []) rfl k))
  · have : o.1 ∈ d.outs.map (·.1) := List.mem_map.mpr ⟨o, ho, rfl⟩
    rw [eo] at this
    obtain ⟨k, hk, e⟩ := List.mem_map.mp this
    rw [← e]
    exact hd_nm (c := "p") (z := 112) (r := []) rfl k
  · rw [ei]
    exact List.mem_map.mpr ⟨0, List.mem_range.mpr (by omega), by decide⟩
  · rw [eo, List.nodup_iff_pairwise_ne, List.pairwise_map]
    exact List.nodup_range.imp fun h e => h (nm_injk e)
  · obtain ⟨k, hk, w⟩ := hgm g hg
    exact ⟨by have := w.few; omega, w.many, w.tab⟩
  · obtain ⟨k, hk, w⟩ := hgm g hg
    have := w.rng r hr
    exact ⟨this.1, this.2.2.1⟩
  · have w := (W.rwf r hr).1
    exact ⟨⟨⟨w.e0.1, w.e1.1⟩, w.o0.1, by have := w.o1.1; omega⟩, w.su.1, w.ho.1, w.ho.2⟩
end
end G
namespace G
open PySem PySem.Spec PyProof.Rows L2 Evl TL
theorem flat_strsC (l : List Str) : (l.map V.str).all flatV = true := by
  rw [List.all_eq_true]
  intro y hy
  obtain ⟨k, _, rfl⟩ := List.mem_map.mp hy
  rfl
theorem inV_strsC {x : Str} {l : List Str} : inV (.str x) (l.map V.str) = decide (x ∈ l) := by
  unfold inV
  rw [List.any_map, Bool.eq_iff_iff, List.any_eq_true, decide_eq_true_iff]
  constructor
  · rintro ⟨y, hy, h⟩
    have h' : (y == x) = true := h
    rw [← eq_of_beq h']; exact hy
  · intro h
    exact ⟨x, h, (beq_self_eq_true x : (x == x) = true)⟩
theorem it1C {b : Bool} {A B : Prop} (h : b = true) (a : A) : if b = true then A else B := by rw [if_pos h]; exact a
theorem it0C {b : Bool} {A B : Prop} (h : b = false) (a : B) : if b = true then A else B := by rw [if_neg (by rw [h]; decide)]; exact a
/-- the names of the gates of a cycle -/
def wayN (d : CircD) (way : List Nat) : List Str := way.map fun k => (gnames d).getD k ""
theorem way_at {d : CircD} {way : List Nat} {j k : Nat} (h : way[j]? = some k) : (wayN d way)[j]? = some ((gnames d).getD k "") := by unfold wayN; rw [List.getElem?_map, h]; rfl
theorem gn_at {d : CircD} {k : Nat} {g : GateD} (h : d.gates[k]? = some g) : (gnames d).getD k "" = g.name := by unfold gnames; rw [List.getD_eq_getElem?_getD, List.getElem?_map, h]; rfl
section
variable {P : Program} {w : World} {K : PySem.W.Frag} {mg : Str → Option Value} {base : Heap}
def spLCyc : Sp := fun vs H Q _ => ∃ (c tp : Addr) (d : CircD) (it gt rt ot : Addr) (ga ra oa : List Addr) (ord way : List Nat), vs = [.ref c, .ref tp] ∧ CircAt H c d it gt rt ot ga ra oa ∧ GN d ∧ H tp = some (.tup ((wayN d way).map V.str)) ∧ CycOk (needN d) ord way ∧ ∀ H', Ex H H' → Q (.bl true) H'
theorem sc_law_cycle : FnScope ["circuit", "names", "known", "gate", "k"] ["circuit", "names"] (defScope s_law_cycle) := ⟨rfl, rfl, rfl, by decide +kernel, rfl, by decide +kernel, by decide +kernel⟩
theorem ok_law_cycle (D : Dfd K mg "_law_cycle" s_law_cycle ["circuit", "names"]) (T : TxtS mg) : HasH P w K mg base 1 "_law_cycle" ["circuit", "names"] spLCyc := by
  refine D.hasH fun f fd F => F.okH sc_law_cycle (fun vs H Q E h => ?_) (fun cdv A outer s H vs Q E p hr hh h => ?_)
  · obtain ⟨c, tp, d, it, gt, rt, ot, ga, ra, oa, ord, way, rfl, _⟩ := h
    rfl
  · obtain ⟨c, tp, d, it, gt, rt, ot, ga, ra, oa, ord, way, rfl, hc, hN, htp, hC, q⟩ := h
    refine ⟨_, (pss_cons (ps_if (PW.pt (pw_or (pt_not (pt_val (pe_callB call_isi (by rfl) T.isinstance (by decide +kernel) (pa_cons (pv 1) (pa_cons (pe_bltn (v := .ty "tuple") (by rfl) T.tuple (by decide +kernel) rfl) pa_nil))))) (pw_or1 (pt_cmpR op_eq (pe_callB call_len_seq (by rfl) T.len (by decide +kernel) (pa_cons (pv 1) pa_nil)) pe_int (nomark _)))))
      (pss_one (ps_ret pe_bl))
      pss_nil)
    (pss_cons (ps_set (i := 2) sc_law_cycle.nd rfl (.inl rfl) pe_dnewK)
    (pss_cons (L2H.ps_forH PassesOwn.never hh (HX.pit (pe_ix ix_tup (pv 0) pe_int (fun _ _ => rfl))) (pg_name (i := 3) sc_law_cycle.nd rfl (.inl rfl))
      (pss_one (ps_asg (pe_ix ix_tup (pv 3) pe_int (fun _ _ => rfl)) (pg_sub (pv 2) (pe_ix ix_tup (pv 3) pe_int (fun _ _ => rfl)) (set_dict (hu_ofH hr))))))
    (pss_cons (L2H.ps_forH PassesOwn.never hh (L2H.pi_range1H rfl T.range (pa_cons (pe_callB call_len_seq (by rfl) T.len (by decide +kernel) (pa_cons (pv 1) pa_nil)) pa_nil)) (pg_name (i := 4) sc_law_cycle.nd rfl (.inl rfl))
      (pss_one (ps_if (PW.pt (pw_or (pt_cmp (pc_dnotin (hu_ofH hr) (pe_ix ix_tup (pv 1) (pv 4) (fun _ _ => rfl)) (pv 2))) (pw_or (pt_cmpR op_in_seq (pe_ix ix_tup (pv 1) (pv 4) (fun _ _ => rfl)) (pe_slice sl_tupA (pv 1) po_none (po_some (pv 4))) (by rfl)) (pw_or1 (pt_cmpR op_notIn_seq (pe_ix ix_tup (pv 1) (pe_op op_mod (pe_callTy call_int1 (by rfl) T.int (by decide +kernel) (pa_cons (pe_op op_add (pv 4) pe_int) pa_nil)) (pe_callB call_len_seq (by rfl) T.len (by decide +kernel) (pa_cons (pv 1) pa_nil))) (fun _ _ => rfl)) (pe_dget (hu_ofH hr) (pv 2) (pe_ix ix_tup (pv 1) (pv 4) (fun _ _ => rfl)) (fun _ _ => rfl)) (by rfl))))))
        (pss_one (ps_ret pe_bl))
        pss_nil)))
    (pss_one (ps_ret pe_bl)))))), ?_⟩
    have hgl := hc.gates.1
    have hwl := nodup_len _ way hC.nd hC.lt
    rw [need_len] at hwl
    have hfew := hN.few
    have hwn : (wayN d way).length = way.length := List.length_map _
    have hw0 : 0 < way.length := List.length_pos_iff.mpr hC.ne
    have hlt : ∀ k ∈ way, k < d.gates.length := fun k hk => by have := hC.lt k hk; rw [need_len] at this; exact this
    have hlen : ((wayN d way).map V.str).length = way.length := by rw [List.length_map, hwn]
    refine ⟨_, rfl, _, _, _, _, _, rfl, .ty "tuple", .base (.tup htp), kit_ty (a := "tuple") (r := true) (by decide +kernel), _, rfl, iteF ⟨_, rfl, _, _, rfl, .inr (SqT.of htp), rfl, _, rfl, it0C (decide_eq_false fun z => by rw [hlen] at z; injection z with z; omega) ?_⟩⟩
    refine fun KD nKD => ?_
    have E1 := Ex.new (o := .dK []) nKD
    have hKD : (upd H KD (.dK [])) KD = some (.dK []) := upd_same
    generalize upd H KD (.dK []) = H1 at *
    refine ⟨_, rfl, _, _, _, _, rfl, rfl, SqT.of (E1 _ _ hc.top), atI_nat (j := 1) rfl, gt, rfl, ⟨_, SqT.of (E1 _ _ hc.gts)⟩, for_tup (K := K) (a := gt) (xs := ga.map V.ref)
      (fun i σ H' => Ex H H' ∧ ∃ es : List (Key × V), H' KD = some (.dK es) ∧ es.length ≤ i ∧ (∀ (j : Nat) (g : GateD), j < i → d.gates[j]? = some g → ∃ pt, H pt = some (.tup (g.pins.map V.str)) ∧ valV es (.inr g.name) = some (.ref pt)) ∧ ∃ z3 : Option V, σ = [some (.ref c), some (.ref tp), some (.ref KD), z3, none])
      ⟨E1, [], hKD, Nat.le_refl _, (fun j g h => absurd h (Nat.not_lt_zero _)), _, rfl⟩ (fun i σ H' _ g => SqT.of (g.1 _ _ hc.gts)) ?_ ?_⟩
    · rintro i x σ H2 hx ⟨E2, es, hD, hel, hall, z3, rfl⟩
      obtain ⟨b, hb, rfl⟩ := refs_get hx
      obtain ⟨g, hg, t, pt, rgt, rga, a1, a2, a3, a4, a5⟩ := hc.gates.at_ hb
      have hi : i < d.gates.length := (List.getElem?_eq_some_iff.mp hg).1
      refine ⟨_, rfl, _, _, _, _, rfl, rfl, SqT.of (E2 _ _ a1), atI_nat (j := 2) rfl, _, rfl, _, rfl, _, _, _, _, rfl, rfl, SqT.of (E2 _ _ a1), atI_nat (j := 0) rfl, KD, _, rfl, .inl ⟨es, .inr g.name, hD, rfl, sz_lt (by omega), rfl⟩, E2.mut nKD, _, upd_same, Nat.le_trans (length_putK _ _ _) (Nat.succ_le_succ hel), fun j g' hj hg' => ?_, _, rfl⟩
      rw [valV_put]
      rcases Nat.lt_succ_iff_lt_or_eq.mp hj with z | z
      · obtain ⟨pt', h1, h2⟩ := hall j g' z hg'
        refine ⟨pt', h1, ?_⟩
        rw [if_neg fun y => ?_]
        · exact h2
        · have y := Sum.inr.inj y
          have e1 : (gnames d)[j]? = some g'.name := by unfold gnames; rw [List.getElem?_map, hg']; rfl
          have e2 : (gnames d)[i]? = some g.name := by unfold gnames; rw [List.getElem?_map, hg]; rfl
          rw [y] at e1
          obtain ⟨l1, x1⟩ := List.getElem?_eq_some_iff.mp e1
          obtain ⟨l2, x2⟩ := List.getElem?_eq_some_iff.mp e2
          have := (List.getElem_inj hN.nd).mp (x1.trans x2.symm)
          omega
      · subst z
        rw [hg] at hg'
        cases hg'
        exact ⟨pt, a3, by rw [if_pos rfl]⟩
    rintro σ H2 ⟨E2, es, hD, hel, hall, z3, rfl⟩
    rw [List.length_map, hgl] at hall
    have htp2 := E2 _ _ htp
    refine ⟨_, rfl, _, _, rfl, .inr (SqT.of htp2), _, rfl, by omega, by rw [hlen]; omega, for_range (n := ((((wayN d way).map V.str).length : Nat) : Int).toNat)
      (fun k σ H' => Ex H2 H' ∧ ∃ z4 : Option V, σ = [some (.ref c), some (.ref tp), some (.ref KD), z3, z4]) ⟨.refl _, _, rfl⟩ ?_ ?_⟩
    · rintro k σ H3 hk ⟨E3, z4, rfl⟩
      rw [Int.toNat_natCast, hlen] at hk
      rw [Int.zero_add]
      obtain ⟨u, hu⟩ : ∃ u, way[k]? = some u := ⟨_, List.getElem?_eq_getElem hk⟩
      have hul := hlt u (List.mem_of_getElem? hu)
      obtain ⟨g, hg⟩ : ∃ g, d.gates[u]? = some g := ⟨_, List.getElem?_eq_getElem hul⟩
      have hname : (wayN d way)[k]? = some g.name := by rw [way_at hu, gn_at hg]
      have hnV : ((wayN d way).map V.str)[k]? = some (.str g.name) := by rw [List.getElem?_map, hname]; rfl
      obtain ⟨pt, hpt, hval⟩ := hall u g hul hg
      have htp3 := E3 _ _ htp2
      have hD3 := E3 _ _ hD
      have hget : DGet H3 KD (kV (Sum.inr g.name)) (some (.ref pt)) := by
        have := DGet.k (k := Sum.inr g.name) hD3
        rw [hval] at this
        exact this
      refine ⟨_, rfl, _, rfl, _, _, _, _, rfl, rfl, SqT.of htp3, at_of (j := k) rfl hnV, _, rfl, KD, _, rfl, hget, _, rfl, iteF ?_⟩
      refine ⟨_, rfl, _, rfl, _, _, _, _, rfl, rfl, SqT.of htp3, at_of (j := k) rfl hnV, _, rfl, ?_⟩
      unfold tNoPart
      dsimp only
      refine ⟨_, rfl, _, rfl, cut_tup (K := K) htp3 fun cc H4 E4 hcc => ?_⟩
      rw [cutV_head (by rw [hlen]; omega), ← List.map_take] at hcc
      have htp4 := E4 _ _ htp3
      have hget4 : DGet H4 KD (kV (Sum.inr g.name)) (some (.ref pt)) := by
        have := DGet.k (k := Sum.inr g.name) (E4 _ _ hD3)
        rw [hval] at this
        exact this
      refine ⟨cc, _, rfl, .inr (SqT.of hcc), rfl, flat_strsC _, ?_⟩
      rw [if_neg Bool.false_ne_true, inV_strsC]
      have hnot : g.name ∉ (wayN d way).take k := fun z => by
        obtain ⟨j, hj, e⟩ := List.getElem_of_mem z
        rw [List.length_take] at hj
        rw [List.getElem_take] at e
        obtain ⟨v, hv⟩ : ∃ v, way[j]? = some v := ⟨_, List.getElem?_eq_getElem (by omega)⟩
        have hvl := hlt v (List.mem_of_getElem? hv)
        obtain ⟨g2, hg2⟩ : ∃ g2, d.gates[v]? = some g2 := ⟨_, List.getElem?_eq_getElem hvl⟩
        have e3 : (wayN d way)[j]? = some g2.name := by rw [way_at hv, gn_at hg2]
        have e4 : (wayN d way)[j]? = some g.name := List.getElem?_eq_some_iff.mpr ⟨by omega, e⟩
        rw [e3] at e4
        have e5 := Option.some.inj e4
        have n1 : (gnames d)[v]? = some g2.name := by unfold gnames; rw [List.getElem?_map, hg2]; rfl
        have n2 : (gnames d)[u]? = some g.name := by unfold gnames; rw [List.getElem?_map, hg]; rfl
        rw [e5] at n1
        obtain ⟨l1, x1⟩ := List.getElem?_eq_some_iff.mp n1
        obtain ⟨l2, x2⟩ := List.getElem?_eq_some_iff.mp n2
        have huv := (List.getElem_inj hN.nd).mp (x1.trans x2.symm)
        obtain ⟨m1, y1⟩ := List.getElem?_eq_some_iff.mp hv
        obtain ⟨m2, y2⟩ := List.getElem?_eq_some_iff.mp hu
        have := (List.getElem_inj hC.nd).mp (y1.trans (huv.trans y2.symm))
        omega
      refine ⟨_, rfl, it0C (decide_eq_false hnot) ?_⟩
      -- the next one
      have hmod : (((k : Nat) : Int) + 1) % ((way.length : Nat) : Int) = (((k + 1) % way.length : Nat) : Int) := by rw [Int.natCast_emod]; rfl
      have hml : (k + 1) % way.length < way.length := Nat.mod_lt _ hw0
      obtain ⟨v, hv⟩ : ∃ v, way[(k + 1) % way.length]? = some v := ⟨_, List.getElem?_eq_getElem hml⟩
      have hvl := hlt v (List.mem_of_getElem? hv)
      obtain ⟨g2, hg2⟩ : ∃ g2, d.gates[v]? = some g2 := ⟨_, List.getElem?_eq_getElem hvl⟩
      have hname2 : ((wayN d way).map V.str)[(k + 1) % way.length]? = some (.str g2.name) := by rw [List.getElem?_map, way_at hv, gn_at hg2]; rfl
      have hneed : v ∈ (needN d).getD u [] := by
        refine hC.nx k u v hu ?_
        by_cases e : k + 1 = way.length
        · rw [e, List.getElem?_append_right (Nat.le_refl _), Nat.sub_self]
          rw [e, Nat.mod_self] at hv
          cases hwy : way with
          | nil => rw [hwy] at hv; cases hv
          | cons a r => rw [hwy] at hv; exact hv
        · rw [Nat.mod_eq_of_lt (by omega)] at hv
          rw [List.getElem?_append_left (by omega)]; exact hv
      have hpin : g2.name ∈ g.pins := by
        rw [need_at hg] at hneed
        obtain ⟨x, hx, e⟩ := List.mem_map.mp hneed
        obtain ⟨hx1, hx2⟩ := List.mem_filter.mp hx
        have hxl := List.idxOf_lt_length_iff.mpr (of_decide_eq_true hx2)
        have n1 : (gnames d)[v]? = some g2.name := by unfold gnames; rw [List.getElem?_map, hg2]; rfl
        have n2 : (gnames d)[(gnames d).idxOf x]? = some x := by rw [List.getElem?_eq_getElem hxl]; exact congrArg some (List.getElem_idxOf hxl)
        rw [e, n1] at n2
        rw [Option.some.inj n2]; exact hx1
      refine ⟨_, rfl, _, rfl, _, _, rfl, rfl, .inl ⟨_, rfl, _, rfl, _, _, rfl, .inr (SqT.of htp4), _, _, rfl, rfl, by rw [hlen]; omega, tp, _, _, .str g2.name, rfl, rfl, SqT.of htp4, at_of (j := (k + 1) % way.length) (by rw [hlen]; exact hmod) hname2, ?_⟩⟩
      refine ⟨_, rfl, _, rfl, _, rfl, _, _, _, _, rfl, rfl, SqT.of htp4, at_of (j := k) rfl hnV, KD, _, rfl, hget4, pt, _, rfl, .inr (SqT.of ((E2.trans (E3.trans E4)) _ _ hpt)), rfl, flat_strsC _, ?_⟩
      rw [if_pos rfl, inV_strsC, decide_eq_true hpin]
      exact ⟨_, rfl, iteF ⟨E3.trans E4, _, rfl⟩⟩
    · rintro σ H3 ⟨E3, z4, rfl⟩
      exact q _ (E2.trans E3)
end
end G
namespace G
open PySem PySem.Spec PyProof.Rows L2 Evl TL
theorem shaped_blsC (l : List Bool) : SeqAt.shaped (.list (l.map PyData.bool)) = true := by
  have : PyData.canLayAll0 (l.map PyData.bool) = true ∧ PyData.depthAll (l.map PyData.bool) = 0 := by
    induction l with
    | nil => exact ⟨rfl, rfl⟩
    | cons x xs ih => exact ⟨by show (true && PyData.canLayAll0 _) = true; rw [ih.1]; rfl, by show max 0 (PyData.depthAll _) = 0; rw [ih.2]; rfl⟩
  simp [SeqAt.shaped, PyData.canLay0, PyData.depth, this.1, this.2]
theorem dp_blsC {K : PySem.W.Frag} {H : Hp} {a : Addr} {l : List Bool} (h : H a = some (.lst (l.map V.bl))) : Dp K H (.ref a) (.list (l.map PyData.bool)) := .lst (SqL.of h) (dpAll_map (fun x => .bl x) l)
/-- what isinstance says of an error of the class C -/
structure Six (K : PySem.W.Frag) (C Cn Cw Cu Cr Lc Dc S : Addr) (b0 b1 b2 b3 b4 b5 : Bool) : Prop where
  isc : ExcC K C
  k0 : PySem.W.kitOne K (.ref C) (.ref Cn) = some b0
  k1 : PySem.W.kitOne K (.ref C) (.ref Cw) = some b1
  k2 : PySem.W.kitOne K (.ref C) (.ref Cu) = some b2
  k3 : PySem.W.kitOne K (.ref C) (.ref Cr) = some b3
  k4 : PySem.W.kitOne K (.ref C) (.ref Lc) = some b4
  k5 : PySem.W.kitOne K (.ref C) (.ref Dc) = some b5
  hit : PySem.W.exmOne K (.ref C) (.ref S) = some true
section
variable {P : Program} {w : World} {K : PySem.W.Frag} {mg : Str → Option Value} {base : Heap}
def spTold : Sp := fun vs H Q _ => ∃ (c : Addr) (m : Nat) (d : CircD) (it gt rt ot : Addr) (ga ra oa : List Addr), vs = [.ref c, .int (m : Int)] ∧ m < 6 ∧ CircAt H c d it gt rt ot ga ra oa ∧ FewD d ∧ Brk m d ∧ ∀ H', Ex H H' → Q (.bl true) H'
theorem sc_law_told : FnScope ["circuit", "rule", "e", "kinds", "k"] ["circuit", "rule"] (defScope s_law_told) := ⟨rfl, rfl, rfl, by decide +kernel, rfl, by decide +kernel, by decide +kernel⟩
theorem ok_law_told {Cn Cw Cu Cr Lc Dc S : Addr} (D : Dfd K mg "_law_told" s_law_told ["circuit", "rule"]) (T : TxtS mg) (g_NameClash : mg "NameClash" = some (.ref Cn)) (g_WrongCount : mg "WrongCount" = some (.ref Cw)) (g_UnknownName : mg "UnknownName" = some (.ref Cu)) (g_BadRange : mg "BadRange" = some (.ref Cr))
    (g_Looped : mg "Looped" = some (.ref Lc)) (g_TooDeep : mg "TooDeep" = some (.ref Dc)) (gS : mg "SignoffError" = some (.ref S)) (nL : PySem.W.findIn K (.ref Lc) "names" = some none)
    (t0 : Six K Cn Cn Cw Cu Cr Lc Dc S true false false false false false) (t1 : Six K Cw Cn Cw Cu Cr Lc Dc S false true false false false false) (t2 : Six K Cu Cn Cw Cu Cr Lc Dc S false false true false false false) (t3 : Six K Cr Cn Cw Cu Cr Lc Dc S false false false true false false)
    (t4 : Six K Lc Cn Cw Cu Cr Lc Dc S false false false false true false) (t5 : Six K Dc Cn Cw Cu Cr Lc Dc S false false false false false true)
    (C1 : HasN P w K mg base 5 "check_circuit" ["circuit"] (spCkD Cn Cw Cu Cr Dc Lc)) (C2 : HasH P w K mg base 1 "_law_cycle" ["circuit", "names"] spLCyc) : Has P w K mg base 6 "_law_told" ["circuit", "rule"] spTold := by
  obtain ⟨f_check_circuit, d_check_circuit, G_check_circuit, g_check_circuit, k_check_circuit, b_check_circuit⟩ := C1
  obtain ⟨f_law_cycle, d_law_cycle, G_law_cycle, g_law_cycle, k_law_cycle, b_law_cycle⟩ := C2
  have XL : XfC K Lc := ⟨t4.isc.hg, t4.isc.hk, t4.isc.hs, t4.isc.hd⟩
  refine D.has fun f fd F => F.ok sc_law_told (fun vs H Q E h => ?_) (fun cdv A outer s H vs Q E hr h => ?_)
  · obtain ⟨c, m, d, it, gt, rt, ot, ga, ra, oa, rfl, _⟩ := h
    rfl
  · obtain ⟨c, m, d, it, gt, rt, ot, ga, ra, oa, rfl, hm, hc, hf, hB, q⟩ := h
    refine ⟨_, (pss_cons (L2N.ps_try_as (c := .ref S) (i := 2) rfl rfl sc_law_told.nd rfl rfl ⟨rfl, by decide, .inl gS⟩ takesN0
      (fun W pn xe tk hp => (pss_one (ps_expr (pe_callS G_check_circuit (hr.mono (by omega)) rfl g_check_circuit k_check_circuit b_check_circuit (fun σ => L2N.passAt tk σ) (pa_cons (pv 0) pa_nil)))))
      (fun a oe cls dd pn hz hf => (pss_cons (ps_set (i := 3) sc_law_told.nd rfl (.inl rfl) (pe_lst (pa_cons (pe_isED hz.zc hf (fun D hz1 ic => pe_callB (call_isED ic hz1 hf) (by rfl) T.isinstance (by decide +kernel) (pa_cons (pv 2) (pa_cons (gRef rfl g_NameClash) pa_nil)))) (pa_cons (pe_isED hz.zc hf (fun D hz1 ic => pe_callB (call_isED ic hz1 hf) (by rfl) T.isinstance (by decide +kernel) (pa_cons (pv 2) (pa_cons (gRef rfl g_WrongCount) pa_nil)))) (pa_cons (pe_isED hz.zc hf (fun D hz1 ic => pe_callB (call_isED ic hz1 hf) (by rfl) T.isinstance (by decide +kernel) (pa_cons (pv 2) (pa_cons (gRef rfl g_UnknownName) pa_nil)))) (pa_cons (pe_isED hz.zc hf (fun D hz1 ic => pe_callB (call_isED ic hz1 hf) (by rfl) T.isinstance (by decide +kernel) (pa_cons (pv 2) (pa_cons (gRef rfl g_BadRange) pa_nil)))) pa_nil))))))
        (pss_cons (ps_set (i := 3) sc_law_told.nd rfl (.inl rfl) (pe_op op_cat (pv 3) (pe_lst (pa_cons (pe_isED hz.zc hf (fun D hz1 ic => pe_callB (call_isED ic hz1 hf) (by rfl) T.isinstance (by decide +kernel) (pa_cons (pv 2) (pa_cons (gRef rfl g_Looped) pa_nil)))) (pa_cons (pe_isED hz.zc hf (fun D hz1 ic => pe_callB (call_isED ic hz1 hf) (by rfl) T.isinstance (by decide +kernel) (pa_cons (pv 2) (pa_cons (gRef rfl g_TooDeep) pa_nil)))) pa_nil)))))
        (pss_cons (ps_if (pt_cmpR (opNeK (K := K) rfl hr.units) (pv 3) (HX.pe_lcH (own := [("k", 4)]) (g := gName 4) (tt := tYes) (hot_suite hz hf) sc_law_told.nd (HX.pia_range1 rfl T.range (pa_cons pe_int pa_nil)) (blkOk_by (N := ["circuit", "rule", "e", "kinds", "k"]) (sc := defScope s_law_told) (own := [("k", 4)]) (by decide +kernel)) (fun _ _ _ _ _ => (pg_name (i := 4) sc_law_told.nd rfl (.inl rfl))) (fun _ _ _ _ _ => pts_nil) (fun _ _ _ _ _ => (pe_cmpR op_eq (pv 4) (pv 1) (nomark _)))) (nomark _))
          (pss_one (ps_ret pe_bl))
          pss_nil)
        (pss_one (ps_ret (pe_or (pe_cmpR op_ne (pv 1) pe_int (nomark _)) (pe_one (L2H.pe_callH (E := noE) G_law_cycle (roomS (hr.mono (by omega))) (hot_suite hz hf) (by rfl) g_law_cycle k_law_cycle b_law_cycle passS (pa_cons (pv 0) (pa_cons (pe_xf XL nL hz.zc hf (pv 2)) pa_nil))))))))))))
    (pss_one (ps_ret pe_bl))), ?_⟩
    refine ⟨_, rfl, c, d, it, gt, rt, ot, ga, ra, oa, rfl, hc, hf, fun e0 H0 E0 => ?_, fun e0 e1 H0 E0 => ?_, fun e0 e1 e2 H0 E0 => ?_, fun e0 e1 e2 e3 H0 E0 => ?_, fun e0 e1 e2 e3 ord hL => ⟨fun el en H0 E0 => ?_, fun el ed H0 E0 => ?_, fun el H1 dd tp way E1 nd hC htp => ?_⟩⟩
    · have hm0 : m = 0 := by
        match m, hm, hB with
        | 0, _, _ => rfl
        | 1, _, hB => exact False.elim (e0 hB.1)
        | 2, _, hB => exact False.elim (e0 hB.1)
        | 3, _, hB => exact False.elim (e0 hB.1)
        | 4, _, hB => exact False.elim (e0 hB.1.1)
        | 5, _, hB => exact False.elim (e0 hB.1.1)
      subst hm0
      refine ⟨true, t0.hit, fun _ a na => ?_, fun q => nomatch q⟩
      have hdc : ∀ H2, Ex H0 H2 → DictS none H2 := fun _ _ d' e => by cases e
      refine ⟨Cn, ⟨rfl, t0.isc⟩, _, rfl, hdc _ (Ex.refl _), .ref Cn, .ref Cn, true, rfl, (fun u hu => hu), t0.k0, Cn, ⟨rfl, t0.isc⟩, _, rfl, hdc _ (Ex.refl _), .ref Cw, .ref Cw, false, rfl, (fun u hu => hu), t0.k1, Cn, ⟨rfl, t0.isc⟩, _, rfl, hdc _ (Ex.refl _), .ref Cu, .ref Cu, false, rfl, (fun u hu => hu), t0.k2, Cn, ⟨rfl, t0.isc⟩, _, rfl, hdc _ (Ex.refl _), .ref Cr, .ref Cr, false, rfl, (fun u hu => hu), t0.k3, (by show 4 ≤ sizeLine; decide), fun l1 n1 => ?_⟩
      have F1 := Ex.new (o := .lst [.bl true, .bl false, .bl false, .bl false]) n1
      have hl1 : upd H0 l1 (.lst [.bl true, .bl false, .bl false, .bl false]) l1 = some (.lst [.bl true, .bl false, .bl false, .bl false]) := upd_same
      generalize upd H0 l1 (.lst [.bl true, .bl false, .bl false, .bl false]) = G1 at *
      refine ⟨_, rfl, Cn, ⟨rfl, t0.isc⟩, _, rfl, hdc _ F1, .ref Lc, .ref Lc, false, rfl, (fun u hu => hu), t0.k4, Cn, ⟨rfl, t0.isc⟩, _, rfl, hdc _ F1, .ref Dc, .ref Dc, false, rfl, (fun u hu => hu), t0.k5, (by show 2 ≤ sizeLine; decide), fun l2 n2 => ⟨l1, l2, _, _, rfl, rfl, Ex.new n2 _ _ hl1, upd_same, (by show 6 ≤ sizeLine; decide), fun l3 n3 => ?_⟩⟩
      have F3 := F1.trans ((Ex.new (o := .lst [.bl false, .bl false]) n2).trans (Ex.new (o := .lst ([V.bl true, V.bl false, V.bl false, V.bl false] ++ [V.bl false, V.bl false])) n3))
      have hl3 : upd (upd G1 l2 (.lst [.bl false, .bl false])) l3 (.lst ([V.bl true, V.bl false, V.bl false, V.bl false] ++ [V.bl false, V.bl false])) l3 = some (.lst (([true, false, false, false, false, false] : List Bool).map V.bl)) := upd_same
      generalize upd (upd G1 l2 (.lst [.bl false, .bl false])) l3 (.lst ([V.bl true, V.bl false, V.bl false, V.bl false] ++ [V.bl false, V.bl false])) = G3 at *
      refine ⟨_, rfl, 6, rfl, by decide, by decide, fun RL nRL => wk_it walk_range (fun j H' => Ex G3 H' ∧ H' RL = some (.lst (((List.range j).map fun k => decide ((k : Nat) = 0)).map V.bl))) ⟨Ex.new nRL, upd_same⟩ (fun _ _ _ _ => trivial) ?_ ?_⟩
      · rintro j x H5 H6 hj ⟨E5, hR⟩ ⟨rfl, ez⟩
        have ez := ez.trans (show V.int (0 + (j : Int)) = .int (j : Nat) by rw [Int.zero_add])
        subst ez
        have hj : j < 6 := hj
        refine ⟨rfl, tYes_in ?_⟩
        simp only [wipe, _root_.L2.start, List.map_cons, List.map_nil, List.length_cons, List.length_nil, Nat.reduceAdd, Nat.reduceSub, List.replicate_succ, List.replicate_zero, List.cons_append, List.nil_append, List.set_cons_zero, List.set_cons_succ]
        refine ⟨_, rfl, _, rfl, rfl, _, hR, sz_lt (by rw [List.length_map, List.length_map, List.length_range]; omega), E5.mut nRL, ?_⟩
        rw [upd_same, List.range_succ, List.map_append, List.map_append]
        have eb : decide (V.int ((j : Nat) : Int) = V.int ((0 : Nat) : Int)) = decide (j = 0) := by
          rw [decide_eq_decide, V.int.injEq]
          omega
        exact congrArg (fun b => some (HO.lst (_ ++ [V.bl b]))) eb
      · rintro H5 ⟨E5, hR⟩
        refine ⟨_, _, dp_blsC (E5 _ _ hl3), dp_blsC hR, shaped_blsC _, shaped_blsC _, _, rfl, it0C (by rfl) ?_⟩
        exact ⟨_, rfl, rfl, _, rfl, it1C (by rfl) (q _ ((E0).trans (F3.trans E5)))⟩
    · have hm0 : m = 1 := by
        match m, hm, hB with
        | 0, _, hB => exact False.elim (hB e0)
        | 1, _, _ => rfl
        | 2, _, hB => exact False.elim (e1 hB.2.1)
        | 3, _, hB => exact False.elim (e1 hB.2.1)
        | 4, _, hB => exact False.elim (e1 hB.1.2.1)
        | 5, _, hB => exact False.elim (e1 hB.1.2.1)
      subst hm0
      refine ⟨true, t1.hit, fun _ a na => ?_, fun q => nomatch q⟩
      have hdc : ∀ H2, Ex H0 H2 → DictS none H2 := fun _ _ d' e => by cases e
      refine ⟨Cw, ⟨rfl, t1.isc⟩, _, rfl, hdc _ (Ex.refl _), .ref Cn, .ref Cn, false, rfl, (fun u hu => hu), t1.k0, Cw, ⟨rfl, t1.isc⟩, _, rfl, hdc _ (Ex.refl _), .ref Cw, .ref Cw, true, rfl, (fun u hu => hu), t1.k1, Cw, ⟨rfl, t1.isc⟩, _, rfl, hdc _ (Ex.refl _), .ref Cu, .ref Cu, false, rfl, (fun u hu => hu), t1.k2, Cw, ⟨rfl, t1.isc⟩, _, rfl, hdc _ (Ex.refl _), .ref Cr, .ref Cr, false, rfl, (fun u hu => hu), t1.k3, (by show 4 ≤ sizeLine; decide), fun l1 n1 => ?_⟩
      have F1 := Ex.new (o := .lst [.bl false, .bl true, .bl false, .bl false]) n1
      have hl1 : upd H0 l1 (.lst [.bl false, .bl true, .bl false, .bl false]) l1 = some (.lst [.bl false, .bl true, .bl false, .bl false]) := upd_same
      generalize upd H0 l1 (.lst [.bl false, .bl true, .bl false, .bl false]) = G1 at *
      refine ⟨_, rfl, Cw, ⟨rfl, t1.isc⟩, _, rfl, hdc _ F1, .ref Lc, .ref Lc, false, rfl, (fun u hu => hu), t1.k4, Cw, ⟨rfl, t1.isc⟩, _, rfl, hdc _ F1, .ref Dc, .ref Dc, false, rfl, (fun u hu => hu), t1.k5, (by show 2 ≤ sizeLine; decide), fun l2 n2 => ⟨l1, l2, _, _, rfl, rfl, Ex.new n2 _ _ hl1, upd_same, (by show 6 ≤ sizeLine; decide), fun l3 n3 => ?_⟩⟩
      have F3 := F1.trans ((Ex.new (o := .lst [.bl false, .bl false]) n2).trans (Ex.new (o := .lst ([V.bl false, V.bl true, V.bl false, V.bl false] ++ [V.bl false, V.bl false])) n3))
      have hl3 : upd (upd G1 l2 (.lst [.bl false, .bl false])) l3 (.lst ([V.bl false, V.bl true, V.bl false, V.bl false] ++ [V.bl false, V.bl false])) l3 = some (.lst (([false, true, false, false, false, false] : List Bool).map V.bl)) := upd_same
      generalize upd (upd G1 l2 (.lst [.bl false, .bl false])) l3 (.lst ([V.bl false, V.bl true, V.bl false, V.bl false] ++ [V.bl false, V.bl false])) = G3 at *
      refine ⟨_, rfl, 6, rfl, by decide, by decide, fun RL nRL => wk_it walk_range (fun j H' => Ex G3 H' ∧ H' RL = some (.lst (((List.range j).map fun k => decide ((k : Nat) = 1)).map V.bl))) ⟨Ex.new nRL, upd_same⟩ (fun _ _ _ _ => trivial) ?_ ?_⟩
      · rintro j x H5 H6 hj ⟨E5, hR⟩ ⟨rfl, ez⟩
        have ez := ez.trans (show V.int (0 + (j : Int)) = .int (j : Nat) by rw [Int.zero_add])
        subst ez
        have hj : j < 6 := hj
        refine ⟨rfl, tYes_in ?_⟩
        simp only [wipe, _root_.L2.start, List.map_cons, List.map_nil, List.length_cons, List.length_nil, Nat.reduceAdd, Nat.reduceSub, List.replicate_succ, List.replicate_zero, List.cons_append, List.nil_append, List.set_cons_zero, List.set_cons_succ]
        refine ⟨_, rfl, _, rfl, rfl, _, hR, sz_lt (by rw [List.length_map, List.length_map, List.length_range]; omega), E5.mut nRL, ?_⟩
        rw [upd_same, List.range_succ, List.map_append, List.map_append]
        have eb : decide (V.int ((j : Nat) : Int) = V.int ((1 : Nat) : Int)) = decide (j = 1) := by
          rw [decide_eq_decide, V.int.injEq]
          omega
        exact congrArg (fun b => some (HO.lst (_ ++ [V.bl b]))) eb
      · rintro H5 ⟨E5, hR⟩
        refine ⟨_, _, dp_blsC (E5 _ _ hl3), dp_blsC hR, shaped_blsC _, shaped_blsC _, _, rfl, it0C (by rfl) ?_⟩
        exact ⟨_, rfl, rfl, _, rfl, it1C (by rfl) (q _ ((E0).trans (F3.trans E5)))⟩
    · have hm0 : m = 2 := by
        match m, hm, hB with
        | 0, _, hB => exact False.elim (hB e0)
        | 1, _, hB => exact False.elim (hB.2 e1)
        | 2, _, _ => rfl
        | 3, _, hB => exact False.elim (e2 hB.2.2.1)
        | 4, _, hB => exact False.elim (e2 hB.1.2.2.1)
        | 5, _, hB => exact False.elim (e2 hB.1.2.2.1)
      subst hm0
      refine ⟨true, t2.hit, fun _ a na => ?_, fun q => nomatch q⟩
      have hdc : ∀ H2, Ex H0 H2 → DictS none H2 := fun _ _ d' e => by cases e
      refine ⟨Cu, ⟨rfl, t2.isc⟩, _, rfl, hdc _ (Ex.refl _), .ref Cn, .ref Cn, false, rfl, (fun u hu => hu), t2.k0, Cu, ⟨rfl, t2.isc⟩, _, rfl, hdc _ (Ex.refl _), .ref Cw, .ref Cw, false, rfl, (fun u hu => hu), t2.k1, Cu, ⟨rfl, t2.isc⟩, _, rfl, hdc _ (Ex.refl _), .ref Cu, .ref Cu, true, rfl, (fun u hu => hu), t2.k2, Cu, ⟨rfl, t2.isc⟩, _, rfl, hdc _ (Ex.refl _), .ref Cr, .ref Cr, false, rfl, (fun u hu => hu), t2.k3, (by show 4 ≤ sizeLine; decide), fun l1 n1 => ?_⟩
      have F1 := Ex.new (o := .lst [.bl false, .bl false, .bl true, .bl false]) n1
      have hl1 : upd H0 l1 (.lst [.bl false, .bl false, .bl true, .bl false]) l1 = some (.lst [.bl false, .bl false, .bl true, .bl false]) := upd_same
      generalize upd H0 l1 (.lst [.bl false, .bl false, .bl true, .bl false]) = G1 at *
      refine ⟨_, rfl, Cu, ⟨rfl, t2.isc⟩, _, rfl, hdc _ F1, .ref Lc, .ref Lc, false, rfl, (fun u hu => hu), t2.k4, Cu, ⟨rfl, t2.isc⟩, _, rfl, hdc _ F1, .ref Dc, .ref Dc, false, rfl, (fun u hu => hu), t2.k5, (by show 2 ≤ sizeLine; decide), fun l2 n2 => ⟨l1, l2, _, _, rfl, rfl, Ex.new n2 _ _ hl1, upd_same, (by show 6 ≤ sizeLine; decide), fun l3 n3 => ?_⟩⟩
      have F3 := F1.trans ((Ex.new (o := .lst [.bl false, .bl false]) n2).trans (Ex.new (o := .lst ([V.bl false, V.bl false, V.bl true, V.bl false] ++ [V.bl false, V.bl false])) n3))
      have hl3 : upd (upd G1 l2 (.lst [.bl false, .bl false])) l3 (.lst ([V.bl false, V.bl false, V.bl true, V.bl false] ++ [V.bl false, V.bl false])) l3 = some (.lst (([false, false, true, false, false, false] : List Bool).map V.bl)) := upd_same
      generalize upd (upd G1 l2 (.lst [.bl false, .bl false])) l3 (.lst ([V.bl false, V.bl false, V.bl true, V.bl false] ++ [V.bl false, V.bl false])) = G3 at *
      refine ⟨_, rfl, 6, rfl, by decide, by decide, fun RL nRL => wk_it walk_range (fun j H' => Ex G3 H' ∧ H' RL = some (.lst (((List.range j).map fun k => decide ((k : Nat) = 2)).map V.bl))) ⟨Ex.new nRL, upd_same⟩ (fun _ _ _ _ => trivial) ?_ ?_⟩
      · rintro j x H5 H6 hj ⟨E5, hR⟩ ⟨rfl, ez⟩
        have ez := ez.trans (show V.int (0 + (j : Int)) = .int (j : Nat) by rw [Int.zero_add])
        subst ez
        have hj : j < 6 := hj
        refine ⟨rfl, tYes_in ?_⟩
        simp only [wipe, _root_.L2.start, List.map_cons, List.map_nil, List.length_cons, List.length_nil, Nat.reduceAdd, Nat.reduceSub, List.replicate_succ, List.replicate_zero, List.cons_append, List.nil_append, List.set_cons_zero, List.set_cons_succ]
        refine ⟨_, rfl, _, rfl, rfl, _, hR, sz_lt (by rw [List.length_map, List.length_map, List.length_range]; omega), E5.mut nRL, ?_⟩
        rw [upd_same, List.range_succ, List.map_append, List.map_append]
        have eb : decide (V.int ((j : Nat) : Int) = V.int ((2 : Nat) : Int)) = decide (j = 2) := by
          rw [decide_eq_decide, V.int.injEq]
          omega
        exact congrArg (fun b => some (HO.lst (_ ++ [V.bl b]))) eb
      · rintro H5 ⟨E5, hR⟩
        refine ⟨_, _, dp_blsC (E5 _ _ hl3), dp_blsC hR, shaped_blsC _, shaped_blsC _, _, rfl, it0C (by rfl) ?_⟩
        exact ⟨_, rfl, rfl, _, rfl, it1C (by rfl) (q _ ((E0).trans (F3.trans E5)))⟩
    · have hm0 : m = 3 := by
        match m, hm, hB with
        | 0, _, hB => exact False.elim (hB e0)
        | 1, _, hB => exact False.elim (hB.2 e1)
        | 2, _, hB => exact False.elim (hB.2.2 e2)
        | 3, _, _ => rfl
        | 4, _, hB => exact False.elim (e3 hB.1.2.2.2)
        | 5, _, hB => exact False.elim (e3 hB.1.2.2.2)
      subst hm0
      refine ⟨true, t3.hit, fun _ a na => ?_, fun q => nomatch q⟩
      have hdc : ∀ H2, Ex H0 H2 → DictS none H2 := fun _ _ d' e => by cases e
      refine ⟨Cr, ⟨rfl, t3.isc⟩, _, rfl, hdc _ (Ex.refl _), .ref Cn, .ref Cn, false, rfl, (fun u hu => hu), t3.k0, Cr, ⟨rfl, t3.isc⟩, _, rfl, hdc _ (Ex.refl _), .ref Cw, .ref Cw, false, rfl, (fun u hu => hu), t3.k1, Cr, ⟨rfl, t3.isc⟩, _, rfl, hdc _ (Ex.refl _), .ref Cu, .ref Cu, false, rfl, (fun u hu => hu), t3.k2, Cr, ⟨rfl, t3.isc⟩, _, rfl, hdc _ (Ex.refl _), .ref Cr, .ref Cr, true, rfl, (fun u hu => hu), t3.k3, (by show 4 ≤ sizeLine; decide), fun l1 n1 => ?_⟩
      have F1 := Ex.new (o := .lst [.bl false, .bl false, .bl false, .bl true]) n1
      have hl1 : upd H0 l1 (.lst [.bl false, .bl false, .bl false, .bl true]) l1 = some (.lst [.bl false, .bl false, .bl false, .bl true]) := upd_same
      generalize upd H0 l1 (.lst [.bl false, .bl false, .bl false, .bl true]) = G1 at *
      refine ⟨_, rfl, Cr, ⟨rfl, t3.isc⟩, _, rfl, hdc _ F1, .ref Lc, .ref Lc, false, rfl, (fun u hu => hu), t3.k4, Cr, ⟨rfl, t3.isc⟩, _, rfl, hdc _ F1, .ref Dc, .ref Dc, false, rfl, (fun u hu => hu), t3.k5, (by show 2 ≤ sizeLine; decide), fun l2 n2 => ⟨l1, l2, _, _, rfl, rfl, Ex.new n2 _ _ hl1, upd_same, (by show 6 ≤ sizeLine; decide), fun l3 n3 => ?_⟩⟩
      have F3 := F1.trans ((Ex.new (o := .lst [.bl false, .bl false]) n2).trans (Ex.new (o := .lst ([V.bl false, V.bl false, V.bl false, V.bl true] ++ [V.bl false, V.bl false])) n3))
      have hl3 : upd (upd G1 l2 (.lst [.bl false, .bl false])) l3 (.lst ([V.bl false, V.bl false, V.bl false, V.bl true] ++ [V.bl false, V.bl false])) l3 = some (.lst (([false, false, false, true, false, false] : List Bool).map V.bl)) := upd_same
      generalize upd (upd G1 l2 (.lst [.bl false, .bl false])) l3 (.lst ([V.bl false, V.bl false, V.bl false, V.bl true] ++ [V.bl false, V.bl false])) = G3 at *
      refine ⟨_, rfl, 6, rfl, by decide, by decide, fun RL nRL => wk_it walk_range (fun j H' => Ex G3 H' ∧ H' RL = some (.lst (((List.range j).map fun k => decide ((k : Nat) = 3)).map V.bl))) ⟨Ex.new nRL, upd_same⟩ (fun _ _ _ _ => trivial) ?_ ?_⟩
      · rintro j x H5 H6 hj ⟨E5, hR⟩ ⟨rfl, ez⟩
        have ez := ez.trans (show V.int (0 + (j : Int)) = .int (j : Nat) by rw [Int.zero_add])
        subst ez
        have hj : j < 6 := hj
        refine ⟨rfl, tYes_in ?_⟩
        simp only [wipe, _root_.L2.start, List.map_cons, List.map_nil, List.length_cons, List.length_nil, Nat.reduceAdd, Nat.reduceSub, List.replicate_succ, List.replicate_zero, List.cons_append, List.nil_append, List.set_cons_zero, List.set_cons_succ]
        refine ⟨_, rfl, _, rfl, rfl, _, hR, sz_lt (by rw [List.length_map, List.length_map, List.length_range]; omega), E5.mut nRL, ?_⟩
        rw [upd_same, List.range_succ, List.map_append, List.map_append]
        have eb : decide (V.int ((j : Nat) : Int) = V.int ((3 : Nat) : Int)) = decide (j = 3) := by
          rw [decide_eq_decide, V.int.injEq]
          omega
        exact congrArg (fun b => some (HO.lst (_ ++ [V.bl b]))) eb
      · rintro H5 ⟨E5, hR⟩
        refine ⟨_, _, dp_blsC (E5 _ _ hl3), dp_blsC hR, shaped_blsC _, shaped_blsC _, _, rfl, it0C (by rfl) ?_⟩
        exact ⟨_, rfl, rfl, _, rfl, it1C (by rfl) (q _ ((E0).trans (F3.trans E5)))⟩
    · exfalso
      match m, hm, hB with
      | 0, _, hB => exact hB e0
      | 1, _, hB => exact hB.2 e1
      | 2, _, hB => exact hB.2.2 e2
      | 3, _, hB => exact hB.2.2.2 e3
      | 4, _, hB => have := hB.2 ord hL; omega
      | 5, _, hB => exact en (hB.2 ord hL).2
    · have hm0 : m = 5 := by
        match m, hm, hB with
        | 0, _, hB => exact False.elim (hB e0)
        | 1, _, hB => exact False.elim (hB.2 e1)
        | 2, _, hB => exact False.elim (hB.2.2 e2)
        | 3, _, hB => exact False.elim (hB.2.2.2 e3)
        | 4, _, hB => exact False.elim (Nat.lt_irrefl _ (by have := hB.2 ord hL; omega : d.gates.length < d.gates.length))
        | 5, _, _ => rfl
      subst hm0
      refine ⟨true, t5.hit, fun _ a na => ?_, fun q => nomatch q⟩
      have hdc : ∀ H2, Ex H0 H2 → DictS none H2 := fun _ _ d' e => by cases e
      refine ⟨Dc, ⟨rfl, t5.isc⟩, _, rfl, hdc _ (Ex.refl _), .ref Cn, .ref Cn, false, rfl, (fun u hu => hu), t5.k0, Dc, ⟨rfl, t5.isc⟩, _, rfl, hdc _ (Ex.refl _), .ref Cw, .ref Cw, false, rfl, (fun u hu => hu), t5.k1, Dc, ⟨rfl, t5.isc⟩, _, rfl, hdc _ (Ex.refl _), .ref Cu, .ref Cu, false, rfl, (fun u hu => hu), t5.k2, Dc, ⟨rfl, t5.isc⟩, _, rfl, hdc _ (Ex.refl _), .ref Cr, .ref Cr, false, rfl, (fun u hu => hu), t5.k3, (by show 4 ≤ sizeLine; decide), fun l1 n1 => ?_⟩
      have F1 := Ex.new (o := .lst [.bl false, .bl false, .bl false, .bl false]) n1
      have hl1 : upd H0 l1 (.lst [.bl false, .bl false, .bl false, .bl false]) l1 = some (.lst [.bl false, .bl false, .bl false, .bl false]) := upd_same
      generalize upd H0 l1 (.lst [.bl false, .bl false, .bl false, .bl false]) = G1 at *
      refine ⟨_, rfl, Dc, ⟨rfl, t5.isc⟩, _, rfl, hdc _ F1, .ref Lc, .ref Lc, false, rfl, (fun u hu => hu), t5.k4, Dc, ⟨rfl, t5.isc⟩, _, rfl, hdc _ F1, .ref Dc, .ref Dc, true, rfl, (fun u hu => hu), t5.k5, (by show 2 ≤ sizeLine; decide), fun l2 n2 => ⟨l1, l2, _, _, rfl, rfl, Ex.new n2 _ _ hl1, upd_same, (by show 6 ≤ sizeLine; decide), fun l3 n3 => ?_⟩⟩
      have F3 := F1.trans ((Ex.new (o := .lst [.bl false, .bl true]) n2).trans (Ex.new (o := .lst ([V.bl false, V.bl false, V.bl false, V.bl false] ++ [V.bl false, V.bl true])) n3))
      have hl3 : upd (upd G1 l2 (.lst [.bl false, .bl true])) l3 (.lst ([V.bl false, V.bl false, V.bl false, V.bl false] ++ [V.bl false, V.bl true])) l3 = some (.lst (([false, false, false, false, false, true] : List Bool).map V.bl)) := upd_same
      generalize upd (upd G1 l2 (.lst [.bl false, .bl true])) l3 (.lst ([V.bl false, V.bl false, V.bl false, V.bl false] ++ [V.bl false, V.bl true])) = G3 at *
      refine ⟨_, rfl, 6, rfl, by decide, by decide, fun RL nRL => wk_it walk_range (fun j H' => Ex G3 H' ∧ H' RL = some (.lst (((List.range j).map fun k => decide ((k : Nat) = 5)).map V.bl))) ⟨Ex.new nRL, upd_same⟩ (fun _ _ _ _ => trivial) ?_ ?_⟩
      · rintro j x H5 H6 hj ⟨E5, hR⟩ ⟨rfl, ez⟩
        have ez := ez.trans (show V.int (0 + (j : Int)) = .int (j : Nat) by rw [Int.zero_add])
        subst ez
        have hj : j < 6 := hj
        refine ⟨rfl, tYes_in ?_⟩
        simp only [wipe, _root_.L2.start, List.map_cons, List.map_nil, List.length_cons, List.length_nil, Nat.reduceAdd, Nat.reduceSub, List.replicate_succ, List.replicate_zero, List.cons_append, List.nil_append, List.set_cons_zero, List.set_cons_succ]
        refine ⟨_, rfl, _, rfl, rfl, _, hR, sz_lt (by rw [List.length_map, List.length_map, List.length_range]; omega), E5.mut nRL, ?_⟩
        rw [upd_same, List.range_succ, List.map_append, List.map_append]
        have eb : decide (V.int ((j : Nat) : Int) = V.int ((5 : Nat) : Int)) = decide (j = 5) := by
          rw [decide_eq_decide, V.int.injEq]
          omega
        exact congrArg (fun b => some (HO.lst (_ ++ [V.bl b]))) eb
      · rintro H5 ⟨E5, hR⟩
        refine ⟨_, _, dp_blsC (E5 _ _ hl3), dp_blsC hR, shaped_blsC _, shaped_blsC _, _, rfl, it0C (by rfl) ?_⟩
        exact ⟨_, rfl, rfl, _, rfl, it1C (by rfl) (q _ ((E0).trans (F3.trans E5)))⟩
    · have hm0 : m = 4 := by
        match m, hm, hB with
        | 0, _, hB => exact False.elim (hB e0)
        | 1, _, hB => exact False.elim (hB.2 e1)
        | 2, _, hB => exact False.elim (hB.2.2 e2)
        | 3, _, hB => exact False.elim (hB.2.2.2 e3)
        | 4, _, _ => rfl
        | 5, _, hB => exact False.elim (Nat.lt_irrefl _ (by have := (hB.2 ord hL).1; omega : d.gates.length < d.gates.length))
      subst hm0
      have hx : (upd H1 dd (.xd [("names", .ref tp)])) dd = some (.xd [("names", .ref tp)]) := upd_same
      refine ⟨true, t4.hit, fun _ a na => ?_, fun q => nomatch q⟩
      have hdc : ∀ H2, Ex (upd H1 dd (.xd [("names", .ref tp)])) H2 → DictS (some dd) H2 := fun H2 e2 d' e => by cases e; exact ⟨_, e2 _ _ hx⟩
      refine ⟨Lc, ⟨rfl, t4.isc⟩, _, rfl, hdc _ (Ex.refl _), .ref Cn, .ref Cn, false, rfl, (fun u hu => hu), t4.k0, Lc, ⟨rfl, t4.isc⟩, _, rfl, hdc _ (Ex.refl _), .ref Cw, .ref Cw, false, rfl, (fun u hu => hu), t4.k1, Lc, ⟨rfl, t4.isc⟩, _, rfl, hdc _ (Ex.refl _), .ref Cu, .ref Cu, false, rfl, (fun u hu => hu), t4.k2, Lc, ⟨rfl, t4.isc⟩, _, rfl, hdc _ (Ex.refl _), .ref Cr, .ref Cr, false, rfl, (fun u hu => hu), t4.k3, (by show 4 ≤ sizeLine; decide), fun l1 n1 => ?_⟩
      have F1 := Ex.new (o := .lst [.bl false, .bl false, .bl false, .bl false]) n1
      have hl1 : upd (upd H1 dd (.xd [("names", .ref tp)])) l1 (.lst [.bl false, .bl false, .bl false, .bl false]) l1 = some (.lst [.bl false, .bl false, .bl false, .bl false]) := upd_same
      generalize upd (upd H1 dd (.xd [("names", .ref tp)])) l1 (.lst [.bl false, .bl false, .bl false, .bl false]) = G1 at *
      refine ⟨_, rfl, Lc, ⟨rfl, t4.isc⟩, _, rfl, hdc _ F1, .ref Lc, .ref Lc, true, rfl, (fun u hu => hu), t4.k4, Lc, ⟨rfl, t4.isc⟩, _, rfl, hdc _ F1, .ref Dc, .ref Dc, false, rfl, (fun u hu => hu), t4.k5, (by show 2 ≤ sizeLine; decide), fun l2 n2 => ⟨l1, l2, _, _, rfl, rfl, Ex.new n2 _ _ hl1, upd_same, (by show 6 ≤ sizeLine; decide), fun l3 n3 => ?_⟩⟩
      have F3 := F1.trans ((Ex.new (o := .lst [.bl true, .bl false]) n2).trans (Ex.new (o := .lst ([V.bl false, V.bl false, V.bl false, V.bl false] ++ [V.bl true, V.bl false])) n3))
      have hl3 : upd (upd G1 l2 (.lst [.bl true, .bl false])) l3 (.lst ([V.bl false, V.bl false, V.bl false, V.bl false] ++ [V.bl true, V.bl false])) l3 = some (.lst (([false, false, false, false, true, false] : List Bool).map V.bl)) := upd_same
      generalize upd (upd G1 l2 (.lst [.bl true, .bl false])) l3 (.lst ([V.bl false, V.bl false, V.bl false, V.bl false] ++ [V.bl true, V.bl false])) = G3 at *
      refine ⟨_, rfl, 6, rfl, by decide, by decide, fun RL nRL => wk_it walk_range (fun j H' => Ex G3 H' ∧ H' RL = some (.lst (((List.range j).map fun k => decide ((k : Nat) = 4)).map V.bl))) ⟨Ex.new nRL, upd_same⟩ (fun _ _ _ _ => trivial) ?_ ?_⟩
      · rintro j x H5 H6 hj ⟨E5, hR⟩ ⟨rfl, ez⟩
        have ez := ez.trans (show V.int (0 + (j : Int)) = .int (j : Nat) by rw [Int.zero_add])
        subst ez
        have hj : j < 6 := hj
        refine ⟨rfl, tYes_in ?_⟩
        simp only [wipe, _root_.L2.start, List.map_cons, List.map_nil, List.length_cons, List.length_nil, Nat.reduceAdd, Nat.reduceSub, List.replicate_succ, List.replicate_zero, List.cons_append, List.nil_append, List.set_cons_zero, List.set_cons_succ]
        refine ⟨_, rfl, _, rfl, rfl, _, hR, sz_lt (by rw [List.length_map, List.length_map, List.length_range]; omega), E5.mut nRL, ?_⟩
        rw [upd_same, List.range_succ, List.map_append, List.map_append]
        have eb : decide (V.int ((j : Nat) : Int) = V.int ((4 : Nat) : Int)) = decide (j = 4) := by
          rw [decide_eq_decide, V.int.injEq]
          omega
        exact congrArg (fun b => some (HO.lst (_ ++ [V.bl b]))) eb
      · rintro H5 ⟨E5, hR⟩
        refine ⟨_, _, dp_blsC (E5 _ _ hl3), dp_blsC hR, shaped_blsC _, shaped_blsC _, _, rfl, it0C (by rfl) ?_⟩
        have E15 := F3.trans E5
        have hx5 := E15 _ _ hx
        have EH : Ex H H5 := (E1.trans (Ex.new nd)).trans E15
        refine ⟨_, rfl, rfl, _, rfl, it0C (by rfl) ⟨_, rfl, _, rfl, rfl, rfl, dd, _, _, rfl, hx5, rfl, ?_⟩⟩
        exact ⟨c, tp, d, it, gt, rt, ot, ga, ra, oa, ord, way, rfl, hc.te (.of EH), gn_of e0 hf e1, E15 _ _ (Ex.new nd _ _ htp), hC, fun H' E' => q _ (EH.trans E')⟩
end
end G
namespace G
open PySem PySem.Spec PyProof.Rows L2 Evl TL
theorem All2.appC {α β : Type} {R : α → β → Prop} {as cs : List α} {bs ds : List β} (h : All2 R as bs) (g : All2 R cs ds) : All2 R (as ++ cs) (bs ++ ds) := by
  refine ⟨by rw [List.length_append, List.length_append, h.1, g.1], fun i a b h1 h2 => ?_⟩
  by_cases hi : i < as.length
  · rw [List.getElem?_append_left hi] at h1
    rw [List.getElem?_append_left (by rw [← h.1]; exact hi)] at h2
    exact h.2 i a b h1 h2
  · rw [List.getElem?_append_right (by omega)] at h1
    rw [List.getElem?_append_right (by rw [← h.1]; omega), ← h.1] at h2
    exact g.2 _ a b h1 h2
section
variable {H : Hp} {c c' x' it gt rt ot : Addr} {d : CircD} {ga ra oa gx rx ox : List Addr} {X : List Str} {GX : List GateD} {RX : List RegD} {OX : List (Str × Str)}
theorem circ_ins (hc : CircAt H c d it gt rt ot ga ra oa) (h : H c' = some (.tup [.ref x', .ref gt, .ref rt, .ref ot])) (hx : H x' = some (.tup (d.ins.map V.str ++ X.map V.str))) (_ : True) : CircAt H c' (extD d X [] [] []) x' gt rt ot ga ra oa := by
  have e : extD d X [] [] [] = ⟨d.ins ++ X, d.gates, d.regs, d.outs⟩ := by unfold extD; rw [List.append_nil, List.append_nil, List.append_nil]
  rw [e]
  exact ⟨h, by rw [List.map_append]; exact hx, hc.gts, hc.rgs, hc.ots, hc.gates, hc.regs, hc.outs⟩
theorem circ_gates (hc : CircAt H c d it gt rt ot ga ra oa) (h : H c' = some (.tup [.ref it, .ref x', .ref rt, .ref ot])) (hx : H x' = some (.tup (ga.map V.ref ++ gx.map V.ref))) (g : All2 (GateAt H) gx GX) : CircAt H c' (extD d [] GX [] []) it x' rt ot (ga ++ gx) ra oa := by
  have e : extD d [] GX [] [] = ⟨d.ins, d.gates ++ GX, d.regs, d.outs⟩ := by unfold extD; rw [List.append_nil, List.append_nil, List.append_nil]
  rw [e]
  exact ⟨h, hc.ins, by rw [List.map_append]; exact hx, hc.rgs, hc.ots, hc.gates.appC g, hc.regs, hc.outs⟩
theorem circ_regs (hc : CircAt H c d it gt rt ot ga ra oa) (h : H c' = some (.tup [.ref it, .ref gt, .ref x', .ref ot])) (hx : H x' = some (.tup (ra.map V.ref ++ rx.map V.ref))) (g : All2 (RegAt H) rx RX) : CircAt H c' (extD d [] [] RX []) it gt x' ot ga (ra ++ rx) oa := by
  have e : extD d [] [] RX [] = ⟨d.ins, d.gates, d.regs ++ RX, d.outs⟩ := by unfold extD; rw [List.append_nil, List.append_nil, List.append_nil]
  rw [e]
  exact ⟨h, hc.ins, hc.gts, by rw [List.map_append]; exact hx, hc.ots, hc.gates, hc.regs.appC g, hc.outs⟩
theorem circ_outs (hc : CircAt H c d it gt rt ot ga ra oa) (h : H c' = some (.tup [.ref it, .ref gt, .ref rt, .ref x'])) (hx : H x' = some (.tup (oa.map V.ref ++ ox.map V.ref))) (g : All2 (OutAt H) ox OX) : CircAt H c' (extD d [] [] [] OX) it gt rt x' ga ra (oa ++ ox) := by
  have e : extD d [] [] [] OX = ⟨d.ins, d.gates, d.regs, d.outs ++ OX⟩ := by unfold extD; rw [List.append_nil, List.append_nil, List.append_nil]
  rw [e]
  exact ⟨h, hc.ins, hc.gts, hc.rgs, by rw [List.map_append]; exact hx, hc.gates, hc.regs, hc.outs.appC g⟩
end
section
variable {P : Program} {w : World} {K : PySem.W.Frag} {mg : Str → Option Value} {base : Heap}
def spBroken : Sp := fun vs H Q _ => ∃ (p a c : Addr) (r : Nat) (d : CircD) (it gt rt ot : Addr) (ga ra oa : List Addr), vs = [.ref p, .ref c, .int (r : Int)] ∧ r < 6 ∧ PoolOk p a H ∧ CircAt H c d it gt rt ot ga ra oa ∧ (d.ins.length ≤ 200 ∧ d.gates.length ≤ 200 ∧ d.regs.length ≤ 200 ∧ d.outs.length ≤ 200) ∧
  ∀ (c' : Addr) (X : List Str) (GX : List GateD) (RX : List RegD) (OX : List (Str × Str)) (it' gt' rt' ot' : Addr) (ga' ra' oa' : List Addr) (H' : Hp), Px p a H H' → CircAt H' c' (extD d X GX RX OX) it' gt' rt' ot' ga' ra' oa' → Add r X GX RX OX → Q (.ref c') H'
theorem sc_law_broken : FnScope ["pool", "circuit", "rule", "inputs", "gates", "regs", "outputs", "form", "wrong", "pair", "times", "many", "added", "k"] ["pool", "circuit", "rule"] (defScope s_law_broken) := ⟨rfl, rfl, rfl, by decide +kernel, rfl, by decide +kernel, by decide +kernel⟩
theorem ok_law_broken (D : Dfd K mg "_law_broken" s_law_broken ["pool", "circuit", "rule"]) (T : TxtS mg) (C1 : Has P w K mg base 2 "_law_draw" ["pool", "many"] spDrawX) (C2 : Has P w K mg base 3 "_law_shuffled" ["pool", "rows"] spShuf) : Has P w K mg base 4 "_law_broken" ["pool", "circuit", "rule"] spBroken := by
  obtain ⟨f_law_draw, d_law_draw, G_law_draw, g_law_draw, k_law_draw, b_law_draw⟩ := C1
  obtain ⟨f_law_shuffled, d_law_shuffled, G_law_shuffled, g_law_shuffled, k_law_shuffled, b_law_shuffled⟩ := C2
  refine D.has fun f fd F => F.ok sc_law_broken (fun vs H Q E h => ?_) (fun cdv A outer s H vs Q E hr h => ?_)
  · obtain ⟨p, a, c, r, d, it, gt, rt, ot, ga, ra, oa, rfl, _⟩ := h
    rfl
  · obtain ⟨p, a, c, r, d, it, gt, rt, ot, ga, ra, oa, rfl, hr6, hp, hc, ⟨b1, b2, b3, b4⟩, q⟩ := h
    refine ⟨_, (pss_cons (ps_set (i := 3) sc_law_broken.nd rfl (.inl rfl) (pe_ix ix_tup (pv 1) pe_int (fun _ _ => rfl)))
    (pss_cons (ps_set (i := 4) sc_law_broken.nd rfl (.inl rfl) (pe_ix ix_tup (pv 1) pe_int (fun _ _ => rfl)))
    (pss_cons (ps_set (i := 5) sc_law_broken.nd rfl (.inl rfl) (pe_ix ix_tup (pv 1) pe_int (fun _ _ => rfl)))
    (pss_cons (ps_set (i := 6) sc_law_broken.nd rfl (.inl rfl) (pe_ix ix_tup (pv 1) pe_int (fun _ _ => rfl)))
    (pss_cons (ps_set (i := 7) sc_law_broken.nd rfl (.inl rfl) (pe_call G_law_draw (hr.mono (by omega)) (by rfl) g_law_draw k_law_draw b_law_draw .nil pass0 (pa_cons (pv 0) (pa_cons pe_int pa_nil))))
    (pss_cons (ps_if (pt_cmpR op_eq (pv 2) pe_int (nomark _))
      (pss_cons (ps_if (pt_cmpR op_eq (pv 7) pe_int (nomark _))
        (pss_one (ps_ret (pe_tup (pa_cons (pv 3) (pa_cons (pv 4) (pa_cons (pv 5) (pa_cons (pe_op op_catA (pv 6) (pe_tup (pa_cons (pe_tup (pa_cons pe_str (pa_cons pe_str pa_nil))) (pa_cons (pe_tup (pa_cons pe_str (pa_cons pe_str pa_nil))) pa_nil)))) pa_nil)))))))
        pss_nil)
      (pss_one (ps_ret (pe_tup (pa_cons (pe_op op_catA (pv 3) (pe_tup (pa_cons pe_str (pa_cons (pe_ix ix_list (pe_lst (pa_cons pe_str (pa_cons pe_str pa_nil))) (pe_op op_sub (pv 7) pe_int) (fun _ _ => rfl)) pa_nil)))) (pa_cons (pv 4) (pa_cons (pv 5) (pa_cons (pv 6) pa_nil))))))))
      pss_nil)
    (pss_cons (ps_if (pt_cmpR op_eq (pv 2) pe_int (nomark _))
      (pss_cons (ps_set (i := 8) sc_law_broken.nd rfl (.inl rfl) (pe_lst (pa_cons (pe_tup (pa_cons pe_str (pa_cons (pe_tup (pa_cons pe_bl (pa_cons pe_bl pa_nil))) (pa_cons (pe_tup (pa_cons pe_str pa_nil)) (pa_cons (pe_tup pa_nil) pa_nil))))) (pa_cons (pe_tup (pa_cons pe_str (pa_cons (pe_tup (pa_cons pe_bl pa_nil)) (pa_cons (pe_tup (pa_cons pe_str pa_nil)) (pa_cons (pe_tup (pa_cons (pe_tup (pa_cons pe_int (pa_cons pe_int pa_nil))) pa_nil)) pa_nil))))) pa_nil))))
      (pss_cons (ps_expr (pe_bm PySem.F.plainAttrs_list PySem.F.slot_list_append PySem.F.type_list_append mt_append (pv 8) (pa_cons (pe_tup (pa_cons pe_str (pa_cons (pe_callTy call_tuple_of (by rfl) T.tuple (by decide +kernel) (pa_cons (pe_op op_rep (pe_lst (pa_cons pe_bl pa_nil)) pe_int) pa_nil)) (pa_cons (pe_callTy call_tuple_of (by rfl) T.tuple (by decide +kernel) (pa_cons (pe_op op_rep (pe_lst (pa_cons pe_str pa_nil)) pe_int) pa_nil)) (pa_cons (pe_callTy call_tuple_of (by rfl) T.tuple (by decide +kernel) (pa_cons (pe_op op_rep (pe_lst (pa_cons (pe_tup (pa_cons pe_int (pa_cons pe_int pa_nil))) pa_nil)) pe_int) pa_nil)) pa_nil))))) pa_nil)))
      (pss_one (ps_ret (pe_tup (pa_cons (pv 3) (pa_cons (pe_op op_catA (pv 4) (pe_tup (pa_cons (pe_ix ix_list (pv 8) (pv 7) (fun _ _ => rfl)) pa_nil))) (pa_cons (pv 5) (pa_cons (pv 6) pa_nil)))))))))
      pss_nil)
    (pss_cons (ps_if (pt_cmpR op_eq (pv 2) pe_int (nomark _))
      (pss_cons (ps_if (pt_cmpR op_eq (pv 7) pe_int (nomark _))
        (pss_one (ps_ret (pe_tup (pa_cons (pv 3) (pa_cons (pe_op op_catA (pv 4) (pe_tup (pa_cons (pe_tup (pa_cons pe_str (pa_cons (pe_tup (pa_cons pe_bl (pa_cons pe_bl pa_nil))) (pa_cons (pe_tup (pa_cons pe_str pa_nil)) (pa_cons (pe_tup (pa_cons (pe_tup (pa_cons pe_int (pa_cons pe_int pa_nil))) pa_nil)) pa_nil))))) pa_nil))) (pa_cons (pv 5) (pa_cons (pv 6) pa_nil)))))))
        pss_nil)
      (pss_cons (ps_if (pt_cmpR op_eq (pv 7) pe_int (nomark _))
        (pss_one (ps_ret (pe_tup (pa_cons (pv 3) (pa_cons (pv 4) (pa_cons (pe_op op_catA (pv 5) (pe_tup (pa_cons (pe_tup (pa_cons pe_str (pa_cons pe_str (pa_cons (pe_tup (pa_cons pe_int (pa_cons pe_int pa_nil))) (pa_cons (pe_tup (pa_cons pe_int (pa_cons pe_int pa_nil))) (pa_cons pe_int (pa_cons pe_int (pa_cons pe_bl pa_nil)))))))) pa_nil))) (pa_cons (pv 6) pa_nil)))))))
        pss_nil)
      (pss_one (ps_ret (pe_tup (pa_cons (pv 3) (pa_cons (pv 4) (pa_cons (pv 5) (pa_cons (pe_op op_catA (pv 6) (pe_tup (pa_cons (pe_tup (pa_cons pe_str (pa_cons pe_str pa_nil))) pa_nil))) pa_nil)))))))))
      pss_nil)
    (pss_cons (ps_if (pt_cmpR op_eq (pv 2) pe_int (nomark _))
      (pss_cons (ps_set (i := 9) sc_law_broken.nd rfl (.inl rfl) (pe_ix ix_list (pe_lst (pa_cons (pe_tup (pa_cons (pe_un un_neg pe_int) (pa_cons pe_int pa_nil))) (pa_cons (pe_tup (pa_cons pe_int (pa_cons pe_int pa_nil))) (pa_cons (pe_tup (pa_cons pe_int (pa_cons pe_int pa_nil))) pa_nil)))) (pv 7) (fun _ _ => rfl)))
      (pss_cons (ps_if (pt_cmpR op_eq (pe_call G_law_draw (hr.mono (by omega)) (by rfl) g_law_draw k_law_draw b_law_draw .nil pass0 (pa_cons (pv 0) (pa_cons pe_int pa_nil))) pe_int (nomark _))
        (pss_one (ps_ret (pe_tup (pa_cons (pv 3) (pa_cons (pe_op op_catA (pv 4) (pe_tup (pa_cons (pe_tup (pa_cons pe_str (pa_cons (pe_tup (pa_cons pe_bl (pa_cons pe_bl pa_nil))) (pa_cons (pe_tup (pa_cons pe_str pa_nil)) (pa_cons (pe_tup (pa_cons (pv 9) pa_nil)) pa_nil))))) pa_nil))) (pa_cons (pv 5) (pa_cons (pv 6) pa_nil)))))))
        pss_nil)
      (pss_cons (ps_set (i := 10) sc_law_broken.nd rfl (.inl rfl) (pe_ix ix_list (pe_lst (pa_cons (pe_tup (pa_cons (pe_tup (pa_cons pe_int (pa_cons pe_int pa_nil))) (pa_cons (pe_tup (pa_cons pe_int (pa_cons pe_int pa_nil))) (pa_cons (pe_un un_neg pe_int) (pa_cons pe_int pa_nil))))) (pa_cons (pe_tup (pa_cons (pe_tup (pa_cons pe_int (pa_cons pe_int pa_nil))) (pa_cons (pe_tup (pa_cons pe_int (pa_cons pe_int pa_nil))) (pa_cons pe_int (pa_cons pe_int pa_nil))))) (pa_cons (pe_tup (pa_cons (pe_tup (pa_cons pe_int (pa_cons pe_int pa_nil))) (pa_cons (pe_tup (pa_cons pe_int (pa_cons pe_int pa_nil))) (pa_cons pe_int (pa_cons pe_int pa_nil))))) pa_nil)))) (pv 7) (fun _ _ => rfl)))
      (pss_one (ps_ret (pe_tup (pa_cons (pv 3) (pa_cons (pv 4) (pa_cons (pe_op op_catA (pv 5) (pe_tup (pa_cons (pe_tup (pa_cons pe_str (pa_cons pe_str (pa_cons (pe_ix ix_tup (pv 10) pe_int (fun _ _ => rfl)) (pa_cons (pe_ix ix_tup (pv 10) pe_int (fun _ _ => rfl)) (pa_cons (pe_ix ix_tup (pv 10) pe_int (fun _ _ => rfl)) (pa_cons (pe_ix ix_tup (pv 10) pe_int (fun _ _ => rfl)) (pa_cons pe_bl pa_nil)))))))) pa_nil))) (pa_cons (pv 6) pa_nil))))))))))
      pss_nil)
    (pss_cons (ps_set (i := 11) sc_law_broken.nd rfl (.inl rfl) (pe_ix ix_list (pe_lst (pa_cons pe_int (pa_cons pe_int (pa_cons pe_int pa_nil)))) (pv 7) (fun _ _ => rfl)))
    (pss_cons (ps_set (i := 12) sc_law_broken.nd rfl (.inl rfl) (pe_lst pa_nil))
    (pss_cons (ps_if (pt_cmpR op_eq (pv 2) pe_int (nomark _))
      (pss_one (ps_for PassesOwn.never rfl (pi_range1 rfl T.range (pa_cons (pv 11) pa_nil)) (pg_name (i := 13) sc_law_broken.nd rfl (.inl rfl))
        (pss_one (ps_expr (pe_bm PySem.F.plainAttrs_list PySem.F.slot_list_append PySem.F.type_list_append mt_append (pv 12) (pa_cons (pe_tup (pa_cons (pe_op op_add_str pe_str (pe_callTy call_str_int (by rfl) T.str (by decide +kernel) (pa_cons (pv 13) pa_nil))) (pa_cons (pe_tup (pa_cons pe_bl (pa_cons pe_bl pa_nil))) (pa_cons (pe_tup (pa_cons (pe_op op_add_str pe_str (pe_callTy call_str_int (by rfl) T.str (by decide +kernel) (pa_cons (pe_op op_mod (pe_callTy call_int1 (by rfl) T.int (by decide +kernel) (pa_cons (pe_op op_add (pv 13) pe_int) pa_nil)) (pv 11)) pa_nil))) pa_nil)) (pa_cons (pe_tup (pa_cons (pe_tup (pa_cons pe_int (pa_cons pe_int pa_nil))) pa_nil)) pa_nil))))) pa_nil))))))
      (pss_one (ps_for PassesOwn.never rfl (pi_range1 rfl T.range (pa_cons pe_int pa_nil)) (pg_name (i := 13) sc_law_broken.nd rfl (.inl rfl))
        (pss_one (ps_expr (pe_bm PySem.F.plainAttrs_list PySem.F.slot_list_append PySem.F.type_list_append mt_append (pv 12) (pa_cons (pe_tup (pa_cons (pe_op op_add_str pe_str (pe_callTy call_str_int (by rfl) T.str (by decide +kernel) (pa_cons (pv 13) pa_nil))) (pa_cons (pe_tup (pa_cons pe_bl (pa_cons pe_bl pa_nil))) (pa_cons (pe_tup (pa_cons (pe_ix ix_list (pe_lst (pa_cons (pe_op op_add_str pe_str (pe_callTy call_str_int (by rfl) T.str (by decide +kernel) (pa_cons (pe_op op_sub (pv 13) pe_int) pa_nil))) (pa_cons pe_str pa_nil))) (pe_callTy call_int1 (by rfl) T.int (by decide +kernel) (pa_cons (pe_cmpR op_eq (pv 13) pe_int (nomark _)) pa_nil)) (fun _ _ => rfl)) pa_nil)) (pa_cons (pe_tup (pa_cons (pe_tup (pa_cons pe_int (pa_cons pe_int pa_nil))) pa_nil)) pa_nil))))) pa_nil)))))))
    (pss_one (ps_ret (pe_tup (pa_cons (pv 3) (pa_cons (pe_op op_catA (pv 4) (pe_callTy call_tuple_of (by rfl) T.tuple (by decide +kernel) (pa_cons (pe_call G_law_shuffled (hr.mono (by omega)) (by rfl) g_law_shuffled k_law_shuffled b_law_shuffled .nil pass0 (pa_cons (pv 0) (pa_cons (pv 12) pa_nil))) pa_nil))) (pa_cons (pv 5) (pa_cons (pv 6) pa_nil))))))))))))))))))), ?_⟩
    have hga := hc.gates.1
    have hra := hc.regs.1
    have hoa := hc.outs.1
    refine ⟨_, rfl, _, _, _, _, rfl, rfl, SqT.of hc.top, atI_nat (j := 0) rfl, _, rfl, _, _, _, _, rfl, rfl, SqT.of hc.top, atI_nat (j := 1) rfl, _, rfl, _, _, _, _, rfl, rfl, SqT.of hc.top, atI_nat (j := 2) rfl, _, rfl, _, _, _, _, rfl, rfl, SqT.of hc.top, atI_nat (j := 3) rfl, ?_⟩
    refine ⟨_, rfl, p, a, 3, rfl, by decide, by decide, hp, fun v H1 hv X1 _ => ?_⟩
    have hc1 := hc.te (TEx.px X1)
    have hv : v < 3 := by omega
    match r, hr6 with
    | 0, _ =>
      refine ⟨_, rfl, rfl, _, rfl, it1C (by rfl) ?_⟩
      match v, hv with
      | 0, _ =>
        refine ⟨_, rfl, rfl, _, rfl, it1C (by rfl) ?_⟩
        refine ⟨_, rfl, _, rfl, _, rfl, _, rfl, ?_⟩
        refine ⟨(by show 2 ≤ sizeLine; decide), fun t1 n2 => ?_⟩
        have E3 := Ex.new (o := .tup [V.str "o", V.str "i0"]) n2
        have h4 : (upd H1 t1 (.tup [V.str "o", V.str "i0"])) t1 = some (.tup [V.str "o", V.str "i0"]) := upd_same
        generalize upd H1 t1 (.tup [V.str "o", V.str "i0"]) = G5 at *
        refine ⟨(by show 2 ≤ sizeLine; decide), fun t6 n7 => ?_⟩
        have E8 := Ex.new (o := .tup [V.str "o", V.str "i0"]) n7
        have h9 : (upd G5 t6 (.tup [V.str "o", V.str "i0"])) t6 = some (.tup [V.str "o", V.str "i0"]) := upd_same
        generalize upd G5 t6 (.tup [V.str "o", V.str "i0"]) = G10 at *
        refine ⟨(by show 2 ≤ sizeLine; decide), fun t11 n12 => ?_⟩
        have E13 := Ex.new (o := .tup [V.ref t1, V.ref t6]) n12
        have h14 : (upd G10 t11 (.tup [V.ref t1, V.ref t6])) t11 = some (.tup [V.ref t1, V.ref t6]) := upd_same
        generalize upd G10 t11 (.tup [V.ref t1, V.ref t6]) = G15 at *
        refine cat_tup (K := K) ((E3.trans (E8.trans E13)) _ _ hc1.ots) ((Ex.refl _) _ _ h14) (sz_of (by simp only [List.length_map, hga, hra, hoa]; show _ + 2 ≤ _; omega)) fun c16 G17 E18 h19 => ?_
        refine ⟨(by show 4 ≤ sizeLine; decide), fun t20 n21 => ?_⟩
        have E22 := Ex.new (o := .tup [V.ref it, V.ref gt, V.ref rt, V.ref c16]) n21
        have h23 : (upd G17 t20 (.tup [V.ref it, V.ref gt, V.ref rt, V.ref c16])) t20 = some (.tup [V.ref it, V.ref gt, V.ref rt, V.ref c16]) := upd_same
        generalize upd G17 t20 (.tup [V.ref it, V.ref gt, V.ref rt, V.ref c16]) = G24 at *
        exact q t20 _ _ _ _ _ _ _ _ _ _ _ _ (X1.more (E3.trans (E8.trans (E13.trans (E18.trans E22))))) (circ_outs (hc1.te (.of (E3.trans (E8.trans (E13.trans (E18.trans E22)))))) ((Ex.refl _) _ _ h23) (E22 _ _ h19) (ox := [t1, t6]) (OX := [("o", "i0"), ("o", "i0")]) (.cons ((E8.trans (E13.trans (E18.trans E22))) _ _ h4) (.cons ((E13.trans (E18.trans E22)) _ _ h9) .nil))) .o
      | 1, _ =>
        refine ⟨_, rfl, rfl, _, rfl, it0C (by rfl) ?_⟩
        refine ⟨_, rfl, ?_⟩
        refine ⟨(by show 2 ≤ sizeLine; decide), fun l25 n26 => ?_⟩
        have E27 := Ex.new (o := .lst [V.str "x", V.str "i0"]) n26
        have h28 : (upd H1 l25 (.lst [V.str "x", V.str "i0"])) l25 = some (.lst [V.str "x", V.str "i0"]) := upd_same
        generalize upd H1 l25 (.lst [V.str "x", V.str "i0"]) = G29 at *
        refine ⟨_, rfl, _, _, rfl, rfl, _, _, _, _, rfl, rfl, SqL.of h28, atI_nat (j := 0) rfl, ?_⟩
        refine ⟨(by show 2 ≤ sizeLine; decide), fun t30 n31 => ?_⟩
        have E32 := Ex.new (o := .tup [V.str "x", V.str "x"]) n31
        have h33 : (upd G29 t30 (.tup [V.str "x", V.str "x"])) t30 = some (.tup [V.str "x", V.str "x"]) := upd_same
        generalize upd G29 t30 (.tup [V.str "x", V.str "x"]) = G34 at *
        refine cat_tup (K := K) ((E27.trans E32) _ _ hc1.ins) ((Ex.refl _) _ _ h33) (sz_of (by simp only [List.length_map, hga, hra, hoa]; show _ + 2 ≤ _; omega)) fun c35 G36 E37 h38 => ?_
        refine ⟨_, rfl, _, rfl, _, rfl, ?_⟩
        refine ⟨(by show 4 ≤ sizeLine; decide), fun t39 n40 => ?_⟩
        have E41 := Ex.new (o := .tup [V.ref c35, V.ref gt, V.ref rt, V.ref ot]) n40
        have h42 : (upd G36 t39 (.tup [V.ref c35, V.ref gt, V.ref rt, V.ref ot])) t39 = some (.tup [V.ref c35, V.ref gt, V.ref rt, V.ref ot]) := upd_same
        generalize upd G36 t39 (.tup [V.ref c35, V.ref gt, V.ref rt, V.ref ot]) = G43 at *
        exact q t39 _ _ _ _ _ _ _ _ _ _ _ _ (X1.more (E27.trans (E32.trans (E37.trans E41)))) (circ_ins (hc1.te (.of (E27.trans (E32.trans (E37.trans E41))))) ((Ex.refl _) _ _ h42) (E41 _ _ h38) (X := ["x", "x"]) trivial) (.x "x" (.inl rfl))
      | 2, _ =>
        refine ⟨_, rfl, rfl, _, rfl, it0C (by rfl) ?_⟩
        refine ⟨_, rfl, ?_⟩
        refine ⟨(by show 2 ≤ sizeLine; decide), fun l44 n45 => ?_⟩
        have E46 := Ex.new (o := .lst [V.str "x", V.str "i0"]) n45
        have h47 : (upd H1 l44 (.lst [V.str "x", V.str "i0"])) l44 = some (.lst [V.str "x", V.str "i0"]) := upd_same
        generalize upd H1 l44 (.lst [V.str "x", V.str "i0"]) = G48 at *
        refine ⟨_, rfl, _, _, rfl, rfl, _, _, _, _, rfl, rfl, SqL.of h47, atI_nat (j := 1) rfl, ?_⟩
        refine ⟨(by show 2 ≤ sizeLine; decide), fun t49 n50 => ?_⟩
        have E51 := Ex.new (o := .tup [V.str "x", V.str "i0"]) n50
        have h52 : (upd G48 t49 (.tup [V.str "x", V.str "i0"])) t49 = some (.tup [V.str "x", V.str "i0"]) := upd_same
        generalize upd G48 t49 (.tup [V.str "x", V.str "i0"]) = G53 at *
        refine cat_tup (K := K) ((E46.trans E51) _ _ hc1.ins) ((Ex.refl _) _ _ h52) (sz_of (by simp only [List.length_map, hga, hra, hoa]; show _ + 2 ≤ _; omega)) fun c54 G55 E56 h57 => ?_
        refine ⟨_, rfl, _, rfl, _, rfl, ?_⟩
        refine ⟨(by show 4 ≤ sizeLine; decide), fun t58 n59 => ?_⟩
        have E60 := Ex.new (o := .tup [V.ref c54, V.ref gt, V.ref rt, V.ref ot]) n59
        have h61 : (upd G55 t58 (.tup [V.ref c54, V.ref gt, V.ref rt, V.ref ot])) t58 = some (.tup [V.ref c54, V.ref gt, V.ref rt, V.ref ot]) := upd_same
        generalize upd G55 t58 (.tup [V.ref c54, V.ref gt, V.ref rt, V.ref ot]) = G62 at *
        exact q t58 _ _ _ _ _ _ _ _ _ _ _ _ (X1.more (E46.trans (E51.trans (E56.trans E60)))) (circ_ins (hc1.te (.of (E46.trans (E51.trans (E56.trans E60))))) ((Ex.refl _) _ _ h61) (E60 _ _ h57) (X := ["x", "i0"]) trivial) (.x "i0" (.inr rfl))
    | 1, _ =>
      refine ⟨_, rfl, rfl, _, rfl, it0C (by rfl) ?_⟩
      refine ⟨_, rfl, rfl, _, rfl, it1C (by rfl) ?_⟩
      refine ⟨(by show 2 ≤ sizeLine; decide), fun t63 n64 => ?_⟩
      have E65 := Ex.new (o := .tup [V.bl true, V.bl false]) n64
      have h66 : (upd H1 t63 (.tup [V.bl true, V.bl false])) t63 = some (.tup [V.bl true, V.bl false]) := upd_same
      generalize upd H1 t63 (.tup [V.bl true, V.bl false]) = G67 at *
      refine ⟨(by show 1 ≤ sizeLine; decide), fun t68 n69 => ?_⟩
      have E70 := Ex.new (o := .tup [V.str "i0"]) n69
      have h71 : (upd G67 t68 (.tup [V.str "i0"])) t68 = some (.tup [V.str "i0"]) := upd_same
      generalize upd G67 t68 (.tup [V.str "i0"]) = G72 at *
      refine ⟨(by show 0 ≤ sizeLine; decide), fun t73 n74 => ?_⟩
      have E75 := Ex.new (o := .tup []) n74
      have h76 : (upd G72 t73 (.tup [])) t73 = some (.tup []) := upd_same
      generalize upd G72 t73 (.tup []) = G77 at *
      refine ⟨(by show 4 ≤ sizeLine; decide), fun t78 n79 => ?_⟩
      have E80 := Ex.new (o := .tup [V.str "w", V.ref t63, V.ref t68, V.ref t73]) n79
      have h81 : (upd G77 t78 (.tup [V.str "w", V.ref t63, V.ref t68, V.ref t73])) t78 = some (.tup [V.str "w", V.ref t63, V.ref t68, V.ref t73]) := upd_same
      generalize upd G77 t78 (.tup [V.str "w", V.ref t63, V.ref t68, V.ref t73]) = G82 at *
      refine ⟨(by show 1 ≤ sizeLine; decide), fun t83 n84 => ?_⟩
      have E85 := Ex.new (o := .tup [V.bl true]) n84
      have h86 : (upd G82 t83 (.tup [V.bl true])) t83 = some (.tup [V.bl true]) := upd_same
      generalize upd G82 t83 (.tup [V.bl true]) = G87 at *
      refine ⟨(by show 1 ≤ sizeLine; decide), fun t88 n89 => ?_⟩
      have E90 := Ex.new (o := .tup [V.str "i0"]) n89
      have h91 : (upd G87 t88 (.tup [V.str "i0"])) t88 = some (.tup [V.str "i0"]) := upd_same
      generalize upd G87 t88 (.tup [V.str "i0"]) = G92 at *
      refine ⟨(by show 2 ≤ sizeLine; decide), fun t93 n94 => ?_⟩
      have E95 := Ex.new (o := .tup [V.int (0), V.int (2)]) n94
      have h96 : (upd G92 t93 (.tup [V.int (0), V.int (2)])) t93 = some (.tup [V.int (0), V.int (2)]) := upd_same
      generalize upd G92 t93 (.tup [V.int (0), V.int (2)]) = G97 at *
      refine ⟨(by show 1 ≤ sizeLine; decide), fun t98 n99 => ?_⟩
      have E100 := Ex.new (o := .tup [V.ref t93]) n99
      have h101 : (upd G97 t98 (.tup [V.ref t93])) t98 = some (.tup [V.ref t93]) := upd_same
      generalize upd G97 t98 (.tup [V.ref t93]) = G102 at *
      refine ⟨(by show 4 ≤ sizeLine; decide), fun t103 n104 => ?_⟩
      have E105 := Ex.new (o := .tup [V.str "w", V.ref t83, V.ref t88, V.ref t98]) n104
      have h106 : (upd G102 t103 (.tup [V.str "w", V.ref t83, V.ref t88, V.ref t98])) t103 = some (.tup [V.str "w", V.ref t83, V.ref t88, V.ref t98]) := upd_same
      generalize upd G102 t103 (.tup [V.str "w", V.ref t83, V.ref t88, V.ref t98]) = G107 at *
      refine ⟨(by show 2 ≤ sizeLine; decide), fun l108 n109 => ?_⟩
      have E110 := Ex.new (o := .lst [V.ref t78, V.ref t103]) n109
      have h111 : (upd G107 l108 (.lst [V.ref t78, V.ref t103])) l108 = some (.lst [V.ref t78, V.ref t103]) := upd_same
      generalize upd G107 l108 (.lst [V.ref t78, V.ref t103]) = G112 at *
      refine ⟨_, rfl, .inl ⟨rfl, _, SqL.of h111⟩, ?_⟩
      refine ⟨(by show 1 ≤ sizeLine; decide), fun l113 n114 => ?_⟩
      have E115 := Ex.new (o := .lst [V.bl true]) n114
      have h116 : (upd G112 l113 (.lst [V.bl true])) l113 = some (.lst [V.bl true]) := upd_same
      generalize upd G112 l113 (.lst [V.bl true]) = G117 at *
      refine ⟨l113, _, _, rfl, rfl, h116, by decide, by decide, sz_of (by show 1 * 128 ≤ _; decide), fun L118 n119 => ?_⟩
      have E120 := Ex.new (o := .lst (List.replicate (128 : Int).toNat [V.bl true]).flatten) n119
      have h121 : (upd G117 L118 (.lst (List.replicate (128 : Int).toNat [V.bl true]).flatten)) L118 = some (.lst (List.replicate 128 (V.bl true))) := by rw [upd_same, rep_flat]; rfl
      generalize upd G117 L118 (.lst (List.replicate (128 : Int).toNat [V.bl true]).flatten) = G122 at *
      refine ⟨L118, _, rfl, .inl ⟨SqL.of h121, fun t123 n124 => ?_⟩⟩
      have E125 := Ex.new (o := .tup (List.replicate 128 (V.bl true))) n124
      have h126 : (upd G122 t123 (.tup (List.replicate 128 (V.bl true)))) t123 = some (.tup (List.replicate 128 (V.bl true))) := upd_same
      generalize upd G122 t123 (.tup (List.replicate 128 (V.bl true))) = G127 at *
      refine ⟨(by show 1 ≤ sizeLine; decide), fun l128 n129 => ?_⟩
      have E130 := Ex.new (o := .lst [V.str "i0"]) n129
      have h131 : (upd G127 l128 (.lst [V.str "i0"])) l128 = some (.lst [V.str "i0"]) := upd_same
      generalize upd G127 l128 (.lst [V.str "i0"]) = G132 at *
      refine ⟨l128, _, _, rfl, rfl, h131, by decide, by decide, sz_of (by show 1 * 7 ≤ _; decide), fun L133 n134 => ?_⟩
      have E135 := Ex.new (o := .lst (List.replicate (7 : Int).toNat [V.str "i0"]).flatten) n134
      have h136 : (upd G132 L133 (.lst (List.replicate (7 : Int).toNat [V.str "i0"]).flatten)) L133 = some (.lst (List.replicate 7 (V.str "i0"))) := by rw [upd_same, rep_flat]; rfl
      generalize upd G132 L133 (.lst (List.replicate (7 : Int).toNat [V.str "i0"]).flatten) = G137 at *
      refine ⟨L133, _, rfl, .inl ⟨SqL.of h136, fun t138 n139 => ?_⟩⟩
      have E140 := Ex.new (o := .tup (List.replicate 7 (V.str "i0"))) n139
      have h141 : (upd G137 t138 (.tup (List.replicate 7 (V.str "i0")))) t138 = some (.tup (List.replicate 7 (V.str "i0"))) := upd_same
      generalize upd G137 t138 (.tup (List.replicate 7 (V.str "i0"))) = G142 at *
      refine ⟨(by show 2 ≤ sizeLine; decide), fun t143 n144 => ?_⟩
      have E145 := Ex.new (o := .tup [V.int (0), V.int (2)]) n144
      have h146 : (upd G142 t143 (.tup [V.int (0), V.int (2)])) t143 = some (.tup [V.int (0), V.int (2)]) := upd_same
      generalize upd G142 t143 (.tup [V.int (0), V.int (2)]) = G147 at *
      refine ⟨(by show 1 ≤ sizeLine; decide), fun l148 n149 => ?_⟩
      have E150 := Ex.new (o := .lst [V.ref t143]) n149
      have h151 : (upd G147 l148 (.lst [V.ref t143])) l148 = some (.lst [V.ref t143]) := upd_same
      generalize upd G147 l148 (.lst [V.ref t143]) = G152 at *
      refine ⟨l148, _, _, rfl, rfl, h151, by decide, by decide, sz_of (by show 1 * 7 ≤ _; decide), fun L153 n154 => ?_⟩
      have E155 := Ex.new (o := .lst (List.replicate (7 : Int).toNat [V.ref t143]).flatten) n154
      have h156 : (upd G152 L153 (.lst (List.replicate (7 : Int).toNat [V.ref t143]).flatten)) L153 = some (.lst (List.replicate 7 (V.ref t143))) := by rw [upd_same, rep_flat]; rfl
      generalize upd G152 L153 (.lst (List.replicate (7 : Int).toNat [V.ref t143]).flatten) = G157 at *
      refine ⟨L153, _, rfl, .inl ⟨SqL.of h156, fun t158 n159 => ?_⟩⟩
      have E160 := Ex.new (o := .tup (List.replicate 7 (V.ref t143))) n159
      have h161 : (upd G157 t158 (.tup (List.replicate 7 (V.ref t143)))) t158 = some (.tup (List.replicate 7 (V.ref t143))) := upd_same
      generalize upd G157 t158 (.tup (List.replicate 7 (V.ref t143))) = G162 at *
      refine ⟨(by show 4 ≤ sizeLine; decide), fun t163 n164 => ?_⟩
      have E165 := Ex.new (o := .tup [V.str "w", V.ref t123, V.ref t138, V.ref t158]) n164
      have h166 : (upd G162 t163 (.tup [V.str "w", V.ref t123, V.ref t138, V.ref t158])) t163 = some (.tup [V.str "w", V.ref t123, V.ref t138, V.ref t158]) := upd_same
      generalize upd G162 t163 (.tup [V.str "w", V.ref t123, V.ref t138, V.ref t158]) = G167 at *
      refine ⟨l108, _, _, rfl, rfl, ((E115.trans (E120.trans (E125.trans (E130.trans (E135.trans (E140.trans (E145.trans (E150.trans (E155.trans (E160.trans E165)))))))))) _ _ h111), sz_lt (by show 2 < _; decide), ?_⟩
      have nl1 : H1 l108 = none := fresh_back (E65.trans (E70.trans (E75.trans (E80.trans (E85.trans (E90.trans (E95.trans (E100.trans E105)))))))) n109
      have E169 := ((E65.trans (E70.trans (E75.trans (E80.trans (E85.trans (E90.trans (E95.trans (E100.trans (E105.trans (E110.trans (E115.trans (E120.trans (E125.trans (E130.trans (E135.trans (E140.trans (E145.trans (E150.trans (E155.trans (E160.trans E165))))))))))))))))))))).mut (o := .lst ([V.ref t78, V.ref t103] ++ [V.ref t163])) nl1
      have T170 : TEx G167 (upd G167 l108 (.lst ([V.ref t78, V.ref t103] ++ [V.ref t163]))) := TEx.mut ((E115.trans (E120.trans (E125.trans (E130.trans (E135.trans (E140.trans (E145.trans (E150.trans (E155.trans (E160.trans E165)))))))))) _ _ h111)
      have hl9 : (upd G167 l108 (.lst ([V.ref t78, V.ref t103] ++ [V.ref t163]))) l108 = some (.lst [V.ref t78, V.ref t103, V.ref t163]) := upd_same
      have gg1 : GateAt G167 t78 ⟨"w", [true, false], ["i0"], []⟩ := ⟨t63, t68, t73, [], ((E85.trans (E90.trans (E95.trans (E100.trans (E105.trans (E110.trans (E115.trans (E120.trans (E125.trans (E130.trans (E135.trans (E140.trans (E145.trans (E150.trans (E155.trans (E160.trans E165)))))))))))))))) _ _ h81), ((E70.trans (E75.trans (E80.trans (E85.trans (E90.trans (E95.trans (E100.trans (E105.trans (E110.trans (E115.trans (E120.trans (E125.trans (E130.trans (E135.trans (E140.trans (E145.trans (E150.trans (E155.trans (E160.trans E165))))))))))))))))))) _ _ h66), ((E75.trans (E80.trans (E85.trans (E90.trans (E95.trans (E100.trans (E105.trans (E110.trans (E115.trans (E120.trans (E125.trans (E130.trans (E135.trans (E140.trans (E145.trans (E150.trans (E155.trans (E160.trans E165)))))))))))))))))) _ _ h71), ((E80.trans (E85.trans (E90.trans (E95.trans (E100.trans (E105.trans (E110.trans (E115.trans (E120.trans (E125.trans (E130.trans (E135.trans (E140.trans (E145.trans (E150.trans (E155.trans (E160.trans E165))))))))))))))))) _ _ h76), .nil⟩
      have gg2 : GateAt G167 t103 ⟨"w", [true], ["i0"], [(0, 2)]⟩ := ⟨t83, t88, t98, [t93], ((E110.trans (E115.trans (E120.trans (E125.trans (E130.trans (E135.trans (E140.trans (E145.trans (E150.trans (E155.trans (E160.trans E165))))))))))) _ _ h106), ((E90.trans (E95.trans (E100.trans (E105.trans (E110.trans (E115.trans (E120.trans (E125.trans (E130.trans (E135.trans (E140.trans (E145.trans (E150.trans (E155.trans (E160.trans E165))))))))))))))) _ _ h86), ((E95.trans (E100.trans (E105.trans (E110.trans (E115.trans (E120.trans (E125.trans (E130.trans (E135.trans (E140.trans (E145.trans (E150.trans (E155.trans (E160.trans E165)))))))))))))) _ _ h91), ((E105.trans (E110.trans (E115.trans (E120.trans (E125.trans (E130.trans (E135.trans (E140.trans (E145.trans (E150.trans (E155.trans (E160.trans E165)))))))))))) _ _ h101), (.cons ((E100.trans (E105.trans (E110.trans (E115.trans (E120.trans (E125.trans (E130.trans (E135.trans (E140.trans (E145.trans (E150.trans (E155.trans (E160.trans E165))))))))))))) _ _ h96) .nil)⟩
      have gg3 : GateAt G167 t163 ⟨"w", List.replicate 128 true, List.replicate 7 "i0", List.replicate 7 (0, 2)⟩ := ⟨t123, t138, t158, List.replicate 7 t143, ((Ex.refl _) _ _ h166), ((E130.trans (E135.trans (E140.trans (E145.trans (E150.trans (E155.trans (E160.trans E165))))))) _ _ h126), ((E145.trans (E150.trans (E155.trans (E160.trans E165)))) _ _ h141), (E165 _ _ h161), (.cons ((E150.trans (E155.trans (E160.trans E165))) _ _ h146) (.cons ((E150.trans (E155.trans (E160.trans E165))) _ _ h146) (.cons ((E150.trans (E155.trans (E160.trans E165))) _ _ h146) (.cons ((E150.trans (E155.trans (E160.trans E165))) _ _ h146) (.cons ((E150.trans (E155.trans (E160.trans E165))) _ _ h146) (.cons ((E150.trans (E155.trans (E160.trans E165))) _ _ h146) (.cons ((E150.trans (E155.trans (E160.trans E165))) _ _ h146) .nil)))))))⟩
      have gg1 := gg1.te T170
      have gg2 := gg2.te T170
      have gg3 := gg3.te T170
      generalize upd G167 l108 (.lst ([V.ref t78, V.ref t103] ++ [V.ref t163])) = G168 at *
      have gsel : ∃ (g : Addr) (gd : GateD), ([V.ref t78, V.ref t103, V.ref t163] : List V)[v]? = some (.ref g) ∧ GateAt G168 g gd ∧ gd ∈ ws := by
        match v, hv with
        | 0, _ => exact ⟨_, _, rfl, gg1, List.mem_cons_self ..⟩
        | 1, _ => exact ⟨_, _, rfl, gg2, List.mem_cons_of_mem _ (List.mem_cons_self ..)⟩
        | 2, _ => exact ⟨_, _, rfl, gg3, List.mem_cons_of_mem _ (List.mem_cons_of_mem _ (List.mem_cons_self ..))⟩
      obtain ⟨g, gd, hsel, hgd, hws⟩ := gsel
      refine ⟨_, rfl, _, rfl, _, rfl, _, rfl, _, _, _, _, rfl, rfl, SqL.of hl9, atI_nat (j := v) hsel, ?_⟩
      refine ⟨(by show 1 ≤ sizeLine; decide), fun t171 n172 => ?_⟩
      have E173 := Ex.new (o := .tup [V.ref g]) n172
      have h174 : (upd G168 t171 (.tup [V.ref g])) t171 = some (.tup [V.ref g]) := upd_same
      generalize upd G168 t171 (.tup [V.ref g]) = G175 at *
      refine cat_tup (K := K) ((E169.trans E173) _ _ hc1.gts) ((Ex.refl _) _ _ h174) (sz_of (by simp only [List.length_map, hga, hra, hoa]; show _ + 1 ≤ _; omega)) fun c176 G177 E178 h179 => ?_
      refine ⟨_, rfl, _, rfl, ?_⟩
      refine ⟨(by show 4 ≤ sizeLine; decide), fun t180 n181 => ?_⟩
      have E182 := Ex.new (o := .tup [V.ref it, V.ref c176, V.ref rt, V.ref ot]) n181
      have h183 : (upd G177 t180 (.tup [V.ref it, V.ref c176, V.ref rt, V.ref ot])) t180 = some (.tup [V.ref it, V.ref c176, V.ref rt, V.ref ot]) := upd_same
      generalize upd G177 t180 (.tup [V.ref it, V.ref c176, V.ref rt, V.ref ot]) = G184 at *
      exact q t180 _ _ _ _ _ _ _ _ _ _ _ _ (X1.more (E169.trans (E173.trans (E178.trans E182)))) (circ_gates (hc1.te (.of (E169.trans (E173.trans (E178.trans E182))))) ((Ex.refl _) _ _ h183) (E182 _ _ h179) (gx := [g]) (GX := [gd]) (.cons (hgd.te (.of ((E173.trans (E178.trans E182))))) .nil)) (.w gd hws)
    | 2, _ =>
      refine ⟨_, rfl, rfl, _, rfl, it0C (by rfl) ?_⟩
      refine ⟨_, rfl, rfl, _, rfl, it0C (by rfl) ?_⟩
      refine ⟨_, rfl, rfl, _, rfl, it1C (by rfl) ?_⟩
      match v, hv with
      | 0, _ =>
        refine ⟨_, rfl, rfl, _, rfl, it1C (by rfl) ?_⟩
        refine ⟨_, rfl, _, rfl, ?_⟩
        refine ⟨(by show 2 ≤ sizeLine; decide), fun t185 n186 => ?_⟩
        have E187 := Ex.new (o := .tup [V.bl true, V.bl false]) n186
        have h188 : (upd H1 t185 (.tup [V.bl true, V.bl false])) t185 = some (.tup [V.bl true, V.bl false]) := upd_same
        generalize upd H1 t185 (.tup [V.bl true, V.bl false]) = G189 at *
        refine ⟨(by show 1 ≤ sizeLine; decide), fun t190 n191 => ?_⟩
        have E192 := Ex.new (o := .tup [V.str "nowhere"]) n191
        have h193 : (upd G189 t190 (.tup [V.str "nowhere"])) t190 = some (.tup [V.str "nowhere"]) := upd_same
        generalize upd G189 t190 (.tup [V.str "nowhere"]) = G194 at *
        refine ⟨(by show 2 ≤ sizeLine; decide), fun t195 n196 => ?_⟩
        have E197 := Ex.new (o := .tup [V.int (0), V.int (2)]) n196
        have h198 : (upd G194 t195 (.tup [V.int (0), V.int (2)])) t195 = some (.tup [V.int (0), V.int (2)]) := upd_same
        generalize upd G194 t195 (.tup [V.int (0), V.int (2)]) = G199 at *
        refine ⟨(by show 1 ≤ sizeLine; decide), fun t200 n201 => ?_⟩
        have E202 := Ex.new (o := .tup [V.ref t195]) n201
        have h203 : (upd G199 t200 (.tup [V.ref t195])) t200 = some (.tup [V.ref t195]) := upd_same
        generalize upd G199 t200 (.tup [V.ref t195]) = G204 at *
        refine ⟨(by show 4 ≤ sizeLine; decide), fun t205 n206 => ?_⟩
        have E207 := Ex.new (o := .tup [V.str "v", V.ref t185, V.ref t190, V.ref t200]) n206
        have h208 : (upd G204 t205 (.tup [V.str "v", V.ref t185, V.ref t190, V.ref t200])) t205 = some (.tup [V.str "v", V.ref t185, V.ref t190, V.ref t200]) := upd_same
        generalize upd G204 t205 (.tup [V.str "v", V.ref t185, V.ref t190, V.ref t200]) = G209 at *
        refine ⟨(by show 1 ≤ sizeLine; decide), fun t210 n211 => ?_⟩
        have E212 := Ex.new (o := .tup [V.ref t205]) n211
        have h213 : (upd G209 t210 (.tup [V.ref t205])) t210 = some (.tup [V.ref t205]) := upd_same
        generalize upd G209 t210 (.tup [V.ref t205]) = G214 at *
        refine cat_tup (K := K) ((E187.trans (E192.trans (E197.trans (E202.trans (E207.trans E212))))) _ _ hc1.gts) ((Ex.refl _) _ _ h213) (sz_of (by simp only [List.length_map, hga, hra, hoa]; show _ + 1 ≤ _; omega)) fun c215 G216 E217 h218 => ?_
        refine ⟨_, rfl, _, rfl, ?_⟩
        refine ⟨(by show 4 ≤ sizeLine; decide), fun t219 n220 => ?_⟩
        have E221 := Ex.new (o := .tup [V.ref it, V.ref c215, V.ref rt, V.ref ot]) n220
        have h222 : (upd G216 t219 (.tup [V.ref it, V.ref c215, V.ref rt, V.ref ot])) t219 = some (.tup [V.ref it, V.ref c215, V.ref rt, V.ref ot]) := upd_same
        generalize upd G216 t219 (.tup [V.ref it, V.ref c215, V.ref rt, V.ref ot]) = G223 at *
        exact q t219 _ _ _ _ _ _ _ _ _ _ _ _ (X1.more (E187.trans (E192.trans (E197.trans (E202.trans (E207.trans (E212.trans (E217.trans E221)))))))) (circ_gates (hc1.te (.of (E187.trans (E192.trans (E197.trans (E202.trans (E207.trans (E212.trans (E217.trans E221))))))))) ((Ex.refl _) _ _ h222) (E221 _ _ h218) (gx := [t205]) (GX := [vG]) (.cons ⟨t185, t190, t200, [t195], ((E212.trans (E217.trans E221)) _ _ h208), ((E192.trans (E197.trans (E202.trans (E207.trans (E212.trans (E217.trans E221)))))) _ _ h188), ((E197.trans (E202.trans (E207.trans (E212.trans (E217.trans E221))))) _ _ h193), ((E207.trans (E212.trans (E217.trans E221))) _ _ h203), (.cons ((E202.trans (E207.trans (E212.trans (E217.trans E221)))) _ _ h198) .nil)⟩ .nil)) .vg
      | 1, _ =>
        refine ⟨_, rfl, rfl, _, rfl, it0C (by rfl) ?_⟩
        refine ⟨_, rfl, rfl, _, rfl, it1C (by rfl) ?_⟩
        refine ⟨_, rfl, _, rfl, _, rfl, ?_⟩
        refine ⟨(by show 2 ≤ sizeLine; decide), fun t224 n225 => ?_⟩
        have E226 := Ex.new (o := .tup [V.int (0), V.int (0)]) n225
        have h227 : (upd H1 t224 (.tup [V.int (0), V.int (0)])) t224 = some (.tup [V.int (0), V.int (0)]) := upd_same
        generalize upd H1 t224 (.tup [V.int (0), V.int (0)]) = G228 at *
        refine ⟨(by show 2 ≤ sizeLine; decide), fun t229 n230 => ?_⟩
        have E231 := Ex.new (o := .tup [V.int (0), V.int (1)]) n230
        have h232 : (upd G228 t229 (.tup [V.int (0), V.int (1)])) t229 = some (.tup [V.int (0), V.int (1)]) := upd_same
        generalize upd G228 t229 (.tup [V.int (0), V.int (1)]) = G233 at *
        refine ⟨(by show 7 ≤ sizeLine; decide), fun t234 n235 => ?_⟩
        have E236 := Ex.new (o := .tup [V.str "v", V.str "nowhere", V.ref t224, V.ref t229, V.int 0, V.int 0, V.bl true]) n235
        have h237 : (upd G233 t234 (.tup [V.str "v", V.str "nowhere", V.ref t224, V.ref t229, V.int 0, V.int 0, V.bl true])) t234 = some (.tup [V.str "v", V.str "nowhere", V.ref t224, V.ref t229, V.int 0, V.int 0, V.bl true]) := upd_same
        generalize upd G233 t234 (.tup [V.str "v", V.str "nowhere", V.ref t224, V.ref t229, V.int 0, V.int 0, V.bl true]) = G238 at *
        refine ⟨(by show 1 ≤ sizeLine; decide), fun t239 n240 => ?_⟩
        have E241 := Ex.new (o := .tup [V.ref t234]) n240
        have h242 : (upd G238 t239 (.tup [V.ref t234])) t239 = some (.tup [V.ref t234]) := upd_same
        generalize upd G238 t239 (.tup [V.ref t234]) = G243 at *
        refine cat_tup (K := K) ((E226.trans (E231.trans (E236.trans E241))) _ _ hc1.rgs) ((Ex.refl _) _ _ h242) (sz_of (by simp only [List.length_map, hga, hra, hoa]; show _ + 1 ≤ _; omega)) fun c244 G245 E246 h247 => ?_
        refine ⟨_, rfl, ?_⟩
        refine ⟨(by show 4 ≤ sizeLine; decide), fun t248 n249 => ?_⟩
        have E250 := Ex.new (o := .tup [V.ref it, V.ref gt, V.ref c244, V.ref ot]) n249
        have h251 : (upd G245 t248 (.tup [V.ref it, V.ref gt, V.ref c244, V.ref ot])) t248 = some (.tup [V.ref it, V.ref gt, V.ref c244, V.ref ot]) := upd_same
        generalize upd G245 t248 (.tup [V.ref it, V.ref gt, V.ref c244, V.ref ot]) = G252 at *
        exact q t248 _ _ _ _ _ _ _ _ _ _ _ _ (X1.more (E226.trans (E231.trans (E236.trans (E241.trans (E246.trans E250)))))) (circ_regs (hc1.te (.of (E226.trans (E231.trans (E236.trans (E241.trans (E246.trans E250))))))) ((Ex.refl _) _ _ h251) (E250 _ _ h247) (rx := [t234]) (RX := [vR]) (.cons ⟨t224, t229, ((E241.trans (E246.trans E250)) _ _ h237), ((E231.trans (E236.trans (E241.trans (E246.trans E250)))) _ _ h227), ((E236.trans (E241.trans (E246.trans E250))) _ _ h232)⟩ .nil)) .vr
      | 2, _ =>
        refine ⟨_, rfl, rfl, _, rfl, it0C (by rfl) ?_⟩
        refine ⟨_, rfl, rfl, _, rfl, it0C (by rfl) ?_⟩
        refine ⟨_, rfl, _, rfl, _, rfl, _, rfl, ?_⟩
        refine ⟨(by show 2 ≤ sizeLine; decide), fun t253 n254 => ?_⟩
        have E255 := Ex.new (o := .tup [V.str "v", V.str "nowhere"]) n254
        have h256 : (upd H1 t253 (.tup [V.str "v", V.str "nowhere"])) t253 = some (.tup [V.str "v", V.str "nowhere"]) := upd_same
        generalize upd H1 t253 (.tup [V.str "v", V.str "nowhere"]) = G257 at *
        refine ⟨(by show 1 ≤ sizeLine; decide), fun t258 n259 => ?_⟩
        have E260 := Ex.new (o := .tup [V.ref t253]) n259
        have h261 : (upd G257 t258 (.tup [V.ref t253])) t258 = some (.tup [V.ref t253]) := upd_same
        generalize upd G257 t258 (.tup [V.ref t253]) = G262 at *
        refine cat_tup (K := K) ((E255.trans E260) _ _ hc1.ots) ((Ex.refl _) _ _ h261) (sz_of (by simp only [List.length_map, hga, hra, hoa]; show _ + 1 ≤ _; omega)) fun c263 G264 E265 h266 => ?_
        refine ⟨(by show 4 ≤ sizeLine; decide), fun t267 n268 => ?_⟩
        have E269 := Ex.new (o := .tup [V.ref it, V.ref gt, V.ref rt, V.ref c263]) n268
        have h270 : (upd G264 t267 (.tup [V.ref it, V.ref gt, V.ref rt, V.ref c263])) t267 = some (.tup [V.ref it, V.ref gt, V.ref rt, V.ref c263]) := upd_same
        generalize upd G264 t267 (.tup [V.ref it, V.ref gt, V.ref rt, V.ref c263]) = G271 at *
        exact q t267 _ _ _ _ _ _ _ _ _ _ _ _ (X1.more (E255.trans (E260.trans (E265.trans E269)))) (circ_outs (hc1.te (.of (E255.trans (E260.trans (E265.trans E269))))) ((Ex.refl _) _ _ h270) (E269 _ _ h266) (ox := [t253]) (OX := [("v", "nowhere")]) (.cons ((E260.trans (E265.trans E269)) _ _ h256) .nil)) .vo
    | 3, _ =>
      refine ⟨_, rfl, rfl, _, rfl, it0C (by rfl) ?_⟩
      refine ⟨_, rfl, rfl, _, rfl, it0C (by rfl) ?_⟩
      refine ⟨_, rfl, rfl, _, rfl, it0C (by rfl) ?_⟩
      refine ⟨_, rfl, rfl, _, rfl, it1C (by rfl) ?_⟩
      refine ⟨_, rfl, ?_⟩
      refine ⟨(by show 2 ≤ sizeLine; decide), fun t272 n273 => ?_⟩
      have E274 := Ex.new (o := .tup [V.int (-1), V.int (4)]) n273
      have h275 : (upd H1 t272 (.tup [V.int (-1), V.int (4)])) t272 = some (.tup [V.int (-1), V.int (4)]) := upd_same
      generalize upd H1 t272 (.tup [V.int (-1), V.int (4)]) = G276 at *
      refine ⟨(by show 2 ≤ sizeLine; decide), fun t277 n278 => ?_⟩
      have E279 := Ex.new (o := .tup [V.int (3), V.int (4)]) n278
      have h280 : (upd G276 t277 (.tup [V.int (3), V.int (4)])) t277 = some (.tup [V.int (3), V.int (4)]) := upd_same
      generalize upd G276 t277 (.tup [V.int (3), V.int (4)]) = G281 at *
      refine ⟨(by show 2 ≤ sizeLine; decide), fun t282 n283 => ?_⟩
      have E284 := Ex.new (o := .tup [V.int (5), V.int (3)]) n283
      have h285 : (upd G281 t282 (.tup [V.int (5), V.int (3)])) t282 = some (.tup [V.int (5), V.int (3)]) := upd_same
      generalize upd G281 t282 (.tup [V.int (5), V.int (3)]) = G286 at *
      refine ⟨(by show 3 ≤ sizeLine; decide), fun l287 n288 => ?_⟩
      have E289 := Ex.new (o := .lst [V.ref t272, V.ref t277, V.ref t282]) n288
      have h290 : (upd G286 l287 (.lst [V.ref t272, V.ref t277, V.ref t282])) l287 = some (.lst [V.ref t272, V.ref t277, V.ref t282]) := upd_same
      generalize upd G286 l287 (.lst [V.ref t272, V.ref t277, V.ref t282]) = G291 at *
      have psel : ∃ (g : Addr) (pr : Int × Int), ([V.ref t272, V.ref t277, V.ref t282] : List V)[v]? = some (.ref g) ∧ IntsAt G291 g pr ∧ pr ∈ prs := by
        match v, hv with
        | 0, _ => exact ⟨_, (-1, 4), rfl, ((E279.trans (E284.trans E289)) _ _ h275), List.mem_cons_self ..⟩
        | 1, _ => exact ⟨_, (3, 4), rfl, ((E284.trans E289) _ _ h280), List.mem_cons_of_mem _ (List.mem_cons_self ..)⟩
        | 2, _ => exact ⟨_, (5, 3), rfl, (E289 _ _ h285), List.mem_cons_of_mem _ (List.mem_cons_of_mem _ (List.mem_cons_self ..))⟩
      obtain ⟨pa, pr, hsel, hpair, hprs⟩ := psel
      refine ⟨_, rfl, _, _, _, _, rfl, rfl, SqL.of ((Ex.refl _) _ _ h290), atI_nat (j := v) hsel, ?_⟩
      have X2 := X1.more (E274.trans (E279.trans (E284.trans E289)))
      refine ⟨_, rfl, p, a, 2, rfl, by decide, by decide, X2.pool, fun v2 H2 hv2 Z2 _ => ?_⟩
      have X2 := X2.trans Z2
      have hc2 := hc.te (TEx.px X2)
      have hpair := (IntsAt.te (TEx.px Z2) hpair)
      have hv2 : v2 < 2 := by omega
      match v2, hv2 with
      | 0, _ =>
        refine ⟨rfl, _, rfl, it1C (by rfl) ?_⟩
        refine ⟨_, rfl, _, rfl, ?_⟩
        refine ⟨(by show 2 ≤ sizeLine; decide), fun t292 n293 => ?_⟩
        have E294 := Ex.new (o := .tup [V.bl true, V.bl false]) n293
        have h295 : (upd H2 t292 (.tup [V.bl true, V.bl false])) t292 = some (.tup [V.bl true, V.bl false]) := upd_same
        generalize upd H2 t292 (.tup [V.bl true, V.bl false]) = G296 at *
        refine ⟨(by show 1 ≤ sizeLine; decide), fun t297 n298 => ?_⟩
        have E299 := Ex.new (o := .tup [V.str "i0"]) n298
        have h300 : (upd G296 t297 (.tup [V.str "i0"])) t297 = some (.tup [V.str "i0"]) := upd_same
        generalize upd G296 t297 (.tup [V.str "i0"]) = G301 at *
        refine ⟨_, rfl, ?_⟩
        refine ⟨(by show 1 ≤ sizeLine; decide), fun t302 n303 => ?_⟩
        have E304 := Ex.new (o := .tup [V.ref pa]) n303
        have h305 : (upd G301 t302 (.tup [V.ref pa])) t302 = some (.tup [V.ref pa]) := upd_same
        generalize upd G301 t302 (.tup [V.ref pa]) = G306 at *
        refine ⟨(by show 4 ≤ sizeLine; decide), fun t307 n308 => ?_⟩
        have E309 := Ex.new (o := .tup [V.str "u", V.ref t292, V.ref t297, V.ref t302]) n308
        have h310 : (upd G306 t307 (.tup [V.str "u", V.ref t292, V.ref t297, V.ref t302])) t307 = some (.tup [V.str "u", V.ref t292, V.ref t297, V.ref t302]) := upd_same
        generalize upd G306 t307 (.tup [V.str "u", V.ref t292, V.ref t297, V.ref t302]) = G311 at *
        refine ⟨(by show 1 ≤ sizeLine; decide), fun t312 n313 => ?_⟩
        have E314 := Ex.new (o := .tup [V.ref t307]) n313
        have h315 : (upd G311 t312 (.tup [V.ref t307])) t312 = some (.tup [V.ref t307]) := upd_same
        generalize upd G311 t312 (.tup [V.ref t307]) = G316 at *
        refine cat_tup (K := K) ((E294.trans (E299.trans (E304.trans (E309.trans E314)))) _ _ hc2.gts) ((Ex.refl _) _ _ h315) (sz_of (by simp only [List.length_map, hga, hra, hoa]; show _ + 1 ≤ _; omega)) fun c317 G318 E319 h320 => ?_
        refine ⟨_, rfl, _, rfl, ?_⟩
        refine ⟨(by show 4 ≤ sizeLine; decide), fun t321 n322 => ?_⟩
        have E323 := Ex.new (o := .tup [V.ref it, V.ref c317, V.ref rt, V.ref ot]) n322
        have h324 : (upd G318 t321 (.tup [V.ref it, V.ref c317, V.ref rt, V.ref ot])) t321 = some (.tup [V.ref it, V.ref c317, V.ref rt, V.ref ot]) := upd_same
        generalize upd G318 t321 (.tup [V.ref it, V.ref c317, V.ref rt, V.ref ot]) = G325 at *
        exact q t321 _ _ _ _ _ _ _ _ _ _ _ _ (X2.more (E294.trans (E299.trans (E304.trans (E309.trans (E314.trans (E319.trans E323))))))) (circ_gates (hc2.te (.of (E294.trans (E299.trans (E304.trans (E309.trans (E314.trans (E319.trans E323)))))))) ((Ex.refl _) _ _ h324) (E323 _ _ h320) (gx := [t307]) (GX := [uG pr]) (.cons ⟨t292, t297, t302, [pa], ((E314.trans (E319.trans E323)) _ _ h310), ((E299.trans (E304.trans (E309.trans (E314.trans (E319.trans E323))))) _ _ h295), ((E304.trans (E309.trans (E314.trans (E319.trans E323)))) _ _ h300), ((E309.trans (E314.trans (E319.trans E323))) _ _ h305), .cons (((E294.trans (E299.trans (E304.trans (E309.trans (E314.trans (E319.trans E323))))))) _ _ hpair) .nil⟩ .nil)) (.ug pr hprs)
      | 1, _ =>
        refine ⟨rfl, _, rfl, it0C (by rfl) ?_⟩
        refine ⟨(by show 2 ≤ sizeLine; decide), fun t326 n327 => ?_⟩
        have E328 := Ex.new (o := .tup [V.int (0), V.int (0)]) n327
        have h329 : (upd H2 t326 (.tup [V.int (0), V.int (0)])) t326 = some (.tup [V.int (0), V.int (0)]) := upd_same
        generalize upd H2 t326 (.tup [V.int (0), V.int (0)]) = G330 at *
        refine ⟨(by show 2 ≤ sizeLine; decide), fun t331 n332 => ?_⟩
        have E333 := Ex.new (o := .tup [V.int (0), V.int (1)]) n332
        have h334 : (upd G330 t331 (.tup [V.int (0), V.int (1)])) t331 = some (.tup [V.int (0), V.int (1)]) := upd_same
        generalize upd G330 t331 (.tup [V.int (0), V.int (1)]) = G335 at *
        refine ⟨_, rfl, ?_⟩
        refine ⟨(by show 4 ≤ sizeLine; decide), fun t336 n337 => ?_⟩
        have E338 := Ex.new (o := .tup [V.ref t326, V.ref t331, V.int (-1), V.int (0)]) n337
        have h339 : (upd G335 t336 (.tup [V.ref t326, V.ref t331, V.int (-1), V.int (0)])) t336 = some (.tup [V.ref t326, V.ref t331, V.int (-1), V.int (0)]) := upd_same
        generalize upd G335 t336 (.tup [V.ref t326, V.ref t331, V.int (-1), V.int (0)]) = G340 at *
        refine ⟨(by show 2 ≤ sizeLine; decide), fun t341 n342 => ?_⟩
        have E343 := Ex.new (o := .tup [V.int (2), V.int (1)]) n342
        have h344 : (upd G340 t341 (.tup [V.int (2), V.int (1)])) t341 = some (.tup [V.int (2), V.int (1)]) := upd_same
        generalize upd G340 t341 (.tup [V.int (2), V.int (1)]) = G345 at *
        refine ⟨(by show 2 ≤ sizeLine; decide), fun t346 n347 => ?_⟩
        have E348 := Ex.new (o := .tup [V.int (0), V.int (1)]) n347
        have h349 : (upd G345 t346 (.tup [V.int (0), V.int (1)])) t346 = some (.tup [V.int (0), V.int (1)]) := upd_same
        generalize upd G345 t346 (.tup [V.int (0), V.int (1)]) = G350 at *
        refine ⟨(by show 4 ≤ sizeLine; decide), fun t351 n352 => ?_⟩
        have E353 := Ex.new (o := .tup [V.ref t341, V.ref t346, V.int (0), V.int (0)]) n352
        have h354 : (upd G350 t351 (.tup [V.ref t341, V.ref t346, V.int (0), V.int (0)])) t351 = some (.tup [V.ref t341, V.ref t346, V.int (0), V.int (0)]) := upd_same
        generalize upd G350 t351 (.tup [V.ref t341, V.ref t346, V.int (0), V.int (0)]) = G355 at *
        refine ⟨(by show 2 ≤ sizeLine; decide), fun t356 n357 => ?_⟩
        have E358 := Ex.new (o := .tup [V.int (0), V.int (0)]) n357
        have h359 : (upd G355 t356 (.tup [V.int (0), V.int (0)])) t356 = some (.tup [V.int (0), V.int (0)]) := upd_same
        generalize upd G355 t356 (.tup [V.int (0), V.int (0)]) = G360 at *
        refine ⟨(by show 2 ≤ sizeLine; decide), fun t361 n362 => ?_⟩
        have E363 := Ex.new (o := .tup [V.int (0), V.int (3)]) n362
        have h364 : (upd G360 t361 (.tup [V.int (0), V.int (3)])) t361 = some (.tup [V.int (0), V.int (3)]) := upd_same
        generalize upd G360 t361 (.tup [V.int (0), V.int (3)]) = G365 at *
        refine ⟨(by show 4 ≤ sizeLine; decide), fun t366 n367 => ?_⟩
        have E368 := Ex.new (o := .tup [V.ref t356, V.ref t361, V.int (0), V.int (3)]) n367
        have h369 : (upd G365 t366 (.tup [V.ref t356, V.ref t361, V.int (0), V.int (3)])) t366 = some (.tup [V.ref t356, V.ref t361, V.int (0), V.int (3)]) := upd_same
        generalize upd G365 t366 (.tup [V.ref t356, V.ref t361, V.int (0), V.int (3)]) = G370 at *
        refine ⟨(by show 3 ≤ sizeLine; decide), fun l371 n372 => ?_⟩
        have E373 := Ex.new (o := .lst [V.ref t336, V.ref t351, V.ref t366]) n372
        have h374 : (upd G370 l371 (.lst [V.ref t336, V.ref t351, V.ref t366])) l371 = some (.lst [V.ref t336, V.ref t351, V.ref t366]) := upd_same
        generalize upd G370 l371 (.lst [V.ref t336, V.ref t351, V.ref t366]) = G375 at *
        have tsel : ∃ (g te to : Addr) (t : (Int × Int) × (Int × Int) × Int × Int), ([V.ref t336, V.ref t351, V.ref t366] : List V)[v]? = some (.ref g) ∧ G375 g = some (.tup [.ref te, .ref to, .int t.2.2.1, .int t.2.2.2]) ∧ IntsAt G375 te t.1 ∧ IntsAt G375 to t.2.1 ∧ t ∈ tms := by
          match v, hv with
          | 0, _ => exact ⟨_, t326, t331, ((0, 0), (0, 1), -1, 0), rfl, ((E343.trans (E348.trans (E353.trans (E358.trans (E363.trans (E368.trans E373)))))) _ _ h339), ((E333.trans (E338.trans (E343.trans (E348.trans (E353.trans (E358.trans (E363.trans (E368.trans E373)))))))) _ _ h329), ((E338.trans (E343.trans (E348.trans (E353.trans (E358.trans (E363.trans (E368.trans E373))))))) _ _ h334), List.mem_cons_self ..⟩
          | 1, _ => exact ⟨_, t341, t346, ((2, 1), (0, 1), 0, 0), rfl, ((E358.trans (E363.trans (E368.trans E373))) _ _ h354), ((E348.trans (E353.trans (E358.trans (E363.trans (E368.trans E373))))) _ _ h344), ((E353.trans (E358.trans (E363.trans (E368.trans E373)))) _ _ h349), List.mem_cons_of_mem _ (List.mem_cons_self ..)⟩
          | 2, _ => exact ⟨_, t356, t361, ((0, 0), (0, 3), 0, 3), rfl, (E373 _ _ h369), ((E363.trans (E368.trans E373)) _ _ h359), ((E368.trans E373) _ _ h364), List.mem_cons_of_mem _ (List.mem_cons_of_mem _ (List.mem_cons_self ..))⟩
        obtain ⟨tg, te, to, tm, hsel2, htg, hte, hto, htm⟩ := tsel
        refine ⟨_, rfl, _, _, _, _, rfl, rfl, SqL.of ((Ex.refl _) _ _ h374), atI_nat (j := v) hsel2, ?_⟩
        refine ⟨_, rfl, _, rfl, _, rfl, ?_⟩
        refine ⟨_, rfl, _, _, _, _, rfl, rfl, SqT.of htg, atI_nat (j := 0) rfl, _, rfl, _, _, _, _, rfl, rfl, SqT.of htg, atI_nat (j := 1) rfl, _, rfl, _, _, _, _, rfl, rfl, SqT.of htg, atI_nat (j := 2) rfl, _, rfl, _, _, _, _, rfl, rfl, SqT.of htg, atI_nat (j := 3) rfl, ?_⟩
        refine ⟨(by show 7 ≤ sizeLine; decide), fun t376 n377 => ?_⟩
        have E378 := Ex.new (o := .tup [V.str "u", V.str "i0", V.ref te, V.ref to, V.int tm.2.2.1, V.int tm.2.2.2, V.bl true]) n377
        have h379 : (upd G375 t376 (.tup [V.str "u", V.str "i0", V.ref te, V.ref to, V.int tm.2.2.1, V.int tm.2.2.2, V.bl true])) t376 = some (.tup [V.str "u", V.str "i0", V.ref te, V.ref to, V.int tm.2.2.1, V.int tm.2.2.2, V.bl true]) := upd_same
        generalize upd G375 t376 (.tup [V.str "u", V.str "i0", V.ref te, V.ref to, V.int tm.2.2.1, V.int tm.2.2.2, V.bl true]) = G380 at *
        refine ⟨(by show 1 ≤ sizeLine; decide), fun t381 n382 => ?_⟩
        have E383 := Ex.new (o := .tup [V.ref t376]) n382
        have h384 : (upd G380 t381 (.tup [V.ref t376])) t381 = some (.tup [V.ref t376]) := upd_same
        generalize upd G380 t381 (.tup [V.ref t376]) = G385 at *
        refine cat_tup (K := K) ((E328.trans (E333.trans (E338.trans (E343.trans (E348.trans (E353.trans (E358.trans (E363.trans (E368.trans (E373.trans (E378.trans E383))))))))))) _ _ hc2.rgs) ((Ex.refl _) _ _ h384) (sz_of (by simp only [List.length_map, hga, hra, hoa]; show _ + 1 ≤ _; omega)) fun c386 G387 E388 h389 => ?_
        refine ⟨_, rfl, ?_⟩
        refine ⟨(by show 4 ≤ sizeLine; decide), fun t390 n391 => ?_⟩
        have E392 := Ex.new (o := .tup [V.ref it, V.ref gt, V.ref c386, V.ref ot]) n391
        have h393 : (upd G387 t390 (.tup [V.ref it, V.ref gt, V.ref c386, V.ref ot])) t390 = some (.tup [V.ref it, V.ref gt, V.ref c386, V.ref ot]) := upd_same
        generalize upd G387 t390 (.tup [V.ref it, V.ref gt, V.ref c386, V.ref ot]) = G394 at *
        exact q t390 _ _ _ _ _ _ _ _ _ _ _ _ (X2.more (E328.trans (E333.trans (E338.trans (E343.trans (E348.trans (E353.trans (E358.trans (E363.trans (E368.trans (E373.trans (E378.trans (E383.trans (E388.trans E392)))))))))))))) (circ_regs (hc2.te (.of (E328.trans (E333.trans (E338.trans (E343.trans (E348.trans (E353.trans (E358.trans (E363.trans (E368.trans (E373.trans (E378.trans (E383.trans (E388.trans E392))))))))))))))) ((Ex.refl _) _ _ h393) (E392 _ _ h389) (rx := [t376]) (RX := [uR tm]) (.cons ⟨te, to, ((E383.trans (E388.trans E392)) _ _ h379), ((E378.trans (E383.trans (E388.trans E392))) _ _ hte), ((E378.trans (E383.trans (E388.trans E392))) _ _ hto)⟩ .nil)) (.ur tm htm)
    | 4, _ =>
      refine ⟨_, rfl, rfl, _, rfl, it0C (by rfl) ?_⟩
      refine ⟨_, rfl, rfl, _, rfl, it0C (by rfl) ?_⟩
      refine ⟨_, rfl, rfl, _, rfl, it0C (by rfl) ?_⟩
      refine ⟨_, rfl, rfl, _, rfl, it0C (by rfl) ?_⟩
      refine ⟨(by show 3 ≤ sizeLine; decide), fun l395 n396 => ?_⟩
      have E397 := Ex.new (o := .lst [V.int 1, V.int 2, V.int 4]) n396
      have h398 : (upd H1 l395 (.lst [V.int 1, V.int 2, V.int 4])) l395 = some (.lst [V.int 1, V.int 2, V.int 4]) := upd_same
      generalize upd H1 l395 (.lst [V.int 1, V.int 2, V.int 4]) = G399 at *
      have msel : ∃ m : Nat, ([V.int 1, V.int 2, V.int 4] : List V)[v]? = some (.int (m : Int)) ∧ (m = 1 ∨ m = 2 ∨ m = 4) := by
        match v, hv with
        | 0, _ => exact ⟨1, rfl, .inl rfl⟩
        | 1, _ => exact ⟨2, rfl, .inr (.inl rfl)⟩
        | 2, _ => exact ⟨4, rfl, .inr (.inr rfl)⟩
      obtain ⟨m, hsel, hm⟩ := msel
      refine ⟨_, rfl, _, _, _, _, rfl, rfl, SqL.of h398, atI_nat (j := v) hsel, Nat.zero_le _, fun AL nAL => ?_⟩
      have EA := E397.trans (Ex.new (o := .lst []) nAL)
      have hAL : (upd G399 AL (.lst [])) AL = some (.lst []) := upd_same
      have nA1 : H1 AL = none := fresh_back E397 nAL
      generalize upd G399 AL (.lst []) = GA at *
      refine ⟨_, rfl, rfl, _, rfl, it1C (by rfl) ?_⟩
      refine ⟨_, rfl, _, rfl, by omega, by omega, for_range (n := ((m : Nat) : Int).toNat)
        (fun i σ H' => Ex H1 H' ∧ ∃ (as : List Addr) (z13 : Option V), H' AL = some (.lst (as.map V.ref)) ∧ All2 (GateAt H') as ((List.range i).map (cyG m)) ∧ σ = [some (.ref p), some (.ref c), some (.int ((4 : Nat) : Int)), some (.ref it), some (.ref gt), some (.ref rt), some (.ref ot), some (.int (v : Int)), none, none, none, some (.int (m : Int)), some (.ref AL), z13])
        ⟨EA, [], _, hAL, .nil, rfl⟩ ?_ ?_⟩
      · rintro i σ H5 hi ⟨E5, as, z13, hA, hG, rfl⟩
        have hi : i < m := by rw [Int.toNat_natCast] at hi; exact hi
        rw [Int.zero_add]
        have hl1 : ("c" : Str).length = 1 := rfl
        have hlog : ∀ k : Nat, k ≤ 200 → ((k : Nat) : Int).natAbs.log2 < 1920 ∧ (Str.ofString (toString ((k : Nat) : Int))).length ≤ 9 := fun k hk => by
          refine ⟨?_, by rw [len_tl, tl_num]; exact numL_len (k := 9) (by decide) (by omega)⟩
          have : (k : Int).natAbs < 2 ^ 30 := by rw [Int.natAbs_natCast]; omega
          have := PySem.Flt.log2_lt_of (by decide : 0 < 30) this
          omega
        obtain ⟨hlg, hli⟩ := hlog i (by omega)
        refine ⟨_, rfl, .inl ⟨rfl, _, SqL.of hA⟩, _, rfl, _, rfl, hlg, _, _, rfl, rfl, sz_of (by omega), ?_⟩
        refine ⟨(by show 2 ≤ sizeLine; decide), fun t400 n401 => ?_⟩
        have E402 := Ex.new (o := .tup [V.bl true, V.bl false]) n401
        have h403 : (upd H5 t400 (.tup [V.bl true, V.bl false])) t400 = some (.tup [V.bl true, V.bl false]) := upd_same
        generalize upd H5 t400 (.tup [V.bl true, V.bl false]) = G404 at *
        have hmod : (((i : Nat) : Int) + 1) % ((m : Nat) : Int) = (((i + 1) % m : Nat) : Int) := by rw [Int.natCast_emod]; rfl
        obtain ⟨hlg2, hli2⟩ := hlog ((i + 1) % m) (by have := Nat.mod_lt (i + 1) (show 0 < m by omega); omega)
        refine ⟨_, rfl, _, _, rfl, rfl, .inl ⟨_, rfl, _, rfl, _, _, rfl, rfl, by omega, ?_⟩⟩
        refine ⟨_, rfl, (by rw [hmod]; exact hlg2), _, _, rfl, rfl, sz_of (by rw [hmod]; omega), ?_⟩
        refine ⟨(by show 1 ≤ sizeLine; decide), fun t405 n406 => ?_⟩
        have E407 := Ex.new (o := .tup [V.str (("c" : Str) ++ Str.ofString (toString ((((i : Nat) : Int) + 1) % ((m : Nat) : Int))))]) n406
        have h408 : (upd G404 t405 (.tup [V.str (("c" : Str) ++ Str.ofString (toString ((((i : Nat) : Int) + 1) % ((m : Nat) : Int))))])) t405 = some (.tup [V.str (("c" : Str) ++ Str.ofString (toString ((((i : Nat) : Int) + 1) % ((m : Nat) : Int))))]) := upd_same
        generalize upd G404 t405 (.tup [V.str (("c" : Str) ++ Str.ofString (toString ((((i : Nat) : Int) + 1) % ((m : Nat) : Int))))]) = G409 at *
        rw [hmod] at h408
        refine ⟨(by show 2 ≤ sizeLine; decide), fun t410 n411 => ?_⟩
        have E412 := Ex.new (o := .tup [V.int 0, V.int 2]) n411
        have h413 : (upd G409 t410 (.tup [V.int 0, V.int 2])) t410 = some (.tup [V.int 0, V.int 2]) := upd_same
        generalize upd G409 t410 (.tup [V.int 0, V.int 2]) = G414 at *
        refine ⟨(by show 1 ≤ sizeLine; decide), fun t415 n416 => ?_⟩
        have E417 := Ex.new (o := .tup [V.ref t410]) n416
        have h418 : (upd G414 t415 (.tup [V.ref t410])) t415 = some (.tup [V.ref t410]) := upd_same
        generalize upd G414 t415 (.tup [V.ref t410]) = G419 at *
        refine ⟨(by show 4 ≤ sizeLine; decide), fun t420 n421 => ?_⟩
        have E422 := Ex.new (o := .tup [V.str (("c" : Str) ++ Str.ofString (toString ((i : Nat) : Int))), V.ref t400, V.ref t405, V.ref t415]) n421
        have h423 : (upd G419 t420 (.tup [V.str (("c" : Str) ++ Str.ofString (toString ((i : Nat) : Int))), V.ref t400, V.ref t405, V.ref t415])) t420 = some (.tup [V.str (("c" : Str) ++ Str.ofString (toString ((i : Nat) : Int))), V.ref t400, V.ref t405, V.ref t415]) := upd_same
        generalize upd G419 t420 (.tup [V.str (("c" : Str) ++ Str.ofString (toString ((i : Nat) : Int))), V.ref t400, V.ref t405, V.ref t415]) = G424 at *
        have hgate : GateAt G424 t420 (cyG m i) := ⟨t400, t405, t415, [t410], ((Ex.refl _) _ _ h423), ((E407.trans (E412.trans (E417.trans E422))) _ _ h403), ((E412.trans (E417.trans E422)) _ _ h408), (E422 _ _ h418), .cons ((E417.trans E422) _ _ h413) .nil⟩
        have hAn := (E402.trans (E407.trans (E412.trans (E417.trans E422)))) _ _ hA
        have hl : as.length = i := by rw [hG.1, List.length_map, List.length_range]
        refine ⟨AL, _, _, rfl, rfl, hAn, sz_lt (by rw [List.length_map]; omega), (E5.trans (E402.trans (E407.trans (E412.trans (E417.trans E422))))).mut nA1, as ++ [t420], _, by rw [upd_same, List.map_append]; rfl, ?_, rfl⟩
        rw [List.range_succ, List.map_append]
        have TM : TEx G424 (upd G424 AL (.lst (as.map V.ref ++ [V.ref t420]))) := TEx.mut hAn
        exact (hG.imp fun _ _ z => (z.te (TEx.of (E402.trans (E407.trans (E412.trans (E417.trans E422)))))).te TM).snoc (hgate.te TM)
      · rintro σ H5 ⟨E5, as, z13, hA, hG, rfl⟩
        rw [Int.toNat_natCast] at hG
        have hG : All2 (GateAt H5) as ((List.range m).map (cyG m)) := hG
        have Y5 : Px p a H1 H5 := (Px.refl X1.pool).more E5
        refine ⟨_, rfl, _, rfl, _, rfl, _, rfl, p, a, AL, as.map V.ref, rfl, Y5.pool, Y5.seen nA1 hA, by rw [List.length_map, hG.1, List.length_map, List.length_range]; omega, fun o ys H7 X7 no ho hperm => ?_⟩
        obtain ⟨gb, GB, rfl, hGB, hGp⟩ := perm_refs (hG.imp fun _ _ z => z.te (TEx.px X7)) hperm
        have X2 := X1.trans (Y5.trans X7)
        have hc2 := hc.te (TEx.px X2)
        refine ⟨o, _, rfl, .inl ⟨SqL.of ho, fun tg ntg => ?_⟩⟩
        have Et := Ex.new (o := .tup (gb.map V.ref)) ntg
        have htg : (upd H7 tg (.tup (gb.map V.ref))) tg = some (.tup (gb.map V.ref)) := upd_same
        generalize upd H7 tg (.tup (gb.map V.ref)) = G7 at *
        have hgb : gb.length = m := by rw [hGB.1, hGp.length_eq, List.length_map, List.length_range]
        refine cat_tup (K := K) (Et _ _ hc2.gts) htg (sz_of (by simp only [List.length_map, hga, hgb]; omega)) fun c425 G426 E427 h428 => ?_
        refine ⟨_, rfl, _, rfl, ?_⟩
        refine ⟨(by show 4 ≤ sizeLine; decide), fun t429 n430 => ?_⟩
        have E431 := Ex.new (o := .tup [V.ref it, V.ref c425, V.ref rt, V.ref ot]) n430
        have h432 : (upd G426 t429 (.tup [V.ref it, V.ref c425, V.ref rt, V.ref ot])) t429 = some (.tup [V.ref it, V.ref c425, V.ref rt, V.ref ot]) := upd_same
        generalize upd G426 t429 (.tup [V.ref it, V.ref c425, V.ref rt, V.ref ot]) = G433 at *
        exact q t429 _ _ _ _ _ _ _ _ _ _ _ _ (X2.more (Et.trans (E427.trans E431))) (circ_gates (hc2.te (.of (Et.trans (E427.trans E431)))) ((Ex.refl _) _ _ h432) (E431 _ _ h428) (gx := gb) (GX := GB) (hGB.imp fun _ _ z => z.te (TEx.of (Et.trans (E427.trans E431))))) (.c m GB hm hGp)
    | 5, _ =>
      refine ⟨_, rfl, rfl, _, rfl, it0C (by rfl) ?_⟩
      refine ⟨_, rfl, rfl, _, rfl, it0C (by rfl) ?_⟩
      refine ⟨_, rfl, rfl, _, rfl, it0C (by rfl) ?_⟩
      refine ⟨_, rfl, rfl, _, rfl, it0C (by rfl) ?_⟩
      refine ⟨(by show 3 ≤ sizeLine; decide), fun l434 n435 => ?_⟩
      have E436 := Ex.new (o := .lst [V.int 1, V.int 2, V.int 4]) n435
      have h437 : (upd H1 l434 (.lst [V.int 1, V.int 2, V.int 4])) l434 = some (.lst [V.int 1, V.int 2, V.int 4]) := upd_same
      generalize upd H1 l434 (.lst [V.int 1, V.int 2, V.int 4]) = G438 at *
      have msel : ∃ m : Nat, ([V.int 1, V.int 2, V.int 4] : List V)[v]? = some (.int (m : Int)) ∧ (m = 1 ∨ m = 2 ∨ m = 4) := by
        match v, hv with
        | 0, _ => exact ⟨1, rfl, .inl rfl⟩
        | 1, _ => exact ⟨2, rfl, .inr (.inl rfl)⟩
        | 2, _ => exact ⟨4, rfl, .inr (.inr rfl)⟩
      obtain ⟨m, hsel, hm⟩ := msel
      refine ⟨_, rfl, _, _, _, _, rfl, rfl, SqL.of h437, atI_nat (j := v) hsel, Nat.zero_le _, fun AL nAL => ?_⟩
      have EA := E436.trans (Ex.new (o := .lst []) nAL)
      have hAL : (upd G438 AL (.lst [])) AL = some (.lst []) := upd_same
      have nA1 : H1 AL = none := fresh_back E436 nAL
      generalize upd G438 AL (.lst []) = GA at *
      refine ⟨_, rfl, rfl, _, rfl, it0C (by rfl) ?_⟩
      refine ⟨101, rfl, by decide, by decide, for_range (n := (101 : Int).toNat)
        (fun i σ H' => Ex H1 H' ∧ ∃ (as : List Addr) (z13 : Option V), H' AL = some (.lst (as.map V.ref)) ∧ All2 (GateAt H') as ((List.range i).map (dcG)) ∧ σ = [some (.ref p), some (.ref c), some (.int ((5 : Nat) : Int)), some (.ref it), some (.ref gt), some (.ref rt), some (.ref ot), some (.int (v : Int)), none, none, none, some (.int (m : Int)), some (.ref AL), z13])
        ⟨EA, [], _, hAL, .nil, rfl⟩ ?_ ?_⟩
      · rintro i σ H5 hi ⟨E5, as, z13, hA, hG, rfl⟩
        have hi : i < 101 := by exact hi
        rw [Int.zero_add]
        have hl1 : ("d" : Str).length = 1 := rfl
        have hlog : ∀ k : Nat, k ≤ 200 → ((k : Nat) : Int).natAbs.log2 < 1920 ∧ (Str.ofString (toString ((k : Nat) : Int))).length ≤ 9 := fun k hk => by
          refine ⟨?_, by rw [len_tl, tl_num]; exact numL_len (k := 9) (by decide) (by omega)⟩
          have : (k : Int).natAbs < 2 ^ 30 := by rw [Int.natAbs_natCast]; omega
          have := PySem.Flt.log2_lt_of (by decide : 0 < 30) this
          omega
        obtain ⟨hlg, hli⟩ := hlog i (by omega)
        refine ⟨_, rfl, .inl ⟨rfl, _, SqL.of hA⟩, _, rfl, _, rfl, hlg, _, _, rfl, rfl, sz_of (by omega), ?_⟩
        refine ⟨(by show 2 ≤ sizeLine; decide), fun t439 n440 => ?_⟩
        have E441 := Ex.new (o := .tup [V.bl true, V.bl false]) n440
        have h442 : (upd H5 t439 (.tup [V.bl true, V.bl false])) t439 = some (.tup [V.bl true, V.bl false]) := upd_same
        generalize upd H5 t439 (.tup [V.bl true, V.bl false]) = G443 at *
        have hlg1 : ((i : Nat) - 1 : Int).natAbs.log2 < 1920 := by
          have : ((i : Nat) - 1 : Int).natAbs < 2 ^ 30 := by omega
          have := PySem.Flt.log2_lt_of (by decide : 0 < 30) this
          omega
        have hlm : (Str.ofString (toString ((i : Nat) - 1 : Int))).length ≤ 9 := by
          by_cases e : i = 0
          · subst e; decide
          · rw [show ((i : Nat) - 1 : Int) = ((i - 1 : Nat) : Int) by omega]; exact (hlog (i - 1) (by omega)).2
        refine ⟨_, rfl, _, _, rfl, rfl, _, rfl, hlg1, _, _, rfl, rfl, sz_of (by omega), ?_⟩
        refine ⟨(by show 2 ≤ sizeLine; decide), fun l444 n445 => ?_⟩
        have E446 := Ex.new (o := .lst [V.str (("d" : Str) ++ Str.ofString (toString ((i : Nat) - 1 : Int))), V.str ("i0" : Str)]) n445
        have h447 : (upd G443 l444 (.lst [V.str (("d" : Str) ++ Str.ofString (toString ((i : Nat) - 1 : Int))), V.str ("i0" : Str)])) l444 = some (.lst [V.str (("d" : Str) ++ Str.ofString (toString ((i : Nat) - 1 : Int))), V.str ("i0" : Str)]) := upd_same
        generalize upd G443 l444 (.lst [V.str (("d" : Str) ++ Str.ofString (toString ((i : Nat) - 1 : Int))), V.str ("i0" : Str)]) = G448 at *
        refine ⟨_, rfl, rfl, .inr ⟨_, rfl, l444, _, _, .str (if i = 0 then ("i0" : Str) else nm "d" (i - 1)), rfl, rfl, SqL.of h447, ?_, ?_⟩⟩
        · by_cases e : i = 0
          · subst e; rfl
          · rw [if_neg (show ¬ decide (V.int ((i : Nat) : Int) = V.int 0) = true from fun z => e (by have := of_decide_eq_true z; injection this; omega)), if_neg e]
            show some (V.str (("d" : Str) ++ Str.ofString (toString ((i : Nat) - 1 : Int)))) = some (V.str (("d" : Str) ++ Str.ofString (toString ((i - 1 : Nat) : Int))))
            rw [show ((i : Nat) - 1 : Int) = ((i - 1 : Nat) : Int) by omega]
        refine ⟨(by show 1 ≤ sizeLine; decide), fun t449 n450 => ?_⟩
        have E451 := Ex.new (o := .tup [V.str (if i = 0 then ("i0" : Str) else nm "d" (i - 1))]) n450
        have h452 : (upd G448 t449 (.tup [V.str (if i = 0 then ("i0" : Str) else nm "d" (i - 1))])) t449 = some (.tup [V.str (if i = 0 then ("i0" : Str) else nm "d" (i - 1))]) := upd_same
        generalize upd G448 t449 (.tup [V.str (if i = 0 then ("i0" : Str) else nm "d" (i - 1))]) = G453 at *
        refine ⟨(by show 2 ≤ sizeLine; decide), fun t454 n455 => ?_⟩
        have E456 := Ex.new (o := .tup [V.int 0, V.int 2]) n455
        have h457 : (upd G453 t454 (.tup [V.int 0, V.int 2])) t454 = some (.tup [V.int 0, V.int 2]) := upd_same
        generalize upd G453 t454 (.tup [V.int 0, V.int 2]) = G458 at *
        refine ⟨(by show 1 ≤ sizeLine; decide), fun t459 n460 => ?_⟩
        have E461 := Ex.new (o := .tup [V.ref t454]) n460
        have h462 : (upd G458 t459 (.tup [V.ref t454])) t459 = some (.tup [V.ref t454]) := upd_same
        generalize upd G458 t459 (.tup [V.ref t454]) = G463 at *
        refine ⟨(by show 4 ≤ sizeLine; decide), fun t464 n465 => ?_⟩
        have E466 := Ex.new (o := .tup [V.str (("d" : Str) ++ Str.ofString (toString ((i : Nat) : Int))), V.ref t439, V.ref t449, V.ref t459]) n465
        have h467 : (upd G463 t464 (.tup [V.str (("d" : Str) ++ Str.ofString (toString ((i : Nat) : Int))), V.ref t439, V.ref t449, V.ref t459])) t464 = some (.tup [V.str (("d" : Str) ++ Str.ofString (toString ((i : Nat) : Int))), V.ref t439, V.ref t449, V.ref t459]) := upd_same
        generalize upd G463 t464 (.tup [V.str (("d" : Str) ++ Str.ofString (toString ((i : Nat) : Int))), V.ref t439, V.ref t449, V.ref t459]) = G468 at *
        have hgate : GateAt G468 t464 (dcG i) := ⟨t439, t449, t459, [t454], ((Ex.refl _) _ _ h467), ((E446.trans (E451.trans (E456.trans (E461.trans E466)))) _ _ h442), ((E456.trans (E461.trans E466)) _ _ h452), (E466 _ _ h462), .cons ((E461.trans E466) _ _ h457) .nil⟩
        have hAn := (E441.trans (E446.trans (E451.trans (E456.trans (E461.trans E466))))) _ _ hA
        have hl : as.length = i := by rw [hG.1, List.length_map, List.length_range]
        refine ⟨AL, _, _, rfl, rfl, hAn, sz_lt (by rw [List.length_map]; omega), (E5.trans (E441.trans (E446.trans (E451.trans (E456.trans (E461.trans E466)))))).mut nA1, as ++ [t464], _, by rw [upd_same, List.map_append]; rfl, ?_, rfl⟩
        rw [List.range_succ, List.map_append]
        have TM : TEx G468 (upd G468 AL (.lst (as.map V.ref ++ [V.ref t464]))) := TEx.mut hAn
        exact (hG.imp fun _ _ z => (z.te (TEx.of (E441.trans (E446.trans (E451.trans (E456.trans (E461.trans E466))))))).te TM).snoc (hgate.te TM)
      · rintro σ H5 ⟨E5, as, z13, hA, hG, rfl⟩
        have hG : All2 (GateAt H5) as ((List.range 101).map (dcG)) := hG
        have Y5 : Px p a H1 H5 := (Px.refl X1.pool).more E5
        refine ⟨_, rfl, _, rfl, _, rfl, _, rfl, p, a, AL, as.map V.ref, rfl, Y5.pool, Y5.seen nA1 hA, by rw [List.length_map, hG.1, List.length_map, List.length_range]; omega, fun o ys H7 X7 no ho hperm => ?_⟩
        obtain ⟨gb, GB, rfl, hGB, hGp⟩ := perm_refs (hG.imp fun _ _ z => z.te (TEx.px X7)) hperm
        have X2 := X1.trans (Y5.trans X7)
        have hc2 := hc.te (TEx.px X2)
        refine ⟨o, _, rfl, .inl ⟨SqL.of ho, fun tg ntg => ?_⟩⟩
        have Et := Ex.new (o := .tup (gb.map V.ref)) ntg
        have htg : (upd H7 tg (.tup (gb.map V.ref))) tg = some (.tup (gb.map V.ref)) := upd_same
        generalize upd H7 tg (.tup (gb.map V.ref)) = G7 at *
        have hgb : gb.length = 101 := by rw [hGB.1, hGp.length_eq, List.length_map, List.length_range]
        refine cat_tup (K := K) (Et _ _ hc2.gts) htg (sz_of (by simp only [List.length_map, hga, hgb]; omega)) fun c469 G470 E471 h472 => ?_
        refine ⟨_, rfl, _, rfl, ?_⟩
        refine ⟨(by show 4 ≤ sizeLine; decide), fun t473 n474 => ?_⟩
        have E475 := Ex.new (o := .tup [V.ref it, V.ref c469, V.ref rt, V.ref ot]) n474
        have h476 : (upd G470 t473 (.tup [V.ref it, V.ref c469, V.ref rt, V.ref ot])) t473 = some (.tup [V.ref it, V.ref c469, V.ref rt, V.ref ot]) := upd_same
        generalize upd G470 t473 (.tup [V.ref it, V.ref c469, V.ref rt, V.ref ot]) = G477 at *
        exact q t473 _ _ _ _ _ _ _ _ _ _ _ _ (X2.more (Et.trans (E471.trans E475))) (circ_gates (hc2.te (.of (Et.trans (E471.trans E475)))) ((Ex.refl _) _ _ h476) (E475 _ _ h472) (gx := gb) (GX := GB) (hGB.imp fun _ _ z => z.te (TEx.of (Et.trans (E471.trans E475))))) (.d GB hGp)
end
end G
namespace G
open PySem PySem.Spec PyProof.Rows L2 Evl TL
structure TxtM2 (mg : Str → Option Value) : Prop where
  range : mg "range" = none
  min : mg "min" = none
section
variable {P : Program} {w : World} {K : PySem.W.Frag} {mg : Str → Option Value} {base : Heap}
def spLaw (K : PySem.W.Frag) : Sp := fun vs H Q _ => ∃ (a : Addr) (ns : List Int), vs = [.ref a] ∧ SqL K H a (ns.map V.int) ∧ ns.length ≤ 63 ∧ ∀ H', Q (.bl true) H'
theorem sc_law : FnScope ["script", "pool", "turn", "circuit", "rule", "other"] ["script"] (defScope s_law) := ⟨rfl, rfl, rfl, by decide +kernel, rfl, by decide +kernel, by decide +kernel⟩
theorem fn_law {Cn Cw Cu Cr Dc Lc : Addr} {f : Addr} {fd : FuncData} (F : Fun K "law" "law" s_law f fd) (T : TxtM2 mg) (C1 : Has P w K mg base 1 "_law_pool" ["script"] (spPool K)) (C2 : Has P w K mg base 2 "_law_draw" ["pool", "many"] spDrawX) (C3 : Has P w K mg base 4 "_law_circuit" ["pool", "most"] spCirc)
    (C4 : HasN P w K mg base 5 "check_circuit" ["circuit"] (spCkD Cn Cw Cu Cr Dc Lc)) (C5 : Has P w K mg base 4 "_law_broken" ["pool", "circuit", "rule"] spBroken) (C6 : Has P w K mg base 6 "_law_told" ["circuit", "rule"] spTold) : FnOk P w K mg base CX0 7 f fd ["script"] (spLaw K) := by
  obtain ⟨f_law_pool, d_law_pool, G_law_pool, g_law_pool, k_law_pool, b_law_pool⟩ := C1
  obtain ⟨f_law_draw, d_law_draw, G_law_draw, g_law_draw, k_law_draw, b_law_draw⟩ := C2
  obtain ⟨f_law_circuit, d_law_circuit, G_law_circuit, g_law_circuit, k_law_circuit, b_law_circuit⟩ := C3
  obtain ⟨f_check_circuit, d_check_circuit, G_check_circuit, g_check_circuit, k_check_circuit, b_check_circuit⟩ := C4
  obtain ⟨f_law_broken, d_law_broken, G_law_broken, g_law_broken, k_law_broken, b_law_broken⟩ := C5
  obtain ⟨f_law_told, d_law_told, G_law_told, g_law_told, k_law_told, b_law_told⟩ := C6
  refine F.ok sc_law (fun vs H Q E h => ?_) (fun cdv A outer s H vs Q E hr h => ?_)
  · obtain ⟨a, ns, rfl, _⟩ := h
    rfl
  · obtain ⟨sa, ns, rfl, hs, hn, q⟩ := h
    refine ⟨_, (pss_cons (ps_set (i := 1) sc_law.nd rfl (.inl rfl) (pe_call G_law_pool (hr.mono (by omega)) (by rfl) g_law_pool k_law_pool b_law_pool .nil pass0 (pa_cons (pv 0) pa_nil)))
    (pss_cons (ps_for PassesOwn.never rfl (pi_range1 rfl T.range (pa_cons pe_int pa_nil)) (pg_name (i := 2) sc_law.nd rfl (.inl rfl))
      (pss_cons (ps_set (i := 3) sc_law.nd rfl (.inl rfl) (pe_call G_law_circuit (hr.mono (by omega)) (by rfl) g_law_circuit k_law_circuit b_law_circuit .nil pass0 (pa_cons (pv 1) (pa_cons pe_int pa_nil))))
      (pss_cons (ps_if (pt_cmpR op_notN (pe_call G_check_circuit (hr.mono (by omega)) (by rfl) g_check_circuit k_check_circuit b_check_circuit .nil passN0 (pa_cons (pv 3) pa_nil)) pe_non (nomark _))
        (pss_one (ps_ret pe_bl))
        pss_nil)
      (pss_cons (ps_set (i := 4) sc_law.nd rfl (.inl rfl) (pe_call G_law_draw (hr.mono (by omega)) (by rfl) g_law_draw k_law_draw b_law_draw .nil pass0 (pa_cons (pv 1) (pa_cons pe_int pa_nil))))
      (pss_cons (ps_if (pt_not (pt_val (pe_call G_law_told (hr.mono (by omega)) (by rfl) g_law_told k_law_told b_law_told .nil pass0 (pa_cons (pe_call G_law_broken (hr.mono (by omega)) (by rfl) g_law_broken k_law_broken b_law_broken .nil pass0 (pa_cons (pv 1) (pa_cons (pv 3) (pa_cons (pv 4) pa_nil)))) (pa_cons (pv 4) pa_nil)))))
        (pss_one (ps_ret pe_bl))
        pss_nil)
      (pss_cons (ps_set (i := 5) sc_law.nd rfl (.inl rfl) (pe_call G_law_draw (hr.mono (by omega)) (by rfl) g_law_draw k_law_draw b_law_draw .nil pass0 (pa_cons (pv 1) (pa_cons pe_int pa_nil))))
      (pss_one (ps_if (PW.pt (pw_and (pt_cmpR op_ne (pv 5) (pv 4) (nomark _)) (pw_and1 (pt_not (pt_val (pe_call G_law_told (hr.mono (by omega)) (by rfl) g_law_told k_law_told b_law_told .nil pass0 (pa_cons (pe_call G_law_broken (hr.mono (by omega)) (by rfl) g_law_broken k_law_broken b_law_broken .nil pass0 (pa_cons (pv 1) (pa_cons (pe_call G_law_broken (hr.mono (by omega)) (by rfl) g_law_broken k_law_broken b_law_broken .nil pass0 (pa_cons (pv 1) (pa_cons (pv 3) (pa_cons (pv 5) pa_nil)))) (pa_cons (pv 4) pa_nil)))) (pa_cons (pe_callB (call_min2 rfl) (by rfl) T.min (by decide +kernel) (pa_cons (pv 4) (pa_cons (pv 5) pa_nil))) pa_nil))))))))
        (pss_one (ps_ret pe_bl))
        pss_nil))))))))
    (pss_one (ps_ret pe_bl)))), ?_⟩
    refine ⟨_, rfl, sa, ns, rfl, hs, by omega, fun p a H0 hp _ _ => ⟨3, rfl, by decide, by decide, for_range (n := 3)
      (fun _ σ H' => Px p a H0 H' ∧ ∃ (x2 x3 x4 x5 : Option V), σ = [some (.ref sa), some (.ref p), x2, x3, x4, x5]) ⟨Px.refl hp, _, _, _, _, rfl⟩ ?_ ?_⟩⟩
    · rintro turn σ H1 _ ⟨X1, x2, x3, x4, x5, rfl⟩
      refine ⟨_, rfl, p, a, 6, rfl, by decide, X1.pool, fun c d Gs it gt rt ot ga ra oa H2 Y2 hc2 W => ?_⟩
      have X2 := X1.trans Y2
      obtain ⟨S0, rl0⟩ := sd_base W
      have rl0' : ∀ x ∈ readsD d, x ∈ namesD d ∨ x = "nowhere" := fun x hx => .inl (rl0 x hx)
      obtain ⟨ok4, hord⟩ := S0.good
      have hf0 := S0.few (by decide)
      have sizes : ∀ {rs : List Nat} {d : CircD}, Sd rs d → rs.length ≤ 2 → d.ins.length ≤ 200 ∧ d.gates.length ≤ 200 ∧ d.regs.length ≤ 200 ∧ d.outs.length ≤ 200 := fun S h => by
        have hf := S.few h
        have := S.ot
        exact ⟨by omega, hf.gs, hf.rs, hf.os⟩
      refine ⟨_, rfl, c, d, it, gt, rt, ot, ga, ra, oa, rfl, hc2, hf0, (fun z => absurd ok4.1 z), (fun _ z => absurd ok4.2.1 z), (fun _ _ z => absurd ok4.2.2.1 z), (fun _ _ _ z => absurd ok4.2.2.2 z), fun _ _ _ _ ord hL => ?_⟩
      obtain ⟨ho1, ho2⟩ := hord ord hL
      refine ⟨fun _ _ H3 E3 => ?_, fun _ z => absurd z ho2, fun z => absurd ho1 (by omega)⟩
      have X3 := X2.more E3
      have hc3 := hc2.te (.of E3)
      refine ⟨rfl, _, rfl, iteF ?_⟩
      refine ⟨_, rfl, p, a, 6, rfl, by decide, by decide, X3.pool, fun r H4 hr4 X4 _ => ?_⟩
      have hr6 : r < 6 := by omega
      have X4 := X3.trans X4
      have hc4 := hc3.te (TEx.px (by assumption : Px p a H3 H4))
      refine ⟨_, rfl, _, rfl, _, rfl, p, a, c, r, d, it, gt, rt, ot, ga, ra, oa, rfl, hr6, X4.pool, hc4, sizes S0 (by decide), fun c1 X GX RX OX it1 gt1 rt1 ot1 ga1 ra1 oa1 H5 X5 hc5 A1 => ?_⟩
      have X5' := X4.trans X5
      obtain ⟨S1, rl1⟩ := S0.step (by intro q hq; cases hq) hr6 (by intro z; cases z) A1 rl0'
      refine ⟨_, rfl, c1, r, extD d X GX RX OX, it1, gt1, rt1, ot1, ga1, ra1, oa1, rfl, hr6, hc5, S1.few (by show 1 ≤ 2; decide), S1.brk (by show 1 ≤ 2; decide) (List.mem_cons_self ..) hr6 (fun q hq => by rw [List.mem_singleton.mp hq]; exact Nat.le_refl _) (fun e => by rw [e]), fun H6 E6 => ⟨_, rfl, iteF ?_⟩⟩
      have X6 := X5'.more E6
      refine ⟨_, rfl, p, a, 6, rfl, by decide, by decide, X6.pool, fun o H7 ho7 Y7 _ => ?_⟩
      have ho6 : o < 6 := by omega
      have X7 := X6.trans Y7
      have hc7 := hc4.te ((TEx.px (X5.more E6)).trans (TEx.px Y7))
      by_cases e : o = r
      · subst e
        refine ⟨_, rfl, _, rfl, rfl, _, rfl, it0C (by rw [decide_eq_true rfl]; rfl) (iteF ?_)⟩
        exact ⟨X7, _, _, _, _, rfl⟩
      · refine ⟨_, rfl, _, rfl, rfl, _, rfl, it1C (by rw [decide_eq_false fun z => e (by injection z with z; omega)]; rfl) ?_⟩
        refine ⟨_, rfl, _, rfl, _, rfl, _, rfl, p, a, c, o, d, it, gt, rt, ot, ga, ra, oa, rfl, ho6, X7.pool, hc7, sizes S0 (by decide), fun c8 X' GX' RX' OX' it8 gt8 rt8 ot8 ga8 ra8 oa8 H8 X8 hc8 A8 => ?_⟩
        obtain ⟨S8, rl8⟩ := S0.step (by intro q hq; cases hq) ho6 (by intro z; cases z) A8 rl0'
        have X78 := X7.trans X8
        refine ⟨_, rfl, p, a, c8, r, extD d X' GX' RX' OX', it8, gt8, rt8, ot8, ga8, ra8, oa8, rfl, hr6, X78.pool, hc8, sizes S8 (by show 1 ≤ 2; decide), fun c9 X9 GX9 RX9 OX9 it9 gt9 rt9 ot9 ga9 ra9 oa9 H9 Y9 hc9 A9 => ?_⟩
        have hro : r ∉ [o] := fun z => e (List.mem_singleton.mp z).symm
        obtain ⟨S9, _⟩ := S8.step (fun q hq => by rw [List.mem_singleton.mp hq]; exact ho6) hr6 hro A9 rl8
        have hmin : (if ((o : Nat) : Int) < ((r : Nat) : Int) then ((o : Nat) : Int) else ((r : Nat) : Int)) = ((min r o : Nat) : Int) := by split <;> omega
        have hmm : min r o ∈ [r, o] := by
          rcases Nat.le_total r o with h | h
          · rw [Nat.min_eq_left h]; exact List.mem_cons_self ..
          · rw [Nat.min_eq_right h]; exact List.mem_cons_of_mem _ (List.mem_cons_self ..)
        refine ⟨_, rfl, _, rfl, _, _, rfl, c9, min r o, extD (extD d X' GX' RX' OX') X9 GX9 RX9 OX9, it9, gt9, rt9, ot9, ga9, ra9, oa9, by rw [hmin]; rfl, by omega, hc9, S9.few (by show 2 ≤ 2; decide), S9.brk (by show 2 ≤ 2; decide) hmm (by omega) (fun q hq => ?_) (fun z => absurd z (by omega)), fun H10 E10 => ⟨_, rfl, iteF ?_⟩⟩
        · simp only [List.mem_cons, List.not_mem_nil, or_false] at hq
          omega
        · exact ⟨(X78.trans Y9).more E10, _, _, _, _, rfl⟩
    · rintro σ H1 ⟨X1, x2, x3, x4, x5, rfl⟩
      exact q H1
end
end G
namespace G
open PySem PySem.Spec PyProof.Rows L2
/-- the defs and the built-in names as the top has left them -/
structure All (K : PySem.W.Frag) (mg : Str → Option Value) : Prop where
  d_check_circuit : Dfd K mg "check_circuit" s_check_circuit ["circuit"]
  d_check_nets : Dfd K mg "check_nets" s_check_nets ["circuit", "names"]
  d_check_pin_range : Dfd K mg "check_pin_range" s_check_pin_range ["pair"]
  d_check_reg : Dfd K mg "check_reg" s_check_reg ["reg"]
  d_least_order : Dfd K mg "least_order" s_least_order ["needed"]
  d_all_names : Dfd K mg "_all_names" s_all_names ["circuit"]
  d_check_names : Dfd K mg "_check_names" s_check_names ["circuit"]
  d_check_counts : Dfd K mg "_check_counts" s_check_counts ["gate"]
  d_check_paths : Dfd K mg "_check_paths" s_check_paths ["gates"]
  d_gates_read : Dfd K mg "_gates_read" s_gates_read ["gates"]
  d_cycle : Dfd K mg "_cycle" s_cycle ["read", "order"]
  d_law_pool : Dfd K mg "_law_pool" s_law_pool ["script"]
  d_law_spread : Dfd K mg "_law_spread" s_law_spread ["cell"]
  d_law_draw : Dfd K mg "_law_draw" s_law_draw ["pool", "many"]
  d_law_bits : Dfd K mg "_law_bits" s_law_bits ["index", "many"]
  d_law_table : Dfd K mg "_law_table" s_law_table ["pool", "many"]
  d_law_register : Dfd K mg "_law_register" s_law_register ["pool", "name", "net"]
  d_law_shuffled : Dfd K mg "_law_shuffled" s_law_shuffled ["pool", "rows"]
  d_law_circuit : Dfd K mg "_law_circuit" s_law_circuit ["pool", "most"]
  d_law_broken : Dfd K mg "_law_broken" s_law_broken ["pool", "circuit", "rule"]
  d_law_cycle : Dfd K mg "_law_cycle" s_law_cycle ["circuit", "names"]
  d_law_told : Dfd K mg "_law_told" s_law_told ["circuit", "rule"]
  z_super : mg "super" = none
  z_len : mg "len" = none
  z_enumerate : mg "enumerate" = none
  z_list : mg "list" = none
  z_set : mg "set" = none
  z_tuple : mg "tuple" = none
  z_max : mg "max" = none
  z_int : mg "int" = none
  z_range : mg "range" = none
  z_isinstance : mg "isinstance" = none
  z_bool : mg "bool" = none
  z_str : mg "str" = none
  z_min : mg "min" = none
  z_ValueError : mg "ValueError" = none
  c_MOST_PINS : ∃ t, mg "MOST_PINS" = some (.int 6 t)
  c_LONGEST_PATH : ∃ t, mg "LONGEST_PATH" = some (.int 100 t)
  c_LEAST_SPREAD : ∃ t, mg "LEAST_SPREAD" = some (.int 2 t)
  y_heappop : mg "heappop" = some (.builtin "_heapq.heappop")
  y_heappush : mg "heappush" = some (.builtin "_heapq.heappush")
  i_NameClash : ∃ C : Addr, ExcI K mg "NameClash" C ∧ IsK K mg C "NameClash" true ∧ IsK K mg C "WrongCount" false ∧ IsK K mg C "UnknownName" false ∧ IsK K mg C "BadRange" false ∧ IsK K mg C "Looped" false ∧ IsK K mg C "TooDeep" false ∧ CatchK K mg C "SignoffError"
  i_WrongCount : ∃ C : Addr, ExcI K mg "WrongCount" C ∧ IsK K mg C "NameClash" false ∧ IsK K mg C "WrongCount" true ∧ IsK K mg C "UnknownName" false ∧ IsK K mg C "BadRange" false ∧ IsK K mg C "Looped" false ∧ IsK K mg C "TooDeep" false ∧ CatchK K mg C "SignoffError"
  i_UnknownName : ∃ C : Addr, ExcI K mg "UnknownName" C ∧ IsK K mg C "NameClash" false ∧ IsK K mg C "WrongCount" false ∧ IsK K mg C "UnknownName" true ∧ IsK K mg C "BadRange" false ∧ IsK K mg C "Looped" false ∧ IsK K mg C "TooDeep" false ∧ CatchK K mg C "SignoffError"
  i_BadRange : ∃ C : Addr, ExcI K mg "BadRange" C ∧ IsK K mg C "NameClash" false ∧ IsK K mg C "WrongCount" false ∧ IsK K mg C "UnknownName" false ∧ IsK K mg C "BadRange" true ∧ IsK K mg C "Looped" false ∧ IsK K mg C "TooDeep" false ∧ CatchK K mg C "SignoffError"
  i_TooDeep : ∃ C : Addr, ExcI K mg "TooDeep" C ∧ IsK K mg C "NameClash" false ∧ IsK K mg C "WrongCount" false ∧ IsK K mg C "UnknownName" false ∧ IsK K mg C "BadRange" false ∧ IsK K mg C "Looped" false ∧ IsK K mg C "TooDeep" true ∧ CatchK K mg C "SignoffError"
end G
namespace G
open PySem PySem.Spec PyProof.Rows L2
theorem glue {P : Program} {w : World} {K : PySem.W.Frag} {mg : Str → Option Value} {base : Heap} (A : All K mg) (OX : ∃ (C f : Addr) (fd : FuncData), ErrF P K mg "Looped" "Looped.__init__" C f fd s_Looped_init "names" ∧ IsK K mg C "NameClash" false ∧ IsK K mg C "WrongCount" false ∧ IsK K mg C "UnknownName" false ∧ IsK K mg C "BadRange" false ∧ IsK K mg C "Looped" true ∧ IsK K mg C "TooDeep" false ∧ CatchK K mg C "SignoffError")
    {f : Addr} {fd : FuncData} (F : Fun K "law" "law" s_law f fd) : FnOk P w K mg base CX0 7 f fd ["script"] (spLaw K) := by
  have TL : TxtL mg := ⟨A.z_int, A.z_len, A.z_list, A.z_range⟩
  have TS : TxtS mg := ⟨A.z_isinstance, A.z_tuple, A.z_list, A.z_len, A.z_range, A.z_bool, A.z_int, A.z_str⟩
  have TC : TxtC mg := ⟨A.z_len, A.z_set⟩
  obtain ⟨Lc, fL, dL, OB, l0, l1, l2, l3, l4, l5, ⟨S, gS, hS⟩⟩ := OX
  have OL := own_Looped (w := w) (base := base) OB A.z_len
  obtain ⟨Cn, UN, n0, n1, n2, n3, n4, n5, n6⟩ := A.i_NameClash
  obtain ⟨Cw, UW, w0, w1, w2, w3, w4, w5, w6⟩ := A.i_WrongCount
  obtain ⟨Cu, UU, u0, u1, u2, u3, u4, u5, u6⟩ := A.i_UnknownName
  obtain ⟨Cr, UR, r0, r1, r2, r3, r4, r5, r6⟩ := A.i_BadRange
  obtain ⟨Dc, UD, d0, d1, d2, d3, d4, d5, d6⟩ := A.i_TooDeep
  have gn := UN.u.gC
  have gw := UW.u.gC
  have gu := UU.u.gC
  have gr := UR.u.gC
  have gl := OB.gC
  have gd := UD.u.gC
  have t0 : Six K Cn Cn Cw Cu Cr Lc Dc S true false false false false false := ⟨UN.isc, n0.at_ gn, n1.at_ gw, n2.at_ gu, n3.at_ gr, n4.at_ gl, n5.at_ gd, n6.at_ gS⟩
  have t1 : Six K Cw Cn Cw Cu Cr Lc Dc S false true false false false false := ⟨UW.isc, w0.at_ gn, w1.at_ gw, w2.at_ gu, w3.at_ gr, w4.at_ gl, w5.at_ gd, w6.at_ gS⟩
  have t2 : Six K Cu Cn Cw Cu Cr Lc Dc S false false true false false false := ⟨UU.isc, u0.at_ gn, u1.at_ gw, u2.at_ gu, u3.at_ gr, u4.at_ gl, u5.at_ gd, u6.at_ gS⟩
  have t3 : Six K Cr Cn Cw Cu Cr Lc Dc S false false false true false false := ⟨UR.isc, r0.at_ gn, r1.at_ gw, r2.at_ gu, r3.at_ gr, r4.at_ gl, r5.at_ gd, r6.at_ gS⟩
  have t4 : Six K Lc Cn Cw Cu Cr Lc Dc S false false false false true false := ⟨OB.isc, l0.at_ gn, l1.at_ gw, l2.at_ gu, l3.at_ gr, l4.at_ gl, l5.at_ gd, hS⟩
  have t5 : Six K Dc Cn Cw Cu Cr Lc Dc S false false false false false true := ⟨UD.isc, d0.at_ gn, d1.at_ gw, d2.at_ gu, d3.at_ gr, d4.at_ gl, d5.at_ gd, d6.at_ gS⟩
  have hd := drawX (P := P) (w := w) (base := base) (ok_law_draw A.d_law_draw TL (ok_law_spread A.d_law_spread TL))
  have hb := ok_law_bits (P := P) (w := w) (base := base) A.d_law_bits TS
  have hsh := ok_law_shuffled A.d_law_shuffled TS hd
  have hgr := ok_gates_read (P := P) (w := w) (base := base) A.d_gates_read ⟨A.z_enumerate⟩
  have hlo := ok_least_order (P := P) (w := w) (base := base) A.d_least_order ⟨A.z_len, A.z_enumerate, A.y_heappop, A.y_heappush⟩
  have hal := ok_all_names (P := P) (w := w) (base := base) A.d_all_names ⟨A.z_list⟩
  have hpa := ok_check_paths (P := P) (w := w) (base := base) A.d_check_paths ⟨A.z_len, A.z_tuple, A.z_max⟩ UD.u OL A.c_LONGEST_PATH hgr hlo (ok_cycle A.d_cycle ⟨A.z_len⟩)
  have hck := ok_check_circuit A.d_check_circuit (ok_check_names A.d_check_names UN.u TC hal) (ok_check_counts A.d_check_counts UW.u TC A.c_MOST_PINS) (ok_check_nets A.d_check_nets UU.u hal) (ok_check_pin_range A.d_check_pin_range UR.u A.c_LEAST_SPREAD) (ok_check_reg A.d_check_reg UR.u) hpa
  exact fn_law F ⟨A.z_range, A.z_min⟩ (ok_law_pool A.d_law_pool TL) hd (ok_law_circuit A.d_law_circuit TS hd (ok_law_table A.d_law_table TS hd hb) (ok_law_register A.d_law_register hd) hsh)
    hck (ok_law_broken A.d_law_broken TS hd hsh) (ok_law_told A.d_law_told TS gn gw gu gr gl gd gS OB.no t0 t1 t2 t3 t4 t5 hck (ok_law_cycle A.d_law_cycle TS))
end G
namespace G
open PySem PySem.Spec PyProof.Rows L2
theorem all_mk {l : PySem.W.OpenLaw} {w : World} {K : PySem.W.Frag} {h : Heap} {mg : Str → Option Value} {fa f0 f1 f2 f3 f4 f5 f6 f7 f8 f9 f10 f11 f12 f13 f14 f15 f16 f17 f18 f19 f20 f21 f22 : Addr} (X : K.In h) (G : h.Ns mainGlobals mg) (hfa : mg "law" = some (.ref fa))
    {od0 an0 od1 an1 od2 an2 od3 an3 od4 an4 od5 an5 od6 an6 od7 an7 od8 an8 od9 an9 od10 an10 od11 an11 od12 an12 od13 an13 od14 an14 od15 an15 od16 an16 od17 an17 od18 an18 od19 an19 od20 an20 od21 an21 od22 an22 : Option Addr} {sl0 sl1 sl2 sl3 sl4 sl5 sl6 sl7 sl8 sl9 sl10 sl11 sl12 sl13 sl14 sl15 sl16 sl17 sl18 sl19 sl20 sl21 sl22 : Array (Option Value)} {oc0 kv0 dc0 pm0 cd0 ct0 oc1 kv1 dc1 pm1 cd1 ct1 oc2 kv2 dc2 pm2 cd2 ct2 oc3 kv3 dc3 pm3 cd3 ct3 oc4 kv4 dc4 pm4 cd4 ct4 oc5 kv5 dc5 pm5 cd5 ct5 oc6 kv6 dc6 pm6 cd6 ct6 oc7 kv7 dc7 pm7 cd7 ct7 oc8 kv8 dc8 pm8 cd8 ct8 oc9 kv9 dc9 pm9 cd9 ct9 oc10 kv10 dc10 pm10 cd10 ct10 oc11 kv11 dc11 pm11 cd11 ct11 oc12 kv12 dc12 pm12 cd12 ct12 oc13 kv13 dc13 pm13 cd13 ct13 oc14 kv14 dc14 pm14 cd14 ct14 oc15 kv15 dc15 pm15 cd15 ct15 oc16 kv16 dc16 pm16 cd16 ct16 oc17 kv17 dc17 pm17 cd17 ct17 oc18 kv18 dc18 pm18 cd18 ct18 oc19 kv19 dc19 pm19 cd19 ct19 oc20 kv20 dc20 pm20 cd20 ct20 oc21 kv21 dc21 pm21 cd21 ct21 oc22 kv22 dc22 pm22 cd22 ct22 : Value}
    (a0 : PySem.W.nsIn K mainGlobals "check_circuit" = some (some (.ref f0))) (l0 : K.lookup f0 = some ⟨oc0, od0, .func (PySem.W.fnOf "check_circuit" "check_circuit" (defArgs s_check_circuit) (defBody s_check_circuit) (defScope s_check_circuit) .none kv0 dc0 pm0 an0 cd0 ct0), sl0⟩) (c0 : PySem.W.codeIn K cd0 "check_circuit" = true) (k0 : PySem.W.keepIn K (.ref f0) = true)
    (a1 : PySem.W.nsIn K mainGlobals "check_nets" = some (some (.ref f1))) (l1 : K.lookup f1 = some ⟨oc1, od1, .func (PySem.W.fnOf "check_nets" "check_nets" (defArgs s_check_nets) (defBody s_check_nets) (defScope s_check_nets) .none kv1 dc1 pm1 an1 cd1 ct1), sl1⟩) (c1 : PySem.W.codeIn K cd1 "check_nets" = true) (k1 : PySem.W.keepIn K (.ref f1) = true)
    (a2 : PySem.W.nsIn K mainGlobals "check_pin_range" = some (some (.ref f2))) (l2 : K.lookup f2 = some ⟨oc2, od2, .func (PySem.W.fnOf "check_pin_range" "check_pin_range" (defArgs s_check_pin_range) (defBody s_check_pin_range) (defScope s_check_pin_range) .none kv2 dc2 pm2 an2 cd2 ct2), sl2⟩) (c2 : PySem.W.codeIn K cd2 "check_pin_range" = true) (k2 : PySem.W.keepIn K (.ref f2) = true)
    (a3 : PySem.W.nsIn K mainGlobals "check_reg" = some (some (.ref f3))) (l3 : K.lookup f3 = some ⟨oc3, od3, .func (PySem.W.fnOf "check_reg" "check_reg" (defArgs s_check_reg) (defBody s_check_reg) (defScope s_check_reg) .none kv3 dc3 pm3 an3 cd3 ct3), sl3⟩) (c3 : PySem.W.codeIn K cd3 "check_reg" = true) (k3 : PySem.W.keepIn K (.ref f3) = true)
    (a4 : PySem.W.nsIn K mainGlobals "least_order" = some (some (.ref f4))) (l4 : K.lookup f4 = some ⟨oc4, od4, .func (PySem.W.fnOf "least_order" "least_order" (defArgs s_least_order) (defBody s_least_order) (defScope s_least_order) .none kv4 dc4 pm4 an4 cd4 ct4), sl4⟩) (c4 : PySem.W.codeIn K cd4 "least_order" = true) (k4 : PySem.W.keepIn K (.ref f4) = true)
    (a5 : PySem.W.nsIn K mainGlobals "_all_names" = some (some (.ref f5))) (l5 : K.lookup f5 = some ⟨oc5, od5, .func (PySem.W.fnOf "_all_names" "_all_names" (defArgs s_all_names) (defBody s_all_names) (defScope s_all_names) .none kv5 dc5 pm5 an5 cd5 ct5), sl5⟩) (c5 : PySem.W.codeIn K cd5 "_all_names" = true) (k5 : PySem.W.keepIn K (.ref f5) = true)
    (a6 : PySem.W.nsIn K mainGlobals "_check_names" = some (some (.ref f6))) (l6 : K.lookup f6 = some ⟨oc6, od6, .func (PySem.W.fnOf "_check_names" "_check_names" (defArgs s_check_names) (defBody s_check_names) (defScope s_check_names) .none kv6 dc6 pm6 an6 cd6 ct6), sl6⟩) (c6 : PySem.W.codeIn K cd6 "_check_names" = true) (k6 : PySem.W.keepIn K (.ref f6) = true)
    (a7 : PySem.W.nsIn K mainGlobals "_check_counts" = some (some (.ref f7))) (l7 : K.lookup f7 = some ⟨oc7, od7, .func (PySem.W.fnOf "_check_counts" "_check_counts" (defArgs s_check_counts) (defBody s_check_counts) (defScope s_check_counts) .none kv7 dc7 pm7 an7 cd7 ct7), sl7⟩) (c7 : PySem.W.codeIn K cd7 "_check_counts" = true) (k7 : PySem.W.keepIn K (.ref f7) = true)
    (a8 : PySem.W.nsIn K mainGlobals "_check_paths" = some (some (.ref f8))) (l8 : K.lookup f8 = some ⟨oc8, od8, .func (PySem.W.fnOf "_check_paths" "_check_paths" (defArgs s_check_paths) (defBody s_check_paths) (defScope s_check_paths) .none kv8 dc8 pm8 an8 cd8 ct8), sl8⟩) (c8 : PySem.W.codeIn K cd8 "_check_paths" = true) (k8 : PySem.W.keepIn K (.ref f8) = true)
    (a9 : PySem.W.nsIn K mainGlobals "_gates_read" = some (some (.ref f9))) (l9 : K.lookup f9 = some ⟨oc9, od9, .func (PySem.W.fnOf "_gates_read" "_gates_read" (defArgs s_gates_read) (defBody s_gates_read) (defScope s_gates_read) .none kv9 dc9 pm9 an9 cd9 ct9), sl9⟩) (c9 : PySem.W.codeIn K cd9 "_gates_read" = true) (k9 : PySem.W.keepIn K (.ref f9) = true)
    (a10 : PySem.W.nsIn K mainGlobals "_cycle" = some (some (.ref f10))) (l10 : K.lookup f10 = some ⟨oc10, od10, .func (PySem.W.fnOf "_cycle" "_cycle" (defArgs s_cycle) (defBody s_cycle) (defScope s_cycle) .none kv10 dc10 pm10 an10 cd10 ct10), sl10⟩) (c10 : PySem.W.codeIn K cd10 "_cycle" = true) (k10 : PySem.W.keepIn K (.ref f10) = true)
    (a11 : PySem.W.nsIn K mainGlobals "_law_pool" = some (some (.ref f11))) (l11 : K.lookup f11 = some ⟨oc11, od11, .func (PySem.W.fnOf "_law_pool" "_law_pool" (defArgs s_law_pool) (defBody s_law_pool) (defScope s_law_pool) .none kv11 dc11 pm11 an11 cd11 ct11), sl11⟩) (c11 : PySem.W.codeIn K cd11 "_law_pool" = true) (k11 : PySem.W.keepIn K (.ref f11) = true)
    (a12 : PySem.W.nsIn K mainGlobals "_law_spread" = some (some (.ref f12))) (l12 : K.lookup f12 = some ⟨oc12, od12, .func (PySem.W.fnOf "_law_spread" "_law_spread" (defArgs s_law_spread) (defBody s_law_spread) (defScope s_law_spread) .none kv12 dc12 pm12 an12 cd12 ct12), sl12⟩) (c12 : PySem.W.codeIn K cd12 "_law_spread" = true) (k12 : PySem.W.keepIn K (.ref f12) = true)
    (a13 : PySem.W.nsIn K mainGlobals "_law_draw" = some (some (.ref f13))) (l13 : K.lookup f13 = some ⟨oc13, od13, .func (PySem.W.fnOf "_law_draw" "_law_draw" (defArgs s_law_draw) (defBody s_law_draw) (defScope s_law_draw) .none kv13 dc13 pm13 an13 cd13 ct13), sl13⟩) (c13 : PySem.W.codeIn K cd13 "_law_draw" = true) (k13 : PySem.W.keepIn K (.ref f13) = true)
    (a14 : PySem.W.nsIn K mainGlobals "_law_bits" = some (some (.ref f14))) (l14 : K.lookup f14 = some ⟨oc14, od14, .func (PySem.W.fnOf "_law_bits" "_law_bits" (defArgs s_law_bits) (defBody s_law_bits) (defScope s_law_bits) .none kv14 dc14 pm14 an14 cd14 ct14), sl14⟩) (c14 : PySem.W.codeIn K cd14 "_law_bits" = true) (k14 : PySem.W.keepIn K (.ref f14) = true)
    (a15 : PySem.W.nsIn K mainGlobals "_law_table" = some (some (.ref f15))) (l15 : K.lookup f15 = some ⟨oc15, od15, .func (PySem.W.fnOf "_law_table" "_law_table" (defArgs s_law_table) (defBody s_law_table) (defScope s_law_table) .none kv15 dc15 pm15 an15 cd15 ct15), sl15⟩) (c15 : PySem.W.codeIn K cd15 "_law_table" = true) (k15 : PySem.W.keepIn K (.ref f15) = true)
    (a16 : PySem.W.nsIn K mainGlobals "_law_register" = some (some (.ref f16))) (l16 : K.lookup f16 = some ⟨oc16, od16, .func (PySem.W.fnOf "_law_register" "_law_register" (defArgs s_law_register) (defBody s_law_register) (defScope s_law_register) .none kv16 dc16 pm16 an16 cd16 ct16), sl16⟩) (c16 : PySem.W.codeIn K cd16 "_law_register" = true) (k16 : PySem.W.keepIn K (.ref f16) = true)
    (a17 : PySem.W.nsIn K mainGlobals "_law_shuffled" = some (some (.ref f17))) (l17 : K.lookup f17 = some ⟨oc17, od17, .func (PySem.W.fnOf "_law_shuffled" "_law_shuffled" (defArgs s_law_shuffled) (defBody s_law_shuffled) (defScope s_law_shuffled) .none kv17 dc17 pm17 an17 cd17 ct17), sl17⟩) (c17 : PySem.W.codeIn K cd17 "_law_shuffled" = true) (k17 : PySem.W.keepIn K (.ref f17) = true)
    (a18 : PySem.W.nsIn K mainGlobals "_law_circuit" = some (some (.ref f18))) (l18 : K.lookup f18 = some ⟨oc18, od18, .func (PySem.W.fnOf "_law_circuit" "_law_circuit" (defArgs s_law_circuit) (defBody s_law_circuit) (defScope s_law_circuit) .none kv18 dc18 pm18 an18 cd18 ct18), sl18⟩) (c18 : PySem.W.codeIn K cd18 "_law_circuit" = true) (k18 : PySem.W.keepIn K (.ref f18) = true)
    (a19 : PySem.W.nsIn K mainGlobals "_law_broken" = some (some (.ref f19))) (l19 : K.lookup f19 = some ⟨oc19, od19, .func (PySem.W.fnOf "_law_broken" "_law_broken" (defArgs s_law_broken) (defBody s_law_broken) (defScope s_law_broken) .none kv19 dc19 pm19 an19 cd19 ct19), sl19⟩) (c19 : PySem.W.codeIn K cd19 "_law_broken" = true) (k19 : PySem.W.keepIn K (.ref f19) = true)
    (a20 : PySem.W.nsIn K mainGlobals "_law_cycle" = some (some (.ref f20))) (l20 : K.lookup f20 = some ⟨oc20, od20, .func (PySem.W.fnOf "_law_cycle" "_law_cycle" (defArgs s_law_cycle) (defBody s_law_cycle) (defScope s_law_cycle) .none kv20 dc20 pm20 an20 cd20 ct20), sl20⟩) (c20 : PySem.W.codeIn K cd20 "_law_cycle" = true) (k20 : PySem.W.keepIn K (.ref f20) = true)
    (a21 : PySem.W.nsIn K mainGlobals "_law_told" = some (some (.ref f21))) (l21 : K.lookup f21 = some ⟨oc21, od21, .func (PySem.W.fnOf "_law_told" "_law_told" (defArgs s_law_told) (defBody s_law_told) (defScope s_law_told) .none kv21 dc21 pm21 an21 cd21 ct21), sl21⟩) (c21 : PySem.W.codeIn K cd21 "_law_told" = true) (k21 : PySem.W.keepIn K (.ref f21) = true)
    (a22 : PySem.W.nsIn K mainGlobals "law" = some (some (.ref f22))) (l22 : K.lookup f22 = some ⟨oc22, od22, .func (PySem.W.fnOf "law" "law" (defArgs s_law) (defBody s_law) (defScope s_law) .none kv22 dc22 pm22 an22 cd22 ct22), sl22⟩) (c22 : PySem.W.codeIn K cd22 "law" = true) (k22 : PySem.W.keepIn K (.ref f22) = true)
    {ct0 : Tok} (g0 : PySem.W.nsIn K mainGlobals "MOST_PINS" = some (some (.int 6 ct0)))
    {ct1 : Tok} (g1 : PySem.W.nsIn K mainGlobals "LONGEST_PATH" = some (some (.int 100 ct1)))
    {ct2 : Tok} (g2 : PySem.W.nsIn K mainGlobals "LEAST_SPREAD" = some (some (.int 2 ct2)))
    (m0 : PySem.W.nsIn K mainGlobals "heappop" = some (some (.builtin "_heapq.heappop")))
    (m1 : PySem.W.nsIn K mainGlobals "heappush" = some (some (.builtin "_heapq.heappush")))
    {iC0 iD0_0 iD0_1 iD0_2 iD0_3 iD0_4 iD0_5 iD0_6 : Addr} (w0_0 : PySem.W.nsIn K mainGlobals "NameClash" = some (some (.ref iC0))) (w0_1 : PySem.W.excIn K iC0 [.type "ValueError", .type "Exception", .type "BaseException", .type "object"] "ValueError.__new__" = true) (w0_2 : PySem.W.keepIn K (.ref iC0) = true) (w0_3 : PySem.W.subIn K (.ref iC0) (.type "BaseException") = some true) (w0_4 : PySem.W.typeIn K (.ref iC0) = some (.type "type")) (w0_5 : PySem.W.hasDictIn K iC0 = true) (w0_6 : PySem.W.subIn K (.ref iC0) (.ref iC0) = some true) (w0_7 : PySem.W.findIn K (.ref iC0) "__getattribute__" = some (some (.builtin "BaseException.__getattribute__"))) (w0_8 : PySem.W.findIn K (.ref iC0) "__getattr__" = some none) (w0_9 : PySem.W.findIn K (.ref iC0) "__class__" = some (some (.builtin "object.__class__"))) (w0_10 : PySem.W.specialIn K (.builtin "object.__class__") "__get__" = some (some (.builtin "getset_descriptor.__get__"))) (w0_11 : PySem.W.takesIn K (.builtin "object.__class__") = some true) (w0_12 : PySem.W.mroIn K iC0 (.type "object") = some true) (w0_13 : PySem.W.nsIn K mainGlobals "NameClash" = some (some (.ref iD0_0))) (w0_14 : PySem.W.kitOne K (.ref iC0) (.ref iD0_0) = some true) (w0_15 : PySem.W.nsIn K mainGlobals "WrongCount" = some (some (.ref iD0_1))) (w0_16 : PySem.W.kitOne K (.ref iC0) (.ref iD0_1) = some false) (w0_17 : PySem.W.nsIn K mainGlobals "UnknownName" = some (some (.ref iD0_2))) (w0_18 : PySem.W.kitOne K (.ref iC0) (.ref iD0_2) = some false) (w0_19 : PySem.W.nsIn K mainGlobals "BadRange" = some (some (.ref iD0_3))) (w0_20 : PySem.W.kitOne K (.ref iC0) (.ref iD0_3) = some false) (w0_21 : PySem.W.nsIn K mainGlobals "Looped" = some (some (.ref iD0_4))) (w0_22 : PySem.W.kitOne K (.ref iC0) (.ref iD0_4) = some false) (w0_23 : PySem.W.nsIn K mainGlobals "TooDeep" = some (some (.ref iD0_5))) (w0_24 : PySem.W.kitOne K (.ref iC0) (.ref iD0_5) = some false) (w0_25 : PySem.W.nsIn K mainGlobals "SignoffError" = some (some (.ref iD0_6))) (w0_26 : PySem.W.subIn K (.ref iD0_6) (.type "BaseException") = some true) (w0_27 : PySem.W.hasDictIn K iD0_6 = true) (w0_28 : PySem.W.typeIn K (.ref iD0_6) = some (.type "type")) (w0_29 : PySem.W.subIn K (.ref iC0) (.ref iD0_6) = some true)
    {iC1 iD1_0 iD1_1 iD1_2 iD1_3 iD1_4 iD1_5 iD1_6 : Addr} (w1_0 : PySem.W.nsIn K mainGlobals "WrongCount" = some (some (.ref iC1))) (w1_1 : PySem.W.excIn K iC1 [.type "ValueError", .type "Exception", .type "BaseException", .type "object"] "ValueError.__new__" = true) (w1_2 : PySem.W.keepIn K (.ref iC1) = true) (w1_3 : PySem.W.subIn K (.ref iC1) (.type "BaseException") = some true) (w1_4 : PySem.W.typeIn K (.ref iC1) = some (.type "type")) (w1_5 : PySem.W.hasDictIn K iC1 = true) (w1_6 : PySem.W.subIn K (.ref iC1) (.ref iC1) = some true) (w1_7 : PySem.W.findIn K (.ref iC1) "__getattribute__" = some (some (.builtin "BaseException.__getattribute__"))) (w1_8 : PySem.W.findIn K (.ref iC1) "__getattr__" = some none) (w1_9 : PySem.W.findIn K (.ref iC1) "__class__" = some (some (.builtin "object.__class__"))) (w1_10 : PySem.W.specialIn K (.builtin "object.__class__") "__get__" = some (some (.builtin "getset_descriptor.__get__"))) (w1_11 : PySem.W.takesIn K (.builtin "object.__class__") = some true) (w1_12 : PySem.W.mroIn K iC1 (.type "object") = some true) (w1_13 : PySem.W.nsIn K mainGlobals "NameClash" = some (some (.ref iD1_0))) (w1_14 : PySem.W.kitOne K (.ref iC1) (.ref iD1_0) = some false) (w1_15 : PySem.W.nsIn K mainGlobals "WrongCount" = some (some (.ref iD1_1))) (w1_16 : PySem.W.kitOne K (.ref iC1) (.ref iD1_1) = some true) (w1_17 : PySem.W.nsIn K mainGlobals "UnknownName" = some (some (.ref iD1_2))) (w1_18 : PySem.W.kitOne K (.ref iC1) (.ref iD1_2) = some false) (w1_19 : PySem.W.nsIn K mainGlobals "BadRange" = some (some (.ref iD1_3))) (w1_20 : PySem.W.kitOne K (.ref iC1) (.ref iD1_3) = some false) (w1_21 : PySem.W.nsIn K mainGlobals "Looped" = some (some (.ref iD1_4))) (w1_22 : PySem.W.kitOne K (.ref iC1) (.ref iD1_4) = some false) (w1_23 : PySem.W.nsIn K mainGlobals "TooDeep" = some (some (.ref iD1_5))) (w1_24 : PySem.W.kitOne K (.ref iC1) (.ref iD1_5) = some false) (w1_25 : PySem.W.nsIn K mainGlobals "SignoffError" = some (some (.ref iD1_6))) (w1_26 : PySem.W.subIn K (.ref iD1_6) (.type "BaseException") = some true) (w1_27 : PySem.W.hasDictIn K iD1_6 = true) (w1_28 : PySem.W.typeIn K (.ref iD1_6) = some (.type "type")) (w1_29 : PySem.W.subIn K (.ref iC1) (.ref iD1_6) = some true)
    {iC2 iD2_0 iD2_1 iD2_2 iD2_3 iD2_4 iD2_5 iD2_6 : Addr} (w2_0 : PySem.W.nsIn K mainGlobals "UnknownName" = some (some (.ref iC2))) (w2_1 : PySem.W.excIn K iC2 [.type "ValueError", .type "Exception", .type "BaseException", .type "object"] "ValueError.__new__" = true) (w2_2 : PySem.W.keepIn K (.ref iC2) = true) (w2_3 : PySem.W.subIn K (.ref iC2) (.type "BaseException") = some true) (w2_4 : PySem.W.typeIn K (.ref iC2) = some (.type "type")) (w2_5 : PySem.W.hasDictIn K iC2 = true) (w2_6 : PySem.W.subIn K (.ref iC2) (.ref iC2) = some true) (w2_7 : PySem.W.findIn K (.ref iC2) "__getattribute__" = some (some (.builtin "BaseException.__getattribute__"))) (w2_8 : PySem.W.findIn K (.ref iC2) "__getattr__" = some none) (w2_9 : PySem.W.findIn K (.ref iC2) "__class__" = some (some (.builtin "object.__class__"))) (w2_10 : PySem.W.specialIn K (.builtin "object.__class__") "__get__" = some (some (.builtin "getset_descriptor.__get__"))) (w2_11 : PySem.W.takesIn K (.builtin "object.__class__") = some true) (w2_12 : PySem.W.mroIn K iC2 (.type "object") = some true) (w2_13 : PySem.W.nsIn K mainGlobals "NameClash" = some (some (.ref iD2_0))) (w2_14 : PySem.W.kitOne K (.ref iC2) (.ref iD2_0) = some false) (w2_15 : PySem.W.nsIn K mainGlobals "WrongCount" = some (some (.ref iD2_1))) (w2_16 : PySem.W.kitOne K (.ref iC2) (.ref iD2_1) = some false) (w2_17 : PySem.W.nsIn K mainGlobals "UnknownName" = some (some (.ref iD2_2))) (w2_18 : PySem.W.kitOne K (.ref iC2) (.ref iD2_2) = some true) (w2_19 : PySem.W.nsIn K mainGlobals "BadRange" = some (some (.ref iD2_3))) (w2_20 : PySem.W.kitOne K (.ref iC2) (.ref iD2_3) = some false) (w2_21 : PySem.W.nsIn K mainGlobals "Looped" = some (some (.ref iD2_4))) (w2_22 : PySem.W.kitOne K (.ref iC2) (.ref iD2_4) = some false) (w2_23 : PySem.W.nsIn K mainGlobals "TooDeep" = some (some (.ref iD2_5))) (w2_24 : PySem.W.kitOne K (.ref iC2) (.ref iD2_5) = some false) (w2_25 : PySem.W.nsIn K mainGlobals "SignoffError" = some (some (.ref iD2_6))) (w2_26 : PySem.W.subIn K (.ref iD2_6) (.type "BaseException") = some true) (w2_27 : PySem.W.hasDictIn K iD2_6 = true) (w2_28 : PySem.W.typeIn K (.ref iD2_6) = some (.type "type")) (w2_29 : PySem.W.subIn K (.ref iC2) (.ref iD2_6) = some true)
    {iC3 iD3_0 iD3_1 iD3_2 iD3_3 iD3_4 iD3_5 iD3_6 : Addr} (w3_0 : PySem.W.nsIn K mainGlobals "BadRange" = some (some (.ref iC3))) (w3_1 : PySem.W.excIn K iC3 [.type "ValueError", .type "Exception", .type "BaseException", .type "object"] "ValueError.__new__" = true) (w3_2 : PySem.W.keepIn K (.ref iC3) = true) (w3_3 : PySem.W.subIn K (.ref iC3) (.type "BaseException") = some true) (w3_4 : PySem.W.typeIn K (.ref iC3) = some (.type "type")) (w3_5 : PySem.W.hasDictIn K iC3 = true) (w3_6 : PySem.W.subIn K (.ref iC3) (.ref iC3) = some true) (w3_7 : PySem.W.findIn K (.ref iC3) "__getattribute__" = some (some (.builtin "BaseException.__getattribute__"))) (w3_8 : PySem.W.findIn K (.ref iC3) "__getattr__" = some none) (w3_9 : PySem.W.findIn K (.ref iC3) "__class__" = some (some (.builtin "object.__class__"))) (w3_10 : PySem.W.specialIn K (.builtin "object.__class__") "__get__" = some (some (.builtin "getset_descriptor.__get__"))) (w3_11 : PySem.W.takesIn K (.builtin "object.__class__") = some true) (w3_12 : PySem.W.mroIn K iC3 (.type "object") = some true) (w3_13 : PySem.W.nsIn K mainGlobals "NameClash" = some (some (.ref iD3_0))) (w3_14 : PySem.W.kitOne K (.ref iC3) (.ref iD3_0) = some false) (w3_15 : PySem.W.nsIn K mainGlobals "WrongCount" = some (some (.ref iD3_1))) (w3_16 : PySem.W.kitOne K (.ref iC3) (.ref iD3_1) = some false) (w3_17 : PySem.W.nsIn K mainGlobals "UnknownName" = some (some (.ref iD3_2))) (w3_18 : PySem.W.kitOne K (.ref iC3) (.ref iD3_2) = some false) (w3_19 : PySem.W.nsIn K mainGlobals "BadRange" = some (some (.ref iD3_3))) (w3_20 : PySem.W.kitOne K (.ref iC3) (.ref iD3_3) = some true) (w3_21 : PySem.W.nsIn K mainGlobals "Looped" = some (some (.ref iD3_4))) (w3_22 : PySem.W.kitOne K (.ref iC3) (.ref iD3_4) = some false) (w3_23 : PySem.W.nsIn K mainGlobals "TooDeep" = some (some (.ref iD3_5))) (w3_24 : PySem.W.kitOne K (.ref iC3) (.ref iD3_5) = some false) (w3_25 : PySem.W.nsIn K mainGlobals "SignoffError" = some (some (.ref iD3_6))) (w3_26 : PySem.W.subIn K (.ref iD3_6) (.type "BaseException") = some true) (w3_27 : PySem.W.hasDictIn K iD3_6 = true) (w3_28 : PySem.W.typeIn K (.ref iD3_6) = some (.type "type")) (w3_29 : PySem.W.subIn K (.ref iC3) (.ref iD3_6) = some true)
    {iC4 iD4_0 iD4_1 iD4_2 iD4_3 iD4_4 iD4_5 iD4_6 : Addr} (w4_0 : PySem.W.nsIn K mainGlobals "TooDeep" = some (some (.ref iC4))) (w4_1 : PySem.W.excIn K iC4 [.type "ValueError", .type "Exception", .type "BaseException", .type "object"] "ValueError.__new__" = true) (w4_2 : PySem.W.keepIn K (.ref iC4) = true) (w4_3 : PySem.W.subIn K (.ref iC4) (.type "BaseException") = some true) (w4_4 : PySem.W.typeIn K (.ref iC4) = some (.type "type")) (w4_5 : PySem.W.hasDictIn K iC4 = true) (w4_6 : PySem.W.subIn K (.ref iC4) (.ref iC4) = some true) (w4_7 : PySem.W.findIn K (.ref iC4) "__getattribute__" = some (some (.builtin "BaseException.__getattribute__"))) (w4_8 : PySem.W.findIn K (.ref iC4) "__getattr__" = some none) (w4_9 : PySem.W.findIn K (.ref iC4) "__class__" = some (some (.builtin "object.__class__"))) (w4_10 : PySem.W.specialIn K (.builtin "object.__class__") "__get__" = some (some (.builtin "getset_descriptor.__get__"))) (w4_11 : PySem.W.takesIn K (.builtin "object.__class__") = some true) (w4_12 : PySem.W.mroIn K iC4 (.type "object") = some true) (w4_13 : PySem.W.nsIn K mainGlobals "NameClash" = some (some (.ref iD4_0))) (w4_14 : PySem.W.kitOne K (.ref iC4) (.ref iD4_0) = some false) (w4_15 : PySem.W.nsIn K mainGlobals "WrongCount" = some (some (.ref iD4_1))) (w4_16 : PySem.W.kitOne K (.ref iC4) (.ref iD4_1) = some false) (w4_17 : PySem.W.nsIn K mainGlobals "UnknownName" = some (some (.ref iD4_2))) (w4_18 : PySem.W.kitOne K (.ref iC4) (.ref iD4_2) = some false) (w4_19 : PySem.W.nsIn K mainGlobals "BadRange" = some (some (.ref iD4_3))) (w4_20 : PySem.W.kitOne K (.ref iC4) (.ref iD4_3) = some false) (w4_21 : PySem.W.nsIn K mainGlobals "Looped" = some (some (.ref iD4_4))) (w4_22 : PySem.W.kitOne K (.ref iC4) (.ref iD4_4) = some false) (w4_23 : PySem.W.nsIn K mainGlobals "TooDeep" = some (some (.ref iD4_5))) (w4_24 : PySem.W.kitOne K (.ref iC4) (.ref iD4_5) = some true) (w4_25 : PySem.W.nsIn K mainGlobals "SignoffError" = some (some (.ref iD4_6))) (w4_26 : PySem.W.subIn K (.ref iD4_6) (.type "BaseException") = some true) (w4_27 : PySem.W.hasDictIn K iD4_6 = true) (w4_28 : PySem.W.typeIn K (.ref iD4_6) = some (.type "type")) (w4_29 : PySem.W.subIn K (.ref iC4) (.ref iD4_6) = some true)
    {eC0 fe0 cdae0 cce0 : Addr} {ode0 ane0 od2e0 od3e0 : Option Addr} {sle0 sl2e0 sl3e0 : Array (Option Value)} {vse0 : Array Value} {filee0 : Str} {tfe0 : Tok} {oce0 kve0 dce0 pme0 cte0 oc2e0 oc3e0 : Value} {eD0_0 eD0_1 eD0_2 eD0_3 eD0_4 eD0_5 eD0_6 : Addr} (q0_0 : PySem.W.nsIn K mainGlobals "Looped" = some (some (.ref eC0))) (q0_1 : PySem.W.findIn K (.ref eC0) "__init__" = some (some (.ref fe0))) (q0_2 : K.lookup fe0 = some ⟨oce0, ode0, .func (PySem.W.fnX "__init__" "Looped.__init__" (defArgs s_Looped_init) (defBody s_Looped_init) (defScope s_Looped_init) [("__class__", cce0)] .none kve0 dce0 pme0 ane0 (.ref cdae0) cte0), sle0⟩) (q0_3 : PySem.W.codeIn K (.ref cdae0) "Looped.__init__" = true) (q0_4 : K.lookup cdae0 = some ⟨oc2e0, od2e0, .fields vse0, sl2e0⟩) (q0_5 : vse0[2]? = some (.str filee0 tfe0)) (q0_6 : K.lookup cce0 = some ⟨oc3e0, od3e0, .cell (some (.ref eC0)), sl3e0⟩) (q0_7 : oexB K eC0 = true) (q0_8 : PySem.W.findIn K (.ref eC0) "__setattr__" = some (some (.builtin "object.__setattr__"))) (q0_9 : PySem.W.subIn K (.ref eC0) (.type "BaseException") = some true) (q0_10 : PySem.W.typeIn K (.ref eC0) = some (.type "type")) (q0_11 : PySem.W.keepIn K (.ref eC0) = true) (q0_12 : PySem.W.typeIn K (.ref fe0) = some (.type "function")) (q0_13 : PySem.W.nsIn K mainGlobals "super" = some none) (q0_14 : PySem.W.nsIn K cStatics "thirdparty.any" = some none) (q0_15 : PySem.W.subIn K (.ref eC0) (.type "ValueError") = some true) (q0_16 : PySem.W.mroIn K eC0 (.ref eC0) = some true) (q0_17 : PySem.W.ks_superIn K eC0 eC0 "__init__" = some (some (.builtin "ValueError.__init__"))) (q0_18 : PySem.W.findIn K (.ref eC0) "names" = some none) (q0_19 : PySem.W.hasDictIn K eC0 = true) (q0_20 : PySem.W.findIn K (.ref eC0) "__getattribute__" = some (some (.builtin "BaseException.__getattribute__"))) (q0_21 : PySem.W.findIn K (.ref eC0) "__getattr__" = some none) (q0_22 : PySem.W.findIn K (.ref eC0) "__class__" = some (some (.builtin "object.__class__"))) (q0_23 : PySem.W.specialIn K (.builtin "object.__class__") "__get__" = some (some (.builtin "getset_descriptor.__get__"))) (q0_24 : PySem.W.takesIn K (.builtin "object.__class__") = some true) (q0_25 : PySem.W.mroIn K eC0 (.type "object") = some true) (q0_26 : ((l.prog.main.file : Str) == filee0) = true) (q0_27 : (l.prog.main.scope.names.lookup ("super" : Str)).isSome = false) (q0_28 : PySem.W.nsIn K mainGlobals "NameClash" = some (some (.ref eD0_0))) (q0_29 : PySem.W.kitOne K (.ref eC0) (.ref eD0_0) = some false) (q0_30 : PySem.W.nsIn K mainGlobals "WrongCount" = some (some (.ref eD0_1))) (q0_31 : PySem.W.kitOne K (.ref eC0) (.ref eD0_1) = some false) (q0_32 : PySem.W.nsIn K mainGlobals "UnknownName" = some (some (.ref eD0_2))) (q0_33 : PySem.W.kitOne K (.ref eC0) (.ref eD0_2) = some false) (q0_34 : PySem.W.nsIn K mainGlobals "BadRange" = some (some (.ref eD0_3))) (q0_35 : PySem.W.kitOne K (.ref eC0) (.ref eD0_3) = some false) (q0_36 : PySem.W.nsIn K mainGlobals "Looped" = some (some (.ref eD0_4))) (q0_37 : PySem.W.kitOne K (.ref eC0) (.ref eD0_4) = some true) (q0_38 : PySem.W.nsIn K mainGlobals "TooDeep" = some (some (.ref eD0_5))) (q0_39 : PySem.W.kitOne K (.ref eC0) (.ref eD0_5) = some false) (q0_40 : PySem.W.nsIn K mainGlobals "SignoffError" = some (some (.ref eD0_6))) (q0_41 : PySem.W.subIn K (.ref eD0_6) (.type "BaseException") = some true) (q0_42 : PySem.W.hasDictIn K eD0_6 = true) (q0_43 : PySem.W.typeIn K (.ref eD0_6) = some (.type "type")) (q0_44 : PySem.W.subIn K (.ref eC0) (.ref eD0_6) = some true)
    (z0 : PySem.W.nsIn K mainGlobals "super" = some none) (z1 : PySem.W.nsIn K mainGlobals "len" = some none) (z2 : PySem.W.nsIn K mainGlobals "enumerate" = some none) (z3 : PySem.W.nsIn K mainGlobals "list" = some none) (z4 : PySem.W.nsIn K mainGlobals "set" = some none) (z5 : PySem.W.nsIn K mainGlobals "tuple" = some none) (z6 : PySem.W.nsIn K mainGlobals "max" = some none) (z7 : PySem.W.nsIn K mainGlobals "int" = some none) (z8 : PySem.W.nsIn K mainGlobals "range" = some none) (z9 : PySem.W.nsIn K mainGlobals "isinstance" = some none) (z10 : PySem.W.nsIn K mainGlobals "bool" = some none) (z11 : PySem.W.nsIn K mainGlobals "str" = some none) (z12 : PySem.W.nsIn K mainGlobals "min" = some none) (z13 : PySem.W.nsIn K mainGlobals "ValueError" = some none) :
    ∃ fd : FuncData, (∀ (s : Shared) (v : Value), BindsTo s fd ⟨[v], []⟩ [("script", v)]) ∧ ∀ base : Heap, K.In base → base.Ns mainGlobals mg → FnOk l.prog w K mg base CX0 7 fa fd ["script"] (spLaw K) := by
  have e := hfa.symm.trans (PySem.W.mg_of X G a22)
  cases e
  have F0 := fun_mk (st := s_check_circuit) l0 c0 k0
  have F1 := fun_mk (st := s_check_nets) l1 c1 k1
  have F2 := fun_mk (st := s_check_pin_range) l2 c2 k2
  have F3 := fun_mk (st := s_check_reg) l3 c3 k3
  have F4 := fun_mk (st := s_least_order) l4 c4 k4
  have F5 := fun_mk (st := s_all_names) l5 c5 k5
  have F6 := fun_mk (st := s_check_names) l6 c6 k6
  have F7 := fun_mk (st := s_check_counts) l7 c7 k7
  have F8 := fun_mk (st := s_check_paths) l8 c8 k8
  have F9 := fun_mk (st := s_gates_read) l9 c9 k9
  have F10 := fun_mk (st := s_cycle) l10 c10 k10
  have F11 := fun_mk (st := s_law_pool) l11 c11 k11
  have F12 := fun_mk (st := s_law_spread) l12 c12 k12
  have F13 := fun_mk (st := s_law_draw) l13 c13 k13
  have F14 := fun_mk (st := s_law_bits) l14 c14 k14
  have F15 := fun_mk (st := s_law_table) l15 c15 k15
  have F16 := fun_mk (st := s_law_register) l16 c16 k16
  have F17 := fun_mk (st := s_law_shuffled) l17 c17 k17
  have F18 := fun_mk (st := s_law_circuit) l18 c18 k18
  have F19 := fun_mk (st := s_law_broken) l19 c19 k19
  have F20 := fun_mk (st := s_law_cycle) l20 c20 k20
  have F21 := fun_mk (st := s_law_told) l21 c21 k21
  have F22 := fun_mk (st := s_law) l22 c22 k22
  have A : All K mg := ⟨⟨f0, _, F0, PySem.W.mg_of X G a0, F0.binds (ps := ["circuit"]) fun _ _ _ _ _ _ us hl => match us, hl with | [_], _ => rfl⟩,
    ⟨f1, _, F1, PySem.W.mg_of X G a1, F1.binds (ps := ["circuit", "names"]) fun _ _ _ _ _ _ us hl => match us, hl with | [_, _], _ => rfl⟩,
    ⟨f2, _, F2, PySem.W.mg_of X G a2, F2.binds (ps := ["pair"]) fun _ _ _ _ _ _ us hl => match us, hl with | [_], _ => rfl⟩,
    ⟨f3, _, F3, PySem.W.mg_of X G a3, F3.binds (ps := ["reg"]) fun _ _ _ _ _ _ us hl => match us, hl with | [_], _ => rfl⟩,
    ⟨f4, _, F4, PySem.W.mg_of X G a4, F4.binds (ps := ["needed"]) fun _ _ _ _ _ _ us hl => match us, hl with | [_], _ => rfl⟩,
    ⟨f5, _, F5, PySem.W.mg_of X G a5, F5.binds (ps := ["circuit"]) fun _ _ _ _ _ _ us hl => match us, hl with | [_], _ => rfl⟩,
    ⟨f6, _, F6, PySem.W.mg_of X G a6, F6.binds (ps := ["circuit"]) fun _ _ _ _ _ _ us hl => match us, hl with | [_], _ => rfl⟩,
    ⟨f7, _, F7, PySem.W.mg_of X G a7, F7.binds (ps := ["gate"]) fun _ _ _ _ _ _ us hl => match us, hl with | [_], _ => rfl⟩,
    ⟨f8, _, F8, PySem.W.mg_of X G a8, F8.binds (ps := ["gates"]) fun _ _ _ _ _ _ us hl => match us, hl with | [_], _ => rfl⟩,
    ⟨f9, _, F9, PySem.W.mg_of X G a9, F9.binds (ps := ["gates"]) fun _ _ _ _ _ _ us hl => match us, hl with | [_], _ => rfl⟩,
    ⟨f10, _, F10, PySem.W.mg_of X G a10, F10.binds (ps := ["read", "order"]) fun _ _ _ _ _ _ us hl => match us, hl with | [_, _], _ => rfl⟩,
    ⟨f11, _, F11, PySem.W.mg_of X G a11, F11.binds (ps := ["script"]) fun _ _ _ _ _ _ us hl => match us, hl with | [_], _ => rfl⟩,
    ⟨f12, _, F12, PySem.W.mg_of X G a12, F12.binds (ps := ["cell"]) fun _ _ _ _ _ _ us hl => match us, hl with | [_], _ => rfl⟩,
    ⟨f13, _, F13, PySem.W.mg_of X G a13, F13.binds (ps := ["pool", "many"]) fun _ _ _ _ _ _ us hl => match us, hl with | [_, _], _ => rfl⟩,
    ⟨f14, _, F14, PySem.W.mg_of X G a14, F14.binds (ps := ["index", "many"]) fun _ _ _ _ _ _ us hl => match us, hl with | [_, _], _ => rfl⟩,
    ⟨f15, _, F15, PySem.W.mg_of X G a15, F15.binds (ps := ["pool", "many"]) fun _ _ _ _ _ _ us hl => match us, hl with | [_, _], _ => rfl⟩,
    ⟨f16, _, F16, PySem.W.mg_of X G a16, F16.binds (ps := ["pool", "name", "net"]) fun _ _ _ _ _ _ us hl => match us, hl with | [_, _, _], _ => rfl⟩,
    ⟨f17, _, F17, PySem.W.mg_of X G a17, F17.binds (ps := ["pool", "rows"]) fun _ _ _ _ _ _ us hl => match us, hl with | [_, _], _ => rfl⟩,
    ⟨f18, _, F18, PySem.W.mg_of X G a18, F18.binds (ps := ["pool", "most"]) fun _ _ _ _ _ _ us hl => match us, hl with | [_, _], _ => rfl⟩,
    ⟨f19, _, F19, PySem.W.mg_of X G a19, F19.binds (ps := ["pool", "circuit", "rule"]) fun _ _ _ _ _ _ us hl => match us, hl with | [_, _, _], _ => rfl⟩,
    ⟨f20, _, F20, PySem.W.mg_of X G a20, F20.binds (ps := ["circuit", "names"]) fun _ _ _ _ _ _ us hl => match us, hl with | [_, _], _ => rfl⟩,
    ⟨f21, _, F21, PySem.W.mg_of X G a21, F21.binds (ps := ["circuit", "rule"]) fun _ _ _ _ _ _ us hl => match us, hl with | [_, _], _ => rfl⟩,
    PySem.W.mg_none_of X G z0,
    PySem.W.mg_none_of X G z1,
    PySem.W.mg_none_of X G z2,
    PySem.W.mg_none_of X G z3,
    PySem.W.mg_none_of X G z4,
    PySem.W.mg_none_of X G z5,
    PySem.W.mg_none_of X G z6,
    PySem.W.mg_none_of X G z7,
    PySem.W.mg_none_of X G z8,
    PySem.W.mg_none_of X G z9,
    PySem.W.mg_none_of X G z10,
    PySem.W.mg_none_of X G z11,
    PySem.W.mg_none_of X G z12,
    PySem.W.mg_none_of X G z13,
    ⟨_, PySem.W.mg_of X G g0⟩,
    ⟨_, PySem.W.mg_of X G g1⟩,
    ⟨_, PySem.W.mg_of X G g2⟩,
    PySem.W.mg_of X G m0,
    PySem.W.mg_of X G m1,
    ⟨iC0, ⟨⟨PySem.W.mg_of X G w0_0, w0_1, w0_2, w0_3, w0_4⟩, w0_5, w0_6, ⟨w0_7, w0_8, w0_3, w0_5, w0_9, w0_10, w0_11, w0_12⟩⟩, ⟨iD0_0, PySem.W.mg_of X G w0_13, w0_14⟩, ⟨iD0_1, PySem.W.mg_of X G w0_15, w0_16⟩, ⟨iD0_2, PySem.W.mg_of X G w0_17, w0_18⟩, ⟨iD0_3, PySem.W.mg_of X G w0_19, w0_20⟩, ⟨iD0_4, PySem.W.mg_of X G w0_21, w0_22⟩, ⟨iD0_5, PySem.W.mg_of X G w0_23, w0_24⟩, ⟨iD0_6, PySem.W.mg_of X G w0_25, PySem.W.exm_ref w0_26 w0_27 w0_28 w0_29⟩⟩,
    ⟨iC1, ⟨⟨PySem.W.mg_of X G w1_0, w1_1, w1_2, w1_3, w1_4⟩, w1_5, w1_6, ⟨w1_7, w1_8, w1_3, w1_5, w1_9, w1_10, w1_11, w1_12⟩⟩, ⟨iD1_0, PySem.W.mg_of X G w1_13, w1_14⟩, ⟨iD1_1, PySem.W.mg_of X G w1_15, w1_16⟩, ⟨iD1_2, PySem.W.mg_of X G w1_17, w1_18⟩, ⟨iD1_3, PySem.W.mg_of X G w1_19, w1_20⟩, ⟨iD1_4, PySem.W.mg_of X G w1_21, w1_22⟩, ⟨iD1_5, PySem.W.mg_of X G w1_23, w1_24⟩, ⟨iD1_6, PySem.W.mg_of X G w1_25, PySem.W.exm_ref w1_26 w1_27 w1_28 w1_29⟩⟩,
    ⟨iC2, ⟨⟨PySem.W.mg_of X G w2_0, w2_1, w2_2, w2_3, w2_4⟩, w2_5, w2_6, ⟨w2_7, w2_8, w2_3, w2_5, w2_9, w2_10, w2_11, w2_12⟩⟩, ⟨iD2_0, PySem.W.mg_of X G w2_13, w2_14⟩, ⟨iD2_1, PySem.W.mg_of X G w2_15, w2_16⟩, ⟨iD2_2, PySem.W.mg_of X G w2_17, w2_18⟩, ⟨iD2_3, PySem.W.mg_of X G w2_19, w2_20⟩, ⟨iD2_4, PySem.W.mg_of X G w2_21, w2_22⟩, ⟨iD2_5, PySem.W.mg_of X G w2_23, w2_24⟩, ⟨iD2_6, PySem.W.mg_of X G w2_25, PySem.W.exm_ref w2_26 w2_27 w2_28 w2_29⟩⟩,
    ⟨iC3, ⟨⟨PySem.W.mg_of X G w3_0, w3_1, w3_2, w3_3, w3_4⟩, w3_5, w3_6, ⟨w3_7, w3_8, w3_3, w3_5, w3_9, w3_10, w3_11, w3_12⟩⟩, ⟨iD3_0, PySem.W.mg_of X G w3_13, w3_14⟩, ⟨iD3_1, PySem.W.mg_of X G w3_15, w3_16⟩, ⟨iD3_2, PySem.W.mg_of X G w3_17, w3_18⟩, ⟨iD3_3, PySem.W.mg_of X G w3_19, w3_20⟩, ⟨iD3_4, PySem.W.mg_of X G w3_21, w3_22⟩, ⟨iD3_5, PySem.W.mg_of X G w3_23, w3_24⟩, ⟨iD3_6, PySem.W.mg_of X G w3_25, PySem.W.exm_ref w3_26 w3_27 w3_28 w3_29⟩⟩,
    ⟨iC4, ⟨⟨PySem.W.mg_of X G w4_0, w4_1, w4_2, w4_3, w4_4⟩, w4_5, w4_6, ⟨w4_7, w4_8, w4_3, w4_5, w4_9, w4_10, w4_11, w4_12⟩⟩, ⟨iD4_0, PySem.W.mg_of X G w4_13, w4_14⟩, ⟨iD4_1, PySem.W.mg_of X G w4_15, w4_16⟩, ⟨iD4_2, PySem.W.mg_of X G w4_17, w4_18⟩, ⟨iD4_3, PySem.W.mg_of X G w4_19, w4_20⟩, ⟨iD4_4, PySem.W.mg_of X G w4_21, w4_22⟩, ⟨iD4_5, PySem.W.mg_of X G w4_23, w4_24⟩, ⟨iD4_6, PySem.W.mg_of X G w4_25, PySem.W.exm_ref w4_26 w4_27 w4_28 w4_29⟩⟩⟩
  have OX0 : ∃ (C f : Addr) (fd : FuncData), ErrF l.prog K mg "Looped" "Looped.__init__" C f fd s_Looped_init "names" ∧ IsK K mg C "NameClash" false ∧ IsK K mg C "WrongCount" false ∧ IsK K mg C "UnknownName" false ∧ IsK K mg C "BadRange" false ∧ IsK K mg C "Looped" true ∧ IsK K mg C "TooDeep" false ∧ CatchK K mg C "SignoffError" := ⟨eC0, fe0, _, ⟨PySem.W.mg_of X G q0_0, ⟨_, ⟨⟨oexB_ok q0_7, q0_8, q0_9, q0_10, q0_11⟩, q0_1, q0_12, PySem.W.mg_none_of X G q0_13, q0_14, q0_15, q0_16, q0_17, ⟨_, _, _, _, _, _, _, _, _, _, _, rfl, q0_2, q0_3, ⟨_, _, _, _, _, q0_4, q0_5⟩, _, _, _, q0_6⟩⟩, q0_26⟩, q0_27, .all fun us hl => match us, hl with | [_, _], _ => rfl, q0_18, ⟨q0_20, q0_21, q0_9, q0_19, q0_22, q0_23, q0_24, q0_25⟩⟩, ⟨eD0_0, PySem.W.mg_of X G q0_28, q0_29⟩, ⟨eD0_1, PySem.W.mg_of X G q0_30, q0_31⟩, ⟨eD0_2, PySem.W.mg_of X G q0_32, q0_33⟩, ⟨eD0_3, PySem.W.mg_of X G q0_34, q0_35⟩, ⟨eD0_4, PySem.W.mg_of X G q0_36, q0_37⟩, ⟨eD0_5, PySem.W.mg_of X G q0_38, q0_39⟩, ⟨eD0_6, PySem.W.mg_of X G q0_40, PySem.W.exm_ref q0_41 q0_42 q0_43 q0_44⟩⟩
  exact ⟨_, fun s v => .of_eq rfl, fun base _ _ => glue A OX0 F22⟩
end G
open PySem PySem.W PyProof.Rows
set_option maxRecDepth 100000 in
set_option maxHeartbeats 0 in
theorem PySem.Challenge.cw_signoff_k18_circuits_checked_holds : PySem.Challenge.rw_signoff_k18_circuits_checked.Holds := by
  w_on; o_law; k_head; (case hw => w_witness2)
  k_fill
  refine L2.walk_of (l := PySem.Challenge.rw_signoff_k18_circuits_checked) (n := 63) (k := 7) (x := "script") (CX := fun _ => L2.CX0) (sp := fun w => G.spLaw _) rfl (by decide) rfl ⟨rfl, by decide, by decide⟩ (fun w h Y => PySem.W.kIn_of Y) ?F (fun _ _ a ns hl _ hS => ⟨a, ns, rfl, hS, hl, fun _ => rfl⟩) (fun _ _ _ _ _ h => h)
  case F =>
    intro w mg fa h KX GN hmg
    refine' G.all_mk KX GN hmg ?a0 ?l0 ?c0 ?k0 ?a1 ?l1 ?c1 ?k1 ?a2 ?l2 ?c2 ?k2 ?a3 ?l3 ?c3 ?k3 ?a4 ?l4 ?c4 ?k4 ?a5 ?l5 ?c5 ?k5 ?a6 ?l6 ?c6 ?k6 ?a7 ?l7 ?c7 ?k7 ?a8 ?l8 ?c8 ?k8 ?a9 ?l9 ?c9 ?k9 ?a10 ?l10 ?c10 ?k10 ?a11 ?l11 ?c11 ?k11 ?a12 ?l12 ?c12 ?k12 ?a13 ?l13 ?c13 ?k13 ?a14 ?l14 ?c14 ?k14 ?a15 ?l15 ?c15 ?k15 ?a16 ?l16 ?c16 ?k16 ?a17 ?l17 ?c17 ?k17 ?a18 ?l18 ?c18 ?k18 ?a19 ?l19 ?c19 ?k19 ?a20 ?l20 ?c20 ?k20 ?a21 ?l21 ?c21 ?k21 ?a22 ?l22 ?c22 ?k22 ?cg0 ?cg1 ?cg2 ?m0 ?m1 ?xw0_0 ?xw0_1 ?xw0_2 ?xw0_3 ?xw0_4 ?xw0_5 ?xw0_6 ?xw0_7 ?xw0_8 ?xw0_9 ?xw0_10 ?xw0_11 ?xw0_12 ?xw0_13 ?xw0_14 ?xw0_15 ?xw0_16 ?xw0_17 ?xw0_18 ?xw0_19 ?xw0_20 ?xw0_21 ?xw0_22 ?xw0_23 ?xw0_24 ?xw0_25 ?xw0_26 ?xw0_27 ?xw0_28 ?xw0_29 ?xw1_0 ?xw1_1 ?xw1_2 ?xw1_3 ?xw1_4 ?xw1_5 ?xw1_6 ?xw1_7 ?xw1_8 ?xw1_9 ?xw1_10 ?xw1_11 ?xw1_12 ?xw1_13 ?xw1_14 ?xw1_15 ?xw1_16 ?xw1_17 ?xw1_18 ?xw1_19 ?xw1_20 ?xw1_21 ?xw1_22 ?xw1_23 ?xw1_24 ?xw1_25 ?xw1_26 ?xw1_27 ?xw1_28 ?xw1_29 ?xw2_0 ?xw2_1 ?xw2_2 ?xw2_3 ?xw2_4 ?xw2_5 ?xw2_6 ?xw2_7 ?xw2_8 ?xw2_9 ?xw2_10 ?xw2_11 ?xw2_12 ?xw2_13 ?xw2_14 ?xw2_15 ?xw2_16 ?xw2_17 ?xw2_18 ?xw2_19 ?xw2_20 ?xw2_21 ?xw2_22 ?xw2_23 ?xw2_24 ?xw2_25 ?xw2_26 ?xw2_27 ?xw2_28 ?xw2_29 ?xw3_0 ?xw3_1 ?xw3_2 ?xw3_3 ?xw3_4 ?xw3_5 ?xw3_6 ?xw3_7 ?xw3_8 ?xw3_9 ?xw3_10 ?xw3_11 ?xw3_12 ?xw3_13 ?xw3_14 ?xw3_15 ?xw3_16 ?xw3_17 ?xw3_18 ?xw3_19 ?xw3_20 ?xw3_21 ?xw3_22 ?xw3_23 ?xw3_24 ?xw3_25 ?xw3_26 ?xw3_27 ?xw3_28 ?xw3_29 ?xw4_0 ?xw4_1 ?xw4_2 ?xw4_3 ?xw4_4 ?xw4_5 ?xw4_6 ?xw4_7 ?xw4_8 ?xw4_9 ?xw4_10 ?xw4_11 ?xw4_12 ?xw4_13 ?xw4_14 ?xw4_15 ?xw4_16 ?xw4_17 ?xw4_18 ?xw4_19 ?xw4_20 ?xw4_21 ?xw4_22 ?xw4_23 ?xw4_24 ?xw4_25 ?xw4_26 ?xw4_27 ?xw4_28 ?xw4_29 ?kq0_0 ?kq0_1 ?kq0_2 ?kq0_3 ?kq0_4 ?rq0_5 ?kq0_6 ?rq0_7 ?kq0_8 ?kq0_9 ?kq0_10 ?kq0_11 ?kq0_12 ?kq0_13 ?kq0_14 ?kq0_15 ?kq0_16 ?rq0_17 ?kq0_18 ?kq0_19 ?kq0_20 ?kq0_21 ?kq0_22 ?kq0_23 ?kq0_24 ?kq0_25 ?rq0_26 ?rq0_27 ?kq0_28 ?kq0_29 ?kq0_30 ?kq0_31 ?kq0_32 ?kq0_33 ?kq0_34 ?kq0_35 ?kq0_36 ?kq0_37 ?kq0_38 ?kq0_39 ?kq0_40 ?kq0_41 ?kq0_42 ?kq0_43 ?kq0_44 ?z0 ?z1 ?z2 ?z3 ?z4 ?z5 ?z6 ?z7 ?z8 ?z9 ?z10 ?z11 ?z12 ?z13
    (case a0 => k_is)
    (case l0 => k_is)
    (case c0 => k_is)
    (case k0 => k_is)
    (case a1 => k_is)
    (case l1 => k_is)
    (case c1 => k_is)
    (case k1 => k_is)
    (case a2 => k_is)
    (case l2 => k_is)
    (case c2 => k_is)
    (case k2 => k_is)
    (case a3 => k_is)
    (case l3 => k_is)
    (case c3 => k_is)
    (case k3 => k_is)
    (case a4 => k_is)
    (case l4 => k_is)
    (case c4 => k_is)
    (case k4 => k_is)
    (case a5 => k_is)
    (case l5 => k_is)
    (case c5 => k_is)
    (case k5 => k_is)
    (case a6 => k_is)
    (case l6 => k_is)
    (case c6 => k_is)
    (case k6 => k_is)
    (case a7 => k_is)
    (case l7 => k_is)
    (case c7 => k_is)
    (case k7 => k_is)
    (case a8 => k_is)
    (case l8 => k_is)
    (case c8 => k_is)
    (case k8 => k_is)
    (case a9 => k_is)
    (case l9 => k_is)
    (case c9 => k_is)
    (case k9 => k_is)
    (case a10 => k_is)
    (case l10 => k_is)
    (case c10 => k_is)
    (case k10 => k_is)
    (case a11 => k_is)
    (case l11 => k_is)
    (case c11 => k_is)
    (case k11 => k_is)
    (case a12 => k_is)
    (case l12 => k_is)
    (case c12 => k_is)
    (case k12 => k_is)
    (case a13 => k_is)
    (case l13 => k_is)
    (case c13 => k_is)
    (case k13 => k_is)
    (case a14 => k_is)
    (case l14 => k_is)
    (case c14 => k_is)
    (case k14 => k_is)
    (case a15 => k_is)
    (case l15 => k_is)
    (case c15 => k_is)
    (case k15 => k_is)
    (case a16 => k_is)
    (case l16 => k_is)
    (case c16 => k_is)
    (case k16 => k_is)
    (case a17 => k_is)
    (case l17 => k_is)
    (case c17 => k_is)
    (case k17 => k_is)
    (case a18 => k_is)
    (case l18 => k_is)
    (case c18 => k_is)
    (case k18 => k_is)
    (case a19 => k_is)
    (case l19 => k_is)
    (case c19 => k_is)
    (case k19 => k_is)
    (case a20 => k_is)
    (case l20 => k_is)
    (case c20 => k_is)
    (case k20 => k_is)
    (case a21 => k_is)
    (case l21 => k_is)
    (case c21 => k_is)
    (case k21 => k_is)
    (case a22 => k_is)
    (case l22 => k_is)
    (case c22 => k_is)
    (case k22 => k_is)
    (case cg0 => k_is)
    (case cg1 => k_is)
    (case cg2 => k_is)
    (case m0 => k_is)
    (case m1 => k_is)
    (case xw0_0 => first | k_exc | k_is | rfl)
    (case xw0_1 => first | k_exc | k_is | rfl)
    (case xw0_2 => first | k_exc | k_is | rfl)
    (case xw0_3 => first | k_exc | k_is | rfl)
    (case xw0_4 => first | k_exc | k_is | rfl)
    (case xw0_5 => first | k_exc | k_is | rfl)
    (case xw0_6 => first | k_exc | k_is | rfl)
    (case xw0_7 => first | k_exc | k_is | rfl)
    (case xw0_8 => first | k_exc | k_is | rfl)
    (case xw0_9 => first | k_exc | k_is | rfl)
    (case xw0_10 => first | k_exc | k_is | rfl)
    (case xw0_11 => first | k_exc | k_is | rfl)
    (case xw0_12 => first | k_exc | k_is | rfl)
    (case xw0_13 => first | k_exc | k_is | rfl)
    (case xw0_14 => first | k_exc | k_is | rfl)
    (case xw0_15 => first | k_exc | k_is | rfl)
    (case xw0_16 => first | k_exc | k_is | rfl)
    (case xw0_17 => first | k_exc | k_is | rfl)
    (case xw0_18 => first | k_exc | k_is | rfl)
    (case xw0_19 => first | k_exc | k_is | rfl)
    (case xw0_20 => first | k_exc | k_is | rfl)
    (case xw0_21 => first | k_exc | k_is | rfl)
    (case xw0_22 => first | k_exc | k_is | rfl)
    (case xw0_23 => first | k_exc | k_is | rfl)
    (case xw0_24 => first | k_exc | k_is | rfl)
    (case xw0_25 => first | k_exc | k_is | rfl)
    (case xw0_26 => first | k_exc | k_is | rfl)
    (case xw0_27 => first | k_exc | k_is | rfl)
    (case xw0_28 => first | k_exc | k_is | rfl)
    (case xw0_29 => first | k_exc | k_is | rfl)
    (case xw1_0 => first | k_exc | k_is | rfl)
    (case xw1_1 => first | k_exc | k_is | rfl)
    (case xw1_2 => first | k_exc | k_is | rfl)
    (case xw1_3 => first | k_exc | k_is | rfl)
    (case xw1_4 => first | k_exc | k_is | rfl)
    (case xw1_5 => first | k_exc | k_is | rfl)
    (case xw1_6 => first | k_exc | k_is | rfl)
    (case xw1_7 => first | k_exc | k_is | rfl)
    (case xw1_8 => first | k_exc | k_is | rfl)
    (case xw1_9 => first | k_exc | k_is | rfl)
    (case xw1_10 => first | k_exc | k_is | rfl)
    (case xw1_11 => first | k_exc | k_is | rfl)
    (case xw1_12 => first | k_exc | k_is | rfl)
    (case xw1_13 => first | k_exc | k_is | rfl)
    (case xw1_14 => first | k_exc | k_is | rfl)
    (case xw1_15 => first | k_exc | k_is | rfl)
    (case xw1_16 => first | k_exc | k_is | rfl)
    (case xw1_17 => first | k_exc | k_is | rfl)
    (case xw1_18 => first | k_exc | k_is | rfl)
    (case xw1_19 => first | k_exc | k_is | rfl)
    (case xw1_20 => first | k_exc | k_is | rfl)
    (case xw1_21 => first | k_exc | k_is | rfl)
    (case xw1_22 => first | k_exc | k_is | rfl)
    (case xw1_23 => first | k_exc | k_is | rfl)
    (case xw1_24 => first | k_exc | k_is | rfl)
    (case xw1_25 => first | k_exc | k_is | rfl)
    (case xw1_26 => first | k_exc | k_is | rfl)
    (case xw1_27 => first | k_exc | k_is | rfl)
    (case xw1_28 => first | k_exc | k_is | rfl)
    (case xw1_29 => first | k_exc | k_is | rfl)
    (case xw2_0 => first | k_exc | k_is | rfl)
    (case xw2_1 => first | k_exc | k_is | rfl)
    (case xw2_2 => first | k_exc | k_is | rfl)
    (case xw2_3 => first | k_exc | k_is | rfl)
    (case xw2_4 => first | k_exc | k_is | rfl)
    (case xw2_5 => first | k_exc | k_is | rfl)
    (case xw2_6 => first | k_exc | k_is | rfl)
    (case xw2_7 => first | k_exc | k_is | rfl)
    (case xw2_8 => first | k_exc | k_is | rfl)
    (case xw2_9 => first | k_exc | k_is | rfl)
    (case xw2_10 => first | k_exc | k_is | rfl)
    (case xw2_11 => first | k_exc | k_is | rfl)
    (case xw2_12 => first | k_exc | k_is | rfl)
    (case xw2_13 => first | k_exc | k_is | rfl)
    (case xw2_14 => first | k_exc | k_is | rfl)
    (case xw2_15 => first | k_exc | k_is | rfl)
    (case xw2_16 => first | k_exc | k_is | rfl)
    (case xw2_17 => first | k_exc | k_is | rfl)
    (case xw2_18 => first | k_exc | k_is | rfl)
    (case xw2_19 => first | k_exc | k_is | rfl)
    (case xw2_20 => first | k_exc | k_is | rfl)
    (case xw2_21 => first | k_exc | k_is | rfl)
    (case xw2_22 => first | k_exc | k_is | rfl)
    (case xw2_23 => first | k_exc | k_is | rfl)
    (case xw2_24 => first | k_exc | k_is | rfl)
    (case xw2_25 => first | k_exc | k_is | rfl)
    (case xw2_26 => first | k_exc | k_is | rfl)
    (case xw2_27 => first | k_exc | k_is | rfl)
    (case xw2_28 => first | k_exc | k_is | rfl)
    (case xw2_29 => first | k_exc | k_is | rfl)
    (case xw3_0 => first | k_exc | k_is | rfl)
    (case xw3_1 => first | k_exc | k_is | rfl)
    (case xw3_2 => first | k_exc | k_is | rfl)
    (case xw3_3 => first | k_exc | k_is | rfl)
    (case xw3_4 => first | k_exc | k_is | rfl)
    (case xw3_5 => first | k_exc | k_is | rfl)
    (case xw3_6 => first | k_exc | k_is | rfl)
    (case xw3_7 => first | k_exc | k_is | rfl)
    (case xw3_8 => first | k_exc | k_is | rfl)
    (case xw3_9 => first | k_exc | k_is | rfl)
    (case xw3_10 => first | k_exc | k_is | rfl)
    (case xw3_11 => first | k_exc | k_is | rfl)
    (case xw3_12 => first | k_exc | k_is | rfl)
    (case xw3_13 => first | k_exc | k_is | rfl)
    (case xw3_14 => first | k_exc | k_is | rfl)
    (case xw3_15 => first | k_exc | k_is | rfl)
    (case xw3_16 => first | k_exc | k_is | rfl)
    (case xw3_17 => first | k_exc | k_is | rfl)
    (case xw3_18 => first | k_exc | k_is | rfl)
    (case xw3_19 => first | k_exc | k_is | rfl)
    (case xw3_20 => first | k_exc | k_is | rfl)
    (case xw3_21 => first | k_exc | k_is | rfl)
    (case xw3_22 => first | k_exc | k_is | rfl)
    (case xw3_23 => first | k_exc | k_is | rfl)
    (case xw3_24 => first | k_exc | k_is | rfl)
    (case xw3_25 => first | k_exc | k_is | rfl)
    (case xw3_26 => first | k_exc | k_is | rfl)
    (case xw3_27 => first | k_exc | k_is | rfl)
    (case xw3_28 => first | k_exc | k_is | rfl)
    (case xw3_29 => first | k_exc | k_is | rfl)
    (case xw4_0 => first | k_exc | k_is | rfl)
    (case xw4_1 => first | k_exc | k_is | rfl)
    (case xw4_2 => first | k_exc | k_is | rfl)
    (case xw4_3 => first | k_exc | k_is | rfl)
    (case xw4_4 => first | k_exc | k_is | rfl)
    (case xw4_5 => first | k_exc | k_is | rfl)
    (case xw4_6 => first | k_exc | k_is | rfl)
    (case xw4_7 => first | k_exc | k_is | rfl)
    (case xw4_8 => first | k_exc | k_is | rfl)
    (case xw4_9 => first | k_exc | k_is | rfl)
    (case xw4_10 => first | k_exc | k_is | rfl)
    (case xw4_11 => first | k_exc | k_is | rfl)
    (case xw4_12 => first | k_exc | k_is | rfl)
    (case xw4_13 => first | k_exc | k_is | rfl)
    (case xw4_14 => first | k_exc | k_is | rfl)
    (case xw4_15 => first | k_exc | k_is | rfl)
    (case xw4_16 => first | k_exc | k_is | rfl)
    (case xw4_17 => first | k_exc | k_is | rfl)
    (case xw4_18 => first | k_exc | k_is | rfl)
    (case xw4_19 => first | k_exc | k_is | rfl)
    (case xw4_20 => first | k_exc | k_is | rfl)
    (case xw4_21 => first | k_exc | k_is | rfl)
    (case xw4_22 => first | k_exc | k_is | rfl)
    (case xw4_23 => first | k_exc | k_is | rfl)
    (case xw4_24 => first | k_exc | k_is | rfl)
    (case xw4_25 => first | k_exc | k_is | rfl)
    (case xw4_26 => first | k_exc | k_is | rfl)
    (case xw4_27 => first | k_exc | k_is | rfl)
    (case xw4_28 => first | k_exc | k_is | rfl)
    (case xw4_29 => first | k_exc | k_is | rfl)
    (case kq0_0 => first | k_exc | k_is | rfl)
    (case kq0_1 => first | k_exc | k_is | rfl)
    (case kq0_2 => first | k_exc | k_is | rfl)
    (case kq0_3 => first | k_exc | k_is | rfl)
    (case kq0_4 => first | k_exc | k_is | rfl)
    (case rq0_5 => first | rfl | kernel_rfl | decide +kernel)
    (case kq0_6 => first | k_exc | k_is | rfl)
    (case rq0_7 => first | rfl | kernel_rfl | decide +kernel)
    (case kq0_8 => first | k_exc | k_is | rfl)
    (case kq0_9 => first | k_exc | k_is | rfl)
    (case kq0_10 => first | k_exc | k_is | rfl)
    (case kq0_11 => first | k_exc | k_is | rfl)
    (case kq0_12 => first | k_exc | k_is | rfl)
    (case kq0_13 => first | k_exc | k_is | rfl)
    (case kq0_14 => first | k_exc | k_is | rfl)
    (case kq0_15 => first | k_exc | k_is | rfl)
    (case kq0_16 => first | k_exc | k_is | rfl)
    (case rq0_17 => first | rfl | kernel_rfl | decide +kernel)
    (case kq0_18 => first | k_exc | k_is | rfl)
    (case kq0_19 => first | k_exc | k_is | rfl)
    (case kq0_20 => first | k_exc | k_is | rfl)
    (case kq0_21 => first | k_exc | k_is | rfl)
    (case kq0_22 => first | k_exc | k_is | rfl)
    (case kq0_23 => first | k_exc | k_is | rfl)
    (case kq0_24 => first | k_exc | k_is | rfl)
    (case kq0_25 => first | k_exc | k_is | rfl)
    (case rq0_26 => first | rfl | kernel_rfl | decide +kernel)
    (case rq0_27 => first | rfl | kernel_rfl | decide +kernel)
    (case kq0_28 => first | k_exc | k_is | rfl)
    (case kq0_29 => first | k_exc | k_is | rfl)
    (case kq0_30 => first | k_exc | k_is | rfl)
    (case kq0_31 => first | k_exc | k_is | rfl)
    (case kq0_32 => first | k_exc | k_is | rfl)
    (case kq0_33 => first | k_exc | k_is | rfl)
    (case kq0_34 => first | k_exc | k_is | rfl)
    (case kq0_35 => first | k_exc | k_is | rfl)
    (case kq0_36 => first | k_exc | k_is | rfl)
    (case kq0_37 => first | k_exc | k_is | rfl)
    (case kq0_38 => first | k_exc | k_is | rfl)
    (case kq0_39 => first | k_exc | k_is | rfl)
    (case kq0_40 => first | k_exc | k_is | rfl)
    (case kq0_41 => first | k_exc | k_is | rfl)
    (case kq0_42 => first | k_exc | k_is | rfl)
    (case kq0_43 => first | k_exc | k_is | rfl)
    (case kq0_44 => first | k_exc | k_is | rfl)
    (case z0 => k_is)
    (case z1 => k_is)
    (case z2 => k_is)
    (case z3 => k_is)
    (case z4 => k_is)
    (case z5 => k_is)
    (case z6 => k_is)
    (case z7 => k_is)
    (case z8 => k_is)
    (case z9 => k_is)
    (case z10 => k_is)
    (case z11 => k_is)
    (case z12 => k_is)
    (case z13 => k_is)
#print axioms PySem.Challenge.cw_signoff_k18_circuits_checked_holds
