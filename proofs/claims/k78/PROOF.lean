import PyProof.Rows.All
import Wide.All
import OpenK.AllK
import Wide.FinOn
import HandS.ForMost
import HandS.Evl
import HandS.Wide
import HandS.WideBits
import HandS.Flow
import HandS.IsInst
import HandS.TupAny
import HandS.Walk
import HandS.Zip
import HandS.Steps
import KE.GoesMore
import KE.GoesEnum
import KE.KEqSeq
import HandS.StrMore
import PyProof.StrLawsFirst
import HandS.DictComp
import HandS.ForExc
import HandS.Small
import HandS.FStr
import HandS.SetKeys
import HandS.Strs
import HandS.ExcIs
import HandS.Style
import HandS.CallSlots
import HandS.Property
import KE.KMinBuiltin
import HandS.DictSub
import HandS.Star
import HandS.Iter
import HandS.SetTxt0
import HandS.Set
import HandS.SetFor
import KE.GoesSet
import HandS.More
import HandS.ClsMeth
import HandS.ExcInit
import HandS.ExcField
import HandS.Nested
import KE.KExcSuper
import KE.KSuper
import KE.KExcIs
import KE.KFromBytes
import PyProof.DelItemList
import HandS.Flow
import KE.DataMinMax
import HandS.SortKw
import HandS.List
import HandS.Dict
import HandS.HotCalls
import HandS.Comp
import KE.GoesComp
import HandS.ExcCtx
import HandS.Deep
import HandS.TupAny
import HandS.SuiteRaise
import HandS.RaiseFrom
import PySem.Challenge.RW_signoff_k78_registers_moved
set_option Elab.async false
set_option linter.all false
set_option maxRecDepth 100000
set_option maxHeartbeats 4000000
set_option Elab.async false
set_option linter.all false
set_option maxRecDepth 100000
set_option maxHeartbeats 4000000
namespace G
open PySem PySem.Spec PyProof.Rows L2 Evl
/-! ## defs by name -/
def Dfd (K : PySem.W.Frag) (mg : Str → Option Value) (x : Str) (st : Stmt) (ps : List Str) : Prop := ∃ (f : Addr) (fd : FuncData), Fun K x x st f fd ∧ mg x = some (.ref f) ∧ Binds K fd ps []
def Has (P : Program) (w : World) (K : PySem.W.Frag) (mg : Str → Option Value) (base : Heap) (k : Nat) (x : Str) (ps : List Str) (sp : Sp) : Prop :=
  ∃ (f : Addr) (fd : FuncData), FnOk P w K mg base CX0 k f fd ps sp ∧ mg x = some (.ref f) ∧ PySem.W.keepIn K (.ref f) = true ∧ Binds K fd ps []
section
variable {P : Program} {w : World} {K : PySem.W.Frag} {mg : Str → Option Value} {base : Heap}
theorem Dfd.has {x : Str} {st : Stmt} {ps : List Str} {k : Nat} {sp : Sp} (d : Dfd K mg x st ps) (h : ∀ f fd, Fun K x x st f fd → FnOk P w K mg base CX0 k f fd ps sp) : Has P w K mg base k x ps sp := by
  obtain ⟨f, fd, F, g, b⟩ := d
  exact ⟨f, fd, h f fd F, g, F.kp, b⟩
theorem Has.mono {x : Str} {ps : List Str} {j k : Nat} {sp : Sp} (h : Has P w K mg base j x ps sp) (l : j ≤ k) : Has P w K mg base k x ps sp := by
  obtain ⟨f, fd, F, g⟩ := h
  exact ⟨f, fd, F.mono l, g⟩
theorem Has.imp {x : Str} {ps : List Str} {k : Nat} {sp sp' : Sp} (h : Has P w K mg base k x ps sp) (i : ∀ vs H Q E, sp' vs H Q E → sp vs H Q E) : Has P w K mg base k x ps sp' := by
  obtain ⟨f, fd, F, g⟩ := h
  exact ⟨f, fd, F.imp i, g⟩
end
/-! ## heaps -/
theorem sq_ex {K : PySem.W.Frag} {H H' : Hp} {a : Addr} {xs : List V} (e : Ex H H') (h : SqL K H a xs) : SqL K H' a xs := ex_l e h
/-- the heap without what stands at p -/
def hid (p : Addr) (H : Hp) : Hp := fun b => if b = p then none else H b
theorem hid_self {p : Addr} {H : Hp} : hid p H p = none := by unfold hid; rw [if_pos rfl]
theorem hid_ne {p b : Addr} {H : Hp} (h : b ≠ p) : hid p H b = H b := by unfold hid; rw [if_neg h]
theorem hid_get {p b : Addr} {H : Hp} {o : HO} (h : hid p H b = some o) : H b = some o := by
  by_cases e : b = p
  · subst e; rw [hid_self] at h; cases h
  · rw [hid_ne e] at h; exact h
theorem hid_neq {p b : Addr} {H : Hp} {o : HO} (h : hid p H b = some o) : b ≠ p := by
  intro e; subst e; rw [hid_self] at h; cases h
theorem hid_ex {p : Addr} {H : Hp} : Ex (hid p H) H := fun _ _ h => hid_get h
theorem hid_upd {p : Addr} {H : Hp} {o : HO} : hid p (upd H p o) = hid p H := by
  funext b
  by_cases e : b = p
  · subst e; rw [hid_self, hid_self]
  · rw [hid_ne e, hid_ne e, upd_ne e]
theorem hid_upd_ne {p q : Addr} {H : Hp} {o : HO} (h : q ≠ p) : hid p (upd H q o) = upd (hid p H) q o := by
  funext b
  by_cases e2 : b = q
  · subst e2; rw [hid_ne h, upd_same, upd_same]
  · rw [upd_ne e2]
    by_cases e : b = p
    · subst e; rw [hid_self, hid_self]
    · rw [hid_ne e, hid_ne e, upd_ne e2]
theorem hid_none {p b : Addr} {H : Hp} (h : H b = none) : hid p H b = none := by
  unfold hid; split
  · rfl
  · exact h
/-! ## the pool of draws: the list at p, the script's copy at a -/
def PoolOk (p a : Addr) (H : Hp) : Prop := ∃ (ns : List Int) (i : Nat) (c k s : Int), H p = some (.lst [.ref a, .int i, .int c, .int k, .int s]) ∧ hid p H a = some (.lst (ns.map V.int)) ∧ ns.length ≤ 1000
/-- from H to H' all but the pool is kept, and the pool is a pool -/
structure Px (p a : Addr) (H H' : Hp) : Prop where
  was : PoolOk p a H
  pool : PoolOk p a H'
  ex : Ex (hid p H) (hid p H')
section
variable {p a : Addr} {H H1 H2 H' : Hp}
theorem Px.refl (h : PoolOk p a H) : Px p a H H := ⟨h, h, Ex.refl _⟩
theorem Px.trans (x : Px p a H H1) (y : Px p a H1 H2) : Px p a H H2 := ⟨x.was, y.pool, x.ex.trans y.ex⟩
theorem PoolOk.ne {b : Addr} (h : PoolOk p a H) (n : H b = none) : b ≠ p := by
  obtain ⟨_, _, _, _, _, e, _⟩ := h
  exact (ne_of_none e n).symm
theorem PoolOk.ne2 {b : Addr} (h : PoolOk p a H) (n : H b = none) : a ≠ b := by
  obtain ⟨_, _, _, _, _, _, e, _⟩ := h
  exact ne_of_none (hid_get e) n
theorem PoolOk.kept (h : PoolOk p a H) (e : Ex H H') : PoolOk p a H' := by
  obtain ⟨ns, i, c, k, s, h1, h2, h3⟩ := h
  exact ⟨ns, i, c, k, s, e _ _ h1, by rw [hid_ne (hid_neq h2)]; exact e _ _ (hid_get h2), h3⟩
theorem Px.ofEx (h : PoolOk p a H) (e : Ex H H') : Px p a H H' := ⟨h, h.kept e, fun b o hb => by rw [hid_ne (hid_neq hb)]; exact e _ _ (hid_get hb)⟩
theorem Px.more (x : Px p a H H1) (e : Ex H1 H2) : Px p a H H2 := x.trans (Px.ofEx x.pool e)
theorem Px.draw {o : HO} (w : PoolOk p a H) (h : PoolOk p a (upd H p o)) : Px p a H (upd H p o) := ⟨w, h, by rw [hid_upd]; exact Ex.refl _⟩
theorem Px.new (x : Px p a H H1) {l : Addr} {o : HO} (n : H1 l = none) : Px p a H (upd H1 l o) := x.more (Ex.new n)
/-- what H has is kept -/
theorem Px.get (x : Px p a H H1) {b : Addr} {o : HO} (h : hid p H b = some o) : hid p H1 b = some o := x.ex _ _ h
theorem Px.at_ (x : Px p a H H1) {b : Addr} {o : HO} (h : hid p H b = some o) : H1 b = some o := hid_get (x.ex _ _ h)
theorem Px.free (x : Px p a H H1) {b : Addr} (n : H1 b = none) : H b = none := by
  cases e : H b with
  | none => rfl
  | some o =>
    have hb : b ≠ p := x.pool.ne n
    have := x.ex b o (by rw [hid_ne hb]; exact e)
    rw [hid_get this] at n; cases n
/-- an object that H does not have may change -/
theorem Px.mut (x : Px p a H H1) {l : Addr} {o : HO} (n : H l = none) : Px p a H (upd H1 l o) := by
  have hl : l ≠ p := x.was.ne n
  have ha : a ≠ l := x.was.ne2 n
  refine ⟨x.was, ?_, ?_⟩
  · obtain ⟨ns, i, c, k, s, h1, h2, h3⟩ := x.pool
    exact ⟨ns, i, c, k, s, by rw [upd_ne hl.symm]; exact h1, by rw [hid_upd_ne hl, upd_ne ha]; exact h2, h3⟩
  · rw [hid_upd_ne hl]; exact Ex.mut x.ex (hid_none n)
/-- a fresh object stands apart from the pool -/
theorem Px.seen (x : Px p a H H1) {l : Addr} {o : HO} (n : H l = none) (e : H1 l = some o) : hid p H1 l = some o := by
  rw [hid_ne (x.was.ne n)]; exact e
end
end G
namespace G
open PySem PySem.Spec PyProof.Rows L2 Evl
/-! ## comprehensions whose elements are plain values -/
theorem given_all {n : Nat} {v : Nat → V} : given n (fun _ => true) v = (List.range n).map v := by
  unfold given
  rw [List.filter_eq_self.mpr (fun _ _ => rfl)]
section
variable {lo : Int} {n j : Nat} {tt : TT} {te : TE} {vs : List Nat} {σ : L2.St} {H1 : Hp} {D : Addr} {Qd : Hp → Prop} {K : PySem.W.Frag} {a : Addr} {xs : List V}
theorem lc_turn {f : Nat → Bool} {v : Nat → V} {i : Nat} {H : Hp} {σ2 : L2.St} (e : H = upd H1 D (.lst (given i f v))) (hi : i < 100000) (ht : Ans tt σ2 H (f i)) (he : f i = true → Val te σ2 H (v i)) :
    tt σ2 H fun b H3 => if b = true then te σ2 H3 fun y H4 => ∃ acc, H4 D = some (.lst acc) ∧ acc.length < sizeLine ∧ (upd H4 D (.lst (acc ++ [y]))) = upd H1 D (.lst (given (i + 1) f v)) else H3 = upd H1 D (.lst (given (i + 1) f v)) := by
  refine ht _ ?_
  subst e
  cases hf : f i with
  | true =>
    refine iteT (he hf _ ⟨_, upd_same, sz_lt (by have := given_len i f v; omega), ?_⟩)
    rw [given_yes hf, upd_upd]
  | false =>
    refine iteF ?_
    rw [given_no hf]
theorem lcR (f : Nat → Bool) (v : Nat → V) (hn : n ≤ 100000) (hw : ∀ x, wipe ((wipe σ vs).set j (some x)) vs = wipe σ vs)
    (ht : ∀ (i : Nat) (H : Hp), i < n → H = upd H1 D (.lst (given i f v)) → Ans tt ((wipe σ vs).set j (some (.int (lo + i)))) H (f i))
    (he : ∀ (i : Nat) (H : Hp), i < n → H = upd H1 D (.lst (given i f v)) → f i = true → Val te ((wipe σ vs).set j (some (.int (lo + i)))) H (v i)) (q : Qd (upd H1 D (.lst (given n f v)))) :
    ∃ W : Nat → Nat → Hp → Prop, (∃ m, W 0 m (upd H1 D (.lst []))) ∧ ∀ i m H, W i m H →
      ((Itr lo n).stop i H ∧ Qd H) ∨ ((Itr lo n).go i H ∧ ∃ Nx : Hp → Prop, (∀ H', Nx H' → ∃ m', m' < m ∧ W (i + 1) m' H') ∧ ∀ x H', (Itr lo n).yld i H x H' → gName j x (wipe σ vs) H' fun σ2 H2 => wipe σ2 vs = wipe σ vs ∧ tt σ2 H2 fun b H3 =>
        if b = true then te σ2 H3 fun y H4 => ∃ acc, H4 D = some (.lst acc) ∧ acc.length < sizeLine ∧ Nx (upd H4 D (.lst (acc ++ [y]))) else Nx H3) :=
  lc_range (fun i H => H = upd H1 D (.lst (given i f v))) rfl (fun i H hi e => ⟨hw _, lc_turn e (by omega) (ht i H hi e) (he i H hi e)⟩) (fun H e => by rw [e]; exact q)
theorem lcRv (v : Nat → V) (hn : n ≤ 100000) (hw : ∀ x, wipe ((wipe σ vs).set j (some x)) vs = wipe σ vs)
    (he : ∀ (i : Nat) (H : Hp), i < n → H = upd H1 D (.lst (given i (fun _ => true) v)) → Val te ((wipe σ vs).set j (some (.int (lo + i)))) H (v i)) (q : Qd (upd H1 D (.lst ((List.range n).map v)))) :
    ∃ W : Nat → Nat → Hp → Prop, (∃ m, W 0 m (upd H1 D (.lst []))) ∧ ∀ i m H, W i m H →
      ((Itr lo n).stop i H ∧ Qd H) ∨ ((Itr lo n).go i H ∧ ∃ Nx : Hp → Prop, (∀ H', Nx H' → ∃ m', m' < m ∧ W (i + 1) m' H') ∧ ∀ x H', (Itr lo n).yld i H x H' → gName j x (wipe σ vs) H' fun σ2 H2 => wipe σ2 vs = wipe σ vs ∧ tYes σ2 H2 fun b H3 =>
        if b = true then te σ2 H3 fun y H4 => ∃ acc, H4 D = some (.lst acc) ∧ acc.length < sizeLine ∧ Nx (upd H4 D (.lst (acc ++ [y]))) else Nx H3) :=
  lcR (fun _ => true) v hn hw (fun _ _ _ _ => fun _ q => q) (fun i H hi e _ => he i H hi e) (by rw [given_all]; exact q)
theorem lcL (f : Nat → Bool) (v : Nat → V) (hx : SqL K H1 a xs) (hD : H1 D = none) (hn : xs.length ≤ 100000) (hw : ∀ x, wipe ((wipe σ vs).set j (some x)) vs = wipe σ vs)
    (ht : ∀ (i : Nat) (x : V) (H : Hp), xs[i]? = some x → H = upd H1 D (.lst (given i f v)) → Ans tt ((wipe σ vs).set j (some x)) H (f i))
    (he : ∀ (i : Nat) (x : V) (H : Hp), xs[i]? = some x → H = upd H1 D (.lst (given i f v)) → f i = true → Val te ((wipe σ vs).set j (some x)) H (v i)) (q : Qd (upd H1 D (.lst (given xs.length f v)))) :
    ∃ W : Nat → Nat → Hp → Prop, (∃ m, W 0 m (upd H1 D (.lst []))) ∧ ∀ i m H, W i m H →
      ((Itl K a).stop i H ∧ Qd H) ∨ ((Itl K a).go i H ∧ ∃ Nx : Hp → Prop, (∀ H', Nx H' → ∃ m', m' < m ∧ W (i + 1) m' H') ∧ ∀ x H', (Itl K a).yld i H x H' → gName j x (wipe σ vs) H' fun σ2 H2 => wipe σ2 vs = wipe σ vs ∧ tt σ2 H2 fun b H3 =>
        if b = true then te σ2 H3 fun y H4 => ∃ acc, H4 D = some (.lst acc) ∧ acc.length < sizeLine ∧ Nx (upd H4 D (.lst (acc ++ [y]))) else Nx H3) :=
  lc_list (fun i H => H = upd H1 D (.lst (given i f v))) rfl (fun i H hi e => by rw [e]; exact ex_l (Ex.new hD) hx) (fun i x H hi e => ⟨hw _, lc_turn e (by have := (List.getElem?_eq_some_iff.mp hi).1; omega) (ht i x H hi e) (he i x H hi e)⟩) (fun H e => by rw [e]; exact q)
theorem lcT (f : Nat → Bool) (v : Nat → V) (hx : SqT K H1 a xs) (hD : H1 D = none) (hn : xs.length ≤ 100000) (hw : ∀ x, wipe ((wipe σ vs).set j (some x)) vs = wipe σ vs)
    (ht : ∀ (i : Nat) (x : V) (H : Hp), xs[i]? = some x → H = upd H1 D (.lst (given i f v)) → Ans tt ((wipe σ vs).set j (some x)) H (f i))
    (he : ∀ (i : Nat) (x : V) (H : Hp), xs[i]? = some x → H = upd H1 D (.lst (given i f v)) → f i = true → Val te ((wipe σ vs).set j (some x)) H (v i)) (q : Qd (upd H1 D (.lst (given xs.length f v)))) :
    ∃ W : Nat → Nat → Hp → Prop, (∃ m, W 0 m (upd H1 D (.lst []))) ∧ ∀ i m H, W i m H →
      ((Itt K a).stop i H ∧ Qd H) ∨ ((Itt K a).go i H ∧ ∃ Nx : Hp → Prop, (∀ H', Nx H' → ∃ m', m' < m ∧ W (i + 1) m' H') ∧ ∀ x H', (Itt K a).yld i H x H' → gName j x (wipe σ vs) H' fun σ2 H2 => wipe σ2 vs = wipe σ vs ∧ tt σ2 H2 fun b H3 =>
        if b = true then te σ2 H3 fun y H4 => ∃ acc, H4 D = some (.lst acc) ∧ acc.length < sizeLine ∧ Nx (upd H4 D (.lst (acc ++ [y]))) else Nx H3) :=
  lc_tup (fun i H => H = upd H1 D (.lst (given i f v))) rfl (fun i H hi e => by rw [e]; exact ex_t (Ex.new hD) hx) (fun i x H hi e => ⟨hw _, lc_turn e (by have := (List.getElem?_eq_some_iff.mp hi).1; omega) (ht i x H hi e) (he i x H hi e)⟩) (fun H e => by rw [e]; exact q)
theorem lcLm (g : V → V) (hx : SqL K H1 a xs) (hD : H1 D = none) (hn : xs.length ≤ 100000) (hw : ∀ x, wipe ((wipe σ vs).set j (some x)) vs = wipe σ vs)
    (he : ∀ (i : Nat) (x : V) (H : Hp), xs[i]? = some x → H = upd H1 D (.lst ((xs.take i).map g)) → Val te ((wipe σ vs).set j (some x)) H (g x)) (q : Qd (upd H1 D (.lst (xs.map g)))) :
    ∃ W : Nat → Nat → Hp → Prop, (∃ m, W 0 m (upd H1 D (.lst []))) ∧ ∀ i m H, W i m H →
      ((Itl K a).stop i H ∧ Qd H) ∨ ((Itl K a).go i H ∧ ∃ Nx : Hp → Prop, (∀ H', Nx H' → ∃ m', m' < m ∧ W (i + 1) m' H') ∧ ∀ x H', (Itl K a).yld i H x H' → gName j x (wipe σ vs) H' fun σ2 H2 => wipe σ2 vs = wipe σ vs ∧ tYes σ2 H2 fun b H3 =>
        if b = true then te σ2 H3 fun y H4 => ∃ acc, H4 D = some (.lst acc) ∧ acc.length < sizeLine ∧ Nx (upd H4 D (.lst (acc ++ [y]))) else Nx H3) :=
  lc_list (fun i H => H = upd H1 D (.lst ((xs.take i).map g))) (by rw [List.take_zero]; rfl) (fun i H hi e => by rw [e]; exact ex_l (Ex.new hD) hx)
    (fun i x H hi e => ⟨hw _, by
      refine iteT (B := H = upd H1 D (.lst ((xs.take (i + 1)).map g))) ?_
      refine he i x H hi e _ ?_
      subst e
      refine ⟨_, upd_same, sz_lt ?_, ?_⟩
      · rw [List.length_map, List.length_take]; have := (List.getElem?_eq_some_iff.mp hi).1; omega
      · rw [upd_upd, List.take_add_one, hi, List.map_append]; rfl⟩) (fun H e => by rw [e, List.take_length]; exact q)
theorem lcTm (g : V → V) (hx : SqT K H1 a xs) (hD : H1 D = none) (hn : xs.length ≤ 100000) (hw : ∀ x, wipe ((wipe σ vs).set j (some x)) vs = wipe σ vs)
    (he : ∀ (i : Nat) (x : V) (H : Hp), xs[i]? = some x → H = upd H1 D (.lst ((xs.take i).map g)) → Val te ((wipe σ vs).set j (some x)) H (g x)) (q : Qd (upd H1 D (.lst (xs.map g)))) :
    ∃ W : Nat → Nat → Hp → Prop, (∃ m, W 0 m (upd H1 D (.lst []))) ∧ ∀ i m H, W i m H →
      ((Itt K a).stop i H ∧ Qd H) ∨ ((Itt K a).go i H ∧ ∃ Nx : Hp → Prop, (∀ H', Nx H' → ∃ m', m' < m ∧ W (i + 1) m' H') ∧ ∀ x H', (Itt K a).yld i H x H' → gName j x (wipe σ vs) H' fun σ2 H2 => wipe σ2 vs = wipe σ vs ∧ tYes σ2 H2 fun b H3 =>
        if b = true then te σ2 H3 fun y H4 => ∃ acc, H4 D = some (.lst acc) ∧ acc.length < sizeLine ∧ Nx (upd H4 D (.lst (acc ++ [y]))) else Nx H3) :=
  lc_tup (fun i H => H = upd H1 D (.lst ((xs.take i).map g))) (by rw [List.take_zero]; rfl) (fun i H hi e => by rw [e]; exact ex_t (Ex.new hD) hx)
    (fun i x H hi e => ⟨hw _, by
      refine iteT (B := H = upd H1 D (.lst ((xs.take (i + 1)).map g))) ?_
      refine he i x H hi e _ ?_
      subst e
      refine ⟨_, upd_same, sz_lt ?_, ?_⟩
      · rw [List.length_map, List.length_take]; have := (List.getElem?_eq_some_iff.mp hi).1; omega
      · rw [upd_upd, List.take_add_one, hi, List.map_append]; rfl⟩) (fun H e => by rw [e, List.take_length]; exact q)
end
end G
namespace G
open PySem PySem.Spec PyProof.Rows L2 Evl
/-! ## rules within a comprehension's block: the written part by its letter -/
section
variable {X : Cx} {K : PySem.W.Frag}
theorem kIxT (h : X.K = K) : IxR X (rIxT K) := by subst h; exact ix_tup
theorem kIxL (h : X.K = K) : IxR X (rIxL K) := by subst h; exact ix_list
theorem kIx (h : X.K = K) : IxR X (rIx K) := by subst h; exact ix_seq
theorem kIn (h : X.K = K) : OpR X (compareOp .In) (rIn K false) := by subst h; exact op_in_seq
theorem kNotIn (h : X.K = K) : OpR X (compareOp .NotIn) (rIn K true) := by subst h; exact op_notIn_seq
theorem kLen (h : X.K = K) : CallR X (.builtin "len") (rLenS K) := by subst h; exact call_len_seq
theorem gStr {x s : Str} {t : Tok} {pos : Pos} (hg : Gl X x) (h : X.mg x = some (.str s t)) (hd : (x == ("__debug__" : Str)) = false := by decide) : PE X (.Name x pos) (tC (.str s)) := pe_glob (v := .str s) hg h ⟨t, rfl⟩ hd
theorem gInt {x : Str} {i : Int} {t : Tok} {pos : Pos} (hg : Gl X x) (h : X.mg x = some (.int i t)) (hd : (x == ("__debug__" : Str)) = false := by decide) : PE X (.Name x pos) (tC (.int i)) := pe_glob (v := .int i) hg h ⟨t, rfl⟩ hd
theorem gRef {x : Str} {a : Addr} {pos : Pos} (hg : Gl X x) (h : X.mg x = some (.ref a)) (hd : (x == ("__debug__" : Str)) = false := by decide) : PE X (.Name x pos) (tC (.ref a)) := pe_glob (v := .ref a) hg h rfl hd
theorem kSlL (h : X.K = K) : SlR X (rSlL K) := by subst h; exact sl_list
theorem kCatA (h : X.K = K) : OpR X (binaryOp .Add) (rCatA K) := by subst h; exact op_catA
theorem kAny (h : X.K = K) (hc : X.calm = true) : CallR X (.builtin "any") (rAny K) := by subst h; exact cr_any hc
theorem kAll (h : X.K = K) (hc : X.calm = true) : CallR X (.builtin "all") (rAll K) := by subst h; exact cr_all hc
theorem kLtT (h : X.K = K) (hu : X.A.units < cLine) : OpR X (compareOp .Lt) (rLtT K) := by subst h; exact op_ltT hu
theorem kPiT {e tg : Expr} {te : TE} (h : X.K = K) (he : PE X e te) : PI X tg e (iTup K te) := by subst h; exact pi_tup he
theorem kPiL {e tg : Expr} {te : TE} (h : X.K = K) (he : PE X e te) : PI X tg e (iList K te) := by subst h; exact pi_list he
theorem kSlA (h : X.K = K) : SlR X (rSlA K) := by subst h; exact sl_tupA
end
end G
namespace G
open PySem PySem.Spec PyProof.Rows L2 Evl
theorem dpAll_map {α : Type} {K : PySem.W.Frag} {H : Hp} {f : α → V} {g : α → PyData} (h : ∀ x, Dp K H (f x) (g x)) : ∀ l : List α, DpAll K H (l.map f) (l.map g)
  | [] => .nil
  | x :: r => .cons (h x) (dpAll_map h r)
theorem dp_ints {K : PySem.W.Frag} {H : Hp} {a : Addr} {ns : List Int} (h : SqL K H a (ns.map V.int)) : Dp K H (.ref a) (.list (ns.map PyData.int)) := .lst h (dpAll_map (fun i => .int i) ns)
theorem dp_nil {K : PySem.W.Frag} {H : Hp} {a : Addr} (h : SqL K H a []) : Dp K H (.ref a) (.list []) := .lst h .nil
theorem eqv_nil (l : List PyData) : PyData.eqv (.list l) (.list []) = l.isEmpty := by cases l <;> rfl
theorem shaped_nil : SeqAt.shaped (.list []) = true := by decide +kernel
end G
/-! enumerate over a tuple -/
namespace PySem
section
variable {prog : Program} {w : World} {A : Around} {E : Value → Shared → Prop} {s : Shared}
theorem G_tupOf {h : Heap} {a : Addr} {xs : Array Value} (p : PyProof.Rows.IsTup h a xs) : h.IsTuple a xs := p
set_option maxHeartbeats 2000000 in
theorem G_enumNew {v : Value} {o : Obj} {Hh : Heap → Prop} (B : Begins v o Hh) :
    Meets (Builtin.«enumerate.__new__» ⟨[.type "enumerate", v], []⟩) (fun _ R s => Hh s.heap ∧
      R (.ok (.ret (.ref (s.heap.push o).objs.size))) { s with heap := (s.heap.push o).push { cls := .type "enumerate", data := .fields #[.none, .bool false, .ref s.heap.objs.size, rawInt 0, .none, .none] } }) :=
  .of_wp fun pr wo ar rr sh hh => by
    obtain ⟨hp, gg, dd, tk, os⟩ := sh; obtain ⟨h1, h2⟩ := hh
    have sub0 := sub_enumerate
    have qq : ∀ {A' : Around} {E : Value → Shared → Prop} {Q : Value → Shared → Prop}, Q (.ref hp.objs.size) ⟨hp.push o, gg, dd, tk, os⟩ → wpAny (model pr wo) A' (pyIter v) Q E ⟨hp, gg, dd, tk, os⟩ :=
      fun z => B.iter pr wo _ _ ⟨hp, gg, dd, tk, os⟩ _ h1 z
    wp_walk using qq
    refine wpAny_stack_any fun _ => wpAny_pure ?_
    split
    · rename_i cc _ _ _ _ _
      cases (cc == Value.type "enumerate") <;> (wp_walk using qq; exact ⟨_, rfl, h2⟩)
    · wp_walk using qq
      exact ⟨_, rfl, h2⟩
theorem G_enumCall {v : Value} {o : Obj} {Hh : Heap → Prop} {Q : Value → Shared → Prop} (B : Begins v o Hh) (h1 : Hh s.heap)
    (k : ∀ h', IsEnum h' (s.heap.objs.size + 1) s.heap.objs.size 0 .none → h'.get? s.heap.objs.size = some o → (∀ b u, s.heap.get? b = some u → h'.get? b = some u) → Q (.ref (s.heap.objs.size + 1)) { s with heap := h' }) :
    wpAny (model prog w) A (call (.type "enumerate") [v]) Q E s := by
  refine callType_new F.called_enumerate (by decide) (F.typeCall_enumerate_1 _) (F.newCall_enumerate_1 _) (fun y => F.args_object_init_2 y _) F.entry_enumerate_new (G_enumNew B) ⟨h1, ?_⟩
  have hz : (s.heap.push o).objs.size = s.heap.objs.size + 1 := Heap.size_push ..
  show _ ∧ _
  rw [hz]
  have he : IsEnum ((s.heap.push o).push { cls := .type "enumerate", data := .fields #[.none, .bool false, .ref s.heap.objs.size, rawInt 0, .none, .none] }) (s.heap.objs.size + 1) s.heap.objs.size 0 .none := by
    have hs := Heap.get?_push_size (s.heap.push o) (o := { cls := .type "enumerate", data := .fields #[.none, .bool false, .ref s.heap.objs.size, rawInt 0, .none, .none] }) rfl
    rw [hz] at hs; exact hs
  exact ⟨⟨_, he, rfl⟩, k _ he (Heap.get?_push_of_some _ (Heap.get?_push_size _ B.free)) fun b u x => Heap.get?_push_of_some _ (Heap.get?_push_of_some _ x)⟩
end
end PySem
namespace G
open PySem PySem.Spec PyProof.Rows L2 Evl
/-- the tuple at a at each turn, each item in a new pair -/
def IteT (K : PySem.W.Frag) (a : Addr) : It :=
  ⟨fun i H => ∃ (xs : List V) (x : V), SqT K H a xs ∧ xs[i]? = some x,
   fun i H v H' => ∃ T x, v = .ref T ∧ H T = none ∧ H' = upd H T (.tup [.int (i : Nat), x]) ∧ ∀ xs, SqT K H a xs → xs[i]? = some x,
   fun i H => ∃ xs : List V, SqT K H a xs ∧ xs.length = i⟩
theorem turn_enumT {P : Program} {w : World} {K : PySem.W.Frag} {elts : List Expr} {kk : Nat} {tpos : Pos} (a e it : Addr) :
    Turn P w K (.Tuple elts kk tpos) (IteT K a) [e, it] e (fun i h => (∃ old, IsEnum h e it ((i : Nat) : Int) old) ∧ h.IsTupleIter it a i ∧ e ≠ it ∧ a ≠ it ∧ a ≠ e) where
  mem := by simp
  obj := fun i h st b hb => by
    obtain ⟨⟨old, he⟩, ⟨o, ho, hc, hd⟩, _⟩ := st
    have hb' : b = e ∨ b = it := by simpa using hb
    rcases hb' with z | z
    · rw [z]; exact ⟨_, he, fun v q => nomatch q⟩
    · rw [z]; exact ⟨o, ho, fun v q => by rw [hd] at q; cases q⟩
  keep := fun i h h' st k => by
    obtain ⟨⟨old, he⟩, hi, hne⟩ := st
    exact ⟨⟨old, k e (by simp) _ he⟩, hi.at fun o q => k it (by simp) o q, hne⟩
  item := by
    intro X hP hw hK hc i pins s σ H E I hf st hg
    subst hP hw hK
    obtain ⟨⟨old, he⟩, hit, hne, hai, hae⟩ := st
    obtain ⟨xs, x, hq, hx⟩ := hg
    obtain ⟨its, rv, p, hz⟩ := I.tuple hq
    obtain ⟨u, hu, ru⟩ := rv.get hx
    have hel : e < s.heap.objs.size := Heap.lt_size he
    have hil : it < s.heap.objs.size := by obtain ⟨_, q, _⟩ := hit; exact Heap.lt_size q
    have hh : X.A.handled = none := I.ok.hd hc
    refine wpAny_pyNext_enum_itemD (Draws.tuple (A := X.A.in1) hh it a hai its.toArray) he ⟨hit, p⟩ ?_ hne ?_ fun y h' tk hy ho hst hT hsz hk => ?_
    · have := (List.getElem?_eq_some_iff.mp hu).1
      simpa using this
    · intro hm
      have hm' : e = it ∨ e = a := by simpa using hm
      rcases hm' with z | z
      · exact hne z
      · exact hae z.symm
    · have ey : y = u := by
        have hy' : its[i]? = some y := by simpa using hy
        exact Option.some.inj (hy'.symm.trans hu)
      subst ey
      refine ⟨_, rfl, wpAny_letOwnedTupleGo_enum (s := { s with heap := h', toks := tk + 1 }) ho fun h'' he' sb => ?_⟩
      have hT2 : h''.get? s.heap.objs.size = some { cls := .type "tuple", data := .seq #[.int i tk, y] } := (sb.2 _ (Nat.ne_of_gt hel)).trans hT
      have new : ObjOk X.prog X.w (upd H s.heap.objs.size (.tup [.int (i : Nat), x])) h'' s.heap.objs.size (.tup [.int (i : Nat), x]) :=
        ⟨by show 2 ≤ sizeLine; decide, [.int i tk, y], .cons ⟨_, rfl⟩ (.cons ru .nil), ⟨_, hT2, rfl, _, rfl⟩⟩
      have I1 : Inv X pins σ (upd H s.heap.objs.size (.tup [.int (i : Nat), x])) { s with heap := h'', toks := tk + 1 } :=
        I.turnedNew (ch := [e, it]) (fun b ob hb q => (sb.2 b (fun z => hb (by simp [z]))).trans (hk b ob (fun z => hb (by simp [z])) (fun z => hb (by simp [z])) q)) hf (Nat.le_refl _) new
      refine ⟨.ref s.heap.objs.size, _, I1, rfl, ⟨_, x, rfl, I.hok.fresh (Nat.le_refl _), rfl, fun ys hy => by rw [I.tuple_inj hy hq]; exact hx⟩, ⟨⟨y, ?_⟩, hst.1.at fun o q => (sb.2 it (Ne.symm hne)).trans q, hne, hai, hae⟩, fun b hb => ?_⟩
      · have e1 : ((i + 1 : Nat) : Int) = (i : Int) + 1 := by omega
        rw [e1]; exact he'
      · have hb' : b < s.heap.objs.size := by
          have hb2 : b = e ∨ b = it := by simpa using hb
          rcases hb2 with z | z
          · rw [z]; exact hel
          · rw [z]; exact hil
        rw [upd_ne (Nat.ne_of_lt hb')]
        exact (hf b hb).1
  done := by
    intro X hP hw hK hc i pins s σ H E I hf st hg
    subst hP hw hK
    obtain ⟨⟨old, he⟩, hit, hne, hai, hae⟩ := st
    obtain ⟨xs, hq, hx⟩ := hg
    obtain ⟨its, rv, p, hz⟩ := I.tuple hq
    obtain ⟨f0, f1, f2, f3, f4, f5⟩ := hf it (by simp)
    have hl := rv.length
    have hh : X.A.handled = none := I.ok.hd hc
    have ei : its.toArray.size = i := by rw [List.size_toArray, ← hl]; exact hx
    have st2 : s.heap.IsTupleIter it a its.toArray.size ∧ s.heap.IsTuple a its.toArray := by rw [ei]; exact ⟨hit, p⟩
    exact wpAny_pyNext_enum_endD (Draws.tuple (A := X.A.in1) hh it a hai its.toArray) he st2 fun h' eb => ⟨rfl, I.turned (t' := s.toks) (fun b o hb q => eb b o hb q) f0 f1 f3 f4 f5⟩
  self := fun A i s Q E st h => by
    obtain ⟨⟨_, he⟩, _⟩ := st
    exact wpAny_pyIter_enum he h
def iEnumT (K : PySem.W.Frag) (ta : TA) : TI := fun σ H R => ta σ H fun vs H1 => ∃ a xs, vs = [.ref a] ∧ SqT K H1 a xs ∧ R (IteT K a) H1
theorem pi_enumT {X : Cx} {e : Expr} {ta : TA} {p pos tpos : Pos} {elts : List Expr} {kk : Nat} (hg : Gl X "enumerate") (hm : X.mg "enumerate" = none) (ha : PA X [e] ta) (hs : starEach [e] X.env = [(false, eval e X.env)] := by rfl) :
    PI X (.Tuple elts kk tpos) (.Call (.Name "enumerate" p) [e] [] pos) (iEnumT X.K ta) := by
  refine ⟨fun pins s σ H R I h => Call_ (ld_blt I hg hm boot_enumerate (PyProof.Rows.callWith_type1 (thn (ha.run pos pins s σ H _ I h) fun us s1 ⟨vs, H1, I1, r1, q1⟩ => ?_) hs rfl))⟩
  obtain ⟨a, xs, rfl, hq, q⟩ := q1
  cases r1 with
  | cons r rr =>
    cases rr
    cases r
    obtain ⟨its, rv, p', hz⟩ := I1.tuple hq
    have hal : a < s1.heap.objs.size := by obtain ⟨o, ho, _⟩ := p'; exact Heap.lt_size ho
    refine G_enumCall (begins_tuple a its.toArray) p' fun h' he hit hk => wpAny_pyIter_enum he ?_
    have I2 : Inv X pins σ H1 { s1 with heap := h' } := I1.kept (t' := s1.toks) hk
    refine ⟨s1.heap.objs.size + 1, [s1.heap.objs.size + 1, s1.heap.objs.size], _, _, H1, rfl, I2, turn_enumT a (s1.heap.objs.size + 1) s1.heap.objs.size,
      ⟨⟨.none, he⟩, ⟨_, hit, rfl, rfl⟩, Nat.succ_ne_self _, Nat.ne_of_lt hal, Nat.ne_of_lt (Nat.lt_succ_of_lt hal)⟩, fun b hb => ?_, q⟩
    have hb' : b = s1.heap.objs.size + 1 ∨ b = s1.heap.objs.size := by simpa using hb
    have hle : s1.heap.objs.size ≤ b := by
      rcases hb' with z | z
      · rw [z]; exact Nat.le_add_right _ _
      · rw [z]; exact Nat.le_refl _
    exact I1.fpOk hle (I1.hok.fresh hle)
theorem walk_enumT {K : PySem.W.Frag} {a : Addr} {xs : List V} : Walk (IteT K a) xs.length (fun H => SqT K H a xs) (YPair (fun i => some (.int (i : Nat))) (fun i => xs[i]?)) := by
  refine ⟨fun i _ hi q => ⟨xs, xs[i], q, by simp [hi]⟩, fun _ q => ⟨xs, q, rfl⟩, fun i H v H' _ q y => ?_⟩
  obtain ⟨T, x, h1, h2, h3, h4⟩ := y
  exact ⟨T, .int (i : Nat), x, h1, h2, h3, rfl, h4 xs q⟩
theorem kPiEnumT {X : Cx} {K : PySem.W.Frag} {e : Expr} {ta : TA} {p pos tpos : Pos} {elts : List Expr} {kk : Nat} (h : X.K = K) (hg : Gl X "enumerate") (hm : X.mg "enumerate" = none) (ha : PA X [e] ta) (hs : starEach [e] X.env = [(false, eval e X.env)] := by rfl) :
    PI X (.Tuple elts kk tpos) (.Call (.Name "enumerate" p) [e] [] pos) (iEnumT K ta) := by subst h; exact pi_enumT hg hm ha hs
end G
/-! t[a::2], t a tuple -/
namespace HT
open PySem PySem.Spec PyProof.Rows L2
section
variable {prog : Program} {w : World} {A : Around} {E : Value → Shared → Prop} {s : Shared}
theorem g_applied {sl : Addr} {vl vu vs : Value} {lo hi : Option Int} {st : Int} {n : Nat} {Q : Int × Int × Nat → Shared → Prop} (hs : s.heap.IsSliceOf sl vl vu vs) (pl : IsPart vl lo) (pu : IsPart vu hi) (ps : IsPart vs (some st)) (h0 : st ≠ 0)
    (h : Q ((Builtin.Slice.sliceAdjust lo hi st (n : Int)).1, st, Builtin.Slice.slicePlaces (Builtin.Slice.sliceAdjust lo hi st (n : Int)).1 (Builtin.Slice.sliceAdjust lo hi st (n : Int)).2 st) s) :
    wpAny (model prog w) A (Builtin.Slice.sliceApplied (.ref sl) (pure (n : Int))) Q E s := by
  obtain ⟨ob, hob, _, hd⟩ := id hs
  unfold Builtin.Slice.sliceApplied Builtin.Slice.sliceFields
  refine wpAny_bind (wpAny_bind (wpAny_field hob hd (x := vl) rfl (wpAny_bind (wpAny_field hob hd (x := vu) rfl (wpAny_bind (wpAny_field hob hd (x := vs) rfl (wpAny_pure ?_)))))))
  refine wpAny_bind (slicePart_ ps ?_)
  show wpAny _ _ (if (st == 0) = true then _ else _) _ _ s
  rw [if_neg (by intro q; exact h0 (eq_of_beq q))]
  exact wpAny_bind (slicePart_ pl (wpAny_bind (slicePart_ pu (wpAny_bind (wpAny_pure (wpAny_pure h))))))
def stepped (xs : List Value) (lo st : Int) (n : Nat) : List Value := (List.range n).filterMap fun (k : Nat) => xs.toArray[(lo + (k : Int) * st).toNat]?
theorem g_getStep {t sl : Addr} {its : List Value} {vl vu vs : Value} {lo hi : Option Int} {st : Int} {Q : Value → Shared → Prop} (ht : IsTup s.heap t its.toArray) (hs : s.heap.IsSliceOf sl vl vu vs) (pl : IsPart vl lo) (pu : IsPart vu hi) (ps : IsPart vs (some st)) (h0 : st ≠ 0) (h1 : st ≠ 1)
    (hz : (stepped its (Builtin.Slice.sliceAdjust lo hi st (its.toArray.size : Int)).1 st (Builtin.Slice.slicePlaces (Builtin.Slice.sliceAdjust lo hi st (its.toArray.size : Int)).1 (Builtin.Slice.sliceAdjust lo hi st (its.toArray.size : Int)).2 st)).length ≤ sizeLine)
    (h : Q (.ref s.heap.objs.size) { s with heap := s.heap.push { cls := .type "tuple", data := .seq (stepped its (Builtin.Slice.sliceAdjust lo hi st (its.toArray.size : Int)).1 st (Builtin.Slice.slicePlaces (Builtin.Slice.sliceAdjust lo hi st (its.toArray.size : Int)).1 (Builtin.Slice.sliceAdjust lo hi st (its.toArray.size : Int)).2 st)).toArray } }) :
    wpAny (model prog w) A (getItem (.ref t) (.ref sl)) Q E s := by
  have ok : sizeOk (.seq (stepped its (Builtin.Slice.sliceAdjust lo hi st (its.toArray.size : Int)).1 st (Builtin.Slice.slicePlaces (Builtin.Slice.sliceAdjust lo hi st (its.toArray.size : Int)).1 (Builtin.Slice.sliceAdjust lo hi st (its.toArray.size : Int)).2 st)).toArray) := by
    show (stepped its _ st _).toArray.size ≤ sizeLine
    rw [List.size_toArray]; exact hz
  obtain ⟨ob, hob, hc, hd⟩ := id hs
  have hTs : s.TypeIs (.ref sl) "slice" := ⟨ob, hob, hc⟩
  unfold getItem
  try with_reducible refine wpAny_holding ?_
  first | refine wpAny_bind (wpAny_pure ?_) | skip
  refine wpAny_bind (wpAny_sequenceKey ht.typeIs (by decide) ?_)
  refine wpAny_bind (wpAny_callSpecial?_slot (name := Str.ofString "__getitem__") ht.typeIs slot_tuple_getitem (wpAny_call_entry slot_tuple_getitem ht.typeIs entry_tuple_getitem ?_ (args_tuple_getitem _ _)))
  show wpAny _ _ (Builtin.Tuple.tupleItemsOf (.ref t) >>= _) _ _ s
  refine wpAny_bind (tupleItemsOf_ ht (wpAny_bind (wpAny_typeOf hTs ?_)))
  rw [if_pos (by decide)]
  refine wpAny_bind (g_applied hs pl pu ps h0 ?_)
  generalize (Builtin.Slice.sliceAdjust lo hi st (its.toArray.size : Int)).1 = l0 at *
  generalize Builtin.Slice.slicePlaces l0 (Builtin.Slice.sliceAdjust lo hi st (its.toArray.size : Int)).2 st = n0 at *
  have hno : ¬ ((l0 == 0 && st == 1 && n0 == its.toArray.size) = true) := by
    intro q
    rw [Bool.and_eq_true, Bool.and_eq_true] at q
    exact h1 (eq_of_beq q.1.2)
  show wpAny _ _ (if (l0 == 0 && st == 1 && n0 == its.toArray.size) = true then _ else _) _ _ s
  rw [if_neg hno]
  first
    | exact wpAny_bind (m := Builtin.Tuple.tupleExact _) (wpAny_newObj_type (wpAny_pure ⟨_, rfl, wpAny_pure h⟩) ok)
    | exact wpAny_bind (m := Builtin.Tuple.tupleExact _) (wpAny_newObj_type (wpAny_bind (wpAny_pure (wpAny_pure ⟨_, rfl, wpAny_pure h⟩))) ok)
    | exact wpAny_bind (wpAny_bind (m := Builtin.Tuple.tupleExact _) (wpAny_newObj_type (wpAny_pure (wpAny_pure ⟨_, rfl, wpAny_pure h⟩)) ok))
    | exact wpAny_bind (wpAny_bind (m := Builtin.Tuple.tupleExact _) (wpAny_newObj_type (wpAny_pure ⟨_, rfl, wpAny_pure h⟩) ok))
end
end HT
namespace G
open PySem PySem.Spec PyProof.Rows L2 Evl
/-- every second item from a on -/
def halfL {α : Type} (a : Nat) (xs : List α) : List α := (List.range ((xs.length - a + 1) / 2)).filterMap fun k => xs[a + 2 * k]?
theorem halfL_len {α : Type} (a : Nat) (xs : List α) : (halfL a xs).length ≤ xs.length + 1 := by
  unfold halfL
  refine Nat.le_trans (List.length_filterMap_le _ _) ?_
  rw [List.length_range]; omega
theorem vals_filterMap {f : Nat → Option V} {g : Nat → Option Value} : ∀ {l : List Nat}, (∀ k, k ∈ l → RelO (f k) (g k)) → Vals (l.filterMap f) (l.filterMap g)
  | [], _ => .nil
  | k :: r, h => by
    have hk := h k (List.mem_cons_self ..)
    have ih := vals_filterMap (l := r) fun j hj => h j (List.mem_cons_of_mem _ hj)
    rw [List.filterMap_cons, List.filterMap_cons]
    cases e : f k with
    | none =>
      cases e2 : g k with
      | none => exact ih
      | some u => rw [e, e2] at hk; exact hk.elim
    | some v =>
      cases e2 : g k with
      | none => rw [e, e2] at hk; exact hk.elim
      | some u => rw [e, e2] at hk; exact .cons hk ih
def tHalf (K : PySem.W.Frag) (a : Nat) (te : TE) : TE := fun σ H Q => te σ H fun x H1 => ∃ t xs, x = .ref t ∧ SqT K H1 t xs ∧ xs.length ≤ 100000 ∧ ∀ p, H1 p = none → Q (.ref p) (upd H1 p (.tup (halfL a xs)))
theorem half_places {a n : Nat} (h : a ≤ 1) : (Builtin.Slice.sliceAdjust (some (a : Int)) none 2 (n : Int)).1 = ((min a n : Nat) : Int) ∧
    Builtin.Slice.slicePlaces (Builtin.Slice.sliceAdjust (some (a : Int)) none 2 (n : Int)).1 (Builtin.Slice.sliceAdjust (some (a : Int)) none 2 (n : Int)).2 2 = (n - a + 1) / 2 := by
  have h2 : ¬ ((2 : Int) < 0) := by omega
  have h3 : (2 : Int) > 0 := by omega
  have ha : ¬ ((a : Int) < 0) := by omega
  have e : Builtin.Slice.sliceAdjust (some (a : Int)) none 2 (n : Int) = (((min a n : Nat) : Int), (n : Int)) := by
    unfold Builtin.Slice.sliceAdjust
    simp only [h2, if_false, ha]
    refine Prod.ext ?_ rfl
    show min (a : Int) (n : Int) = ((min a n : Nat) : Int)
    omega
  rw [e]
  refine ⟨rfl, ?_⟩
  show Builtin.Slice.slicePlaces ((min a n : Nat) : Int) (n : Int) 2 = (n - a + 1) / 2
  unfold Builtin.Slice.slicePlaces
  simp only [h3, if_true]
  split <;> omega
section
variable {X : Cx}
theorem pe_half {e : Expr} {te : TE} {a : Nat} {k1 k2 : Nat} {p1 p2 p3 pos : Pos} (ha : a ≤ 1) (he : PE X e te) : PE X (.Subscript e (.Slice (some (.Constant (.int (a : Int)) k1 p1)) none (some (.Constant (.int 2) k2 p2)) p3) pos) (tHalf X.K a te) := by
  refine ⟨fun pins s σ H Q I h => Subscript_ (thn (he.run pins s σ H _ I h) fun v s1 ⟨x, H1, I1, r1, q1⟩ => ?_)⟩
  obtain ⟨t, xs, rfl, hx, hlen, q⟩ := q1
  cases r1
  have hlo : PO X (some (.Constant (.int (a : Int)) k1 p1)) (tPart (tC (.int (a : Int)))) := po_some pe_int
  have hst : PO X (some (.Constant (.int 2) k2 p2)) (tPart (tC (.int 2))) := po_some pe_int
  refine wpAny_Slice (thn (hlo.run pins s1 σ H1 (fun o H2 => o = some (a : Int) ∧ H2 = H1) I1 ⟨_, rfl, rfl, rfl⟩) fun vl s2 ⟨l, H2, I2, pl, el, e2⟩ => ?_)
  subst el e2
  refine thn (po_none.run pins s2 σ H2 (fun o H3 => o = none ∧ H3 = H2) I2 ⟨rfl, rfl⟩) fun vu s3 ⟨u, H3, I3, pu, eu, e3⟩ => ?_
  subst eu e3
  refine thn (hst.run pins s3 σ H3 (fun o H4 => o = some 2 ∧ H4 = H3) I3 ⟨_, rfl, rfl, rfl⟩) fun vs s4 ⟨o, H4, I4, ps, eo, e4⟩ => ?_
  subst eo e4
  have I5 : Inv X pins σ H4 { s4 with heap := s4.heap.push { cls := .type "slice", data := .fields #[vl, vu, vs] } } := I4.kept (t' := s4.toks) fun b ob q => Heap.get?_push_of_some _ q
  obtain ⟨its, r, ht, hz⟩ := I5.tuple hx
  have hl : its.toArray.size = xs.length := by rw [List.size_toArray]; exact r.length.symm
  obtain ⟨hp1, hp2⟩ := half_places (n := xs.length) ha
  have hrel : Vals (halfL a xs) (HT.stepped its ((min a xs.length : Nat) : Int) 2 ((xs.length - a + 1) / 2)) := by
    unfold halfL HT.stepped
    refine vals_filterMap fun k hk => ?_
    have hk' := List.mem_range.mp hk
    have hi : a + 2 * k < xs.length := by omega
    have en : (((min a xs.length : Nat) : Int) + (k : Int) * 2).toNat = a + 2 * k := by omega
    rw [en, List.getElem?_eq_getElem hi]
    obtain ⟨u, hu, ru⟩ := r.get (List.getElem?_eq_getElem hi)
    rw [List.getElem?_toArray, hu]
    exact ru
  have hsz : (halfL a xs).length ≤ sizeLine := sz_of (by
    unfold halfL
    refine Nat.le_trans (List.length_filterMap_le _ _) ?_
    rw [List.length_range]
    omega)
  show wpAny (model X.prog X.w) X.A (subscriptTail e (.Slice (some (.Constant (.int (a : Int)) k1 p1)) none (some (.Constant (.int 2) k2 p2)) p3) (.ref t) (.ref s4.heap.objs.size)) (EP X pins σ Q) X.xe { s4 with heap := s4.heap.push { cls := .type "slice", data := .fields #[vl, vu, vs] } }
  refine tail_any (ops := [.ref t, .ref s4.heap.objs.size]) ht.typeIs PyProof.Rows.slot_tuple_getitem.lookup ?_ (by with_unfolding_all rfl)
  refine HT.g_getStep ht (Heap.IsSliceOf.new _ vl vu vs) pl pu ps (by decide) (by decide) ?_ ?_
  · rw [hl, hp2, hp1, ← hrel.length]; exact hsz
  · rw [hl, hp2, hp1]
    refine ⟨.ref _, _, I5.laid (t' := s4.toks) (o := .tup (halfL a xs)) (fun b ob q => Heap.get?_push_of_some _ q) (Nat.le_refl _) ?_, rfl, q _ (I5.hok.fresh (Nat.le_refl _))⟩
    exact ⟨hsz, _, hrel, ⟨_, Heap.get?_push_size _ rfl, rfl, _, rfl⟩⟩
end
end G
namespace HX
open PySem PySem.Spec PyProof.Rows L2 L2H HotX
/-! ## walks and comprehensions while an exception is handled -/
/-- like a turn, but what the end wants is told by the heap: the handled exception stands there -/
structure TurnA (P : Program) (w : World) (K : PySem.W.Frag) (tg : Expr) (J : It) (fp : List Addr) (it : Addr) (tn : Nat → Heap → Prop) : Prop where
  mem : it ∈ fp
  obj : ∀ n h, tn n h → ∀ b ∈ fp, ∃ o, h.get? b = some o ∧ ∀ v, o.data ≠ .cell v
  keep : ∀ n h h', tn n h → (∀ b ∈ fp, ∀ o, h.get? b = some o → h'.get? b = some o) → tn n h'
  item : ∀ (X : Cx), X.prog = P → X.w = w → X.K = K → ∀ (n : Nat) (pins : List (Addr × Obj)) (s : Shared) (σ : L2.St) (H : Hp) (E : Value → Shared → Prop), Inv X pins σ H s → (∀ b ∈ fp, FpOk X pins H b) → tn n s.heap → J.go n H →
    wpAny (model P w) X.A (pyNext (.ref it)) (fun r s1 => ∃ u, r = some u ∧ wpAny (model P w) X.A (letOwnedTupleGo tg (.ref it) u) (fun _ s2 => ∃ x H', Inv X pins σ H' s2 ∧ RelV x u ∧ J.yld n H x H' ∧ tn (n + 1) s2.heap ∧ ∀ b ∈ fp, H' b = none) E s1) E s
  done : ∀ (X : Cx), X.prog = P → X.w = w → X.K = K → ∀ (n : Nat) (pins : List (Addr × Obj)) (s : Shared) (σ : L2.St) (H : Hp) (E : Value → Shared → Prop), (∃ x1, HotAt X.A x1 s.heap) → Inv X pins σ H s → (∀ b ∈ fp, FpOk X pins H b) → tn n s.heap → J.stop n H →
    wpAny (model P w) X.A (pyNext (.ref it)) (fun r s1 => r = none ∧ Inv X pins σ H s1) E s
  self : ∀ (A : Around) (n : Nat) (s : Shared) (Q : Value → Shared → Prop) (E : Value → Shared → Prop), tn n s.heap → Q (.ref it) s → wpAny (model P w) A (pyIter (.ref it)) Q E s
/-- a turn that asks the heap alone serves where the context bears the exception -/
theorem TurnA.hot {P : Program} {w : World} {K : PySem.W.Frag} {tg : Expr} {J : It} {fp : List Addr} {it : Addr} {tn : Nat → Heap → Prop} (T : TurnA P w K tg J fp it tn) : TurnH P w K tg J fp it tn :=
  ⟨T.mem, T.obj, T.keep, (fun X a b c _ => T.item X a b c), (fun X a b c h n pins s σ H E I => T.done X a b c n pins s σ H E (h.at I) I), T.self⟩
theorem turnA_range {P : Program} {w : World} {K : PySem.W.Frag} {tg : Expr} (it : Addr) (lo : Int) (many : Nat) : TurnA P w K tg (Itr lo many) [it] it (fun n h => IsRangeIter h it (lo + (n : Nat) * 1) ((many : Int) - (n : Nat)) 1) := by
  refine ⟨List.mem_singleton.mpr rfl, fun n h st b hb => ?_, fun n h h' st k => k it (List.mem_singleton.mpr rfl) _ st, fun X hP hw hK n pins s σ H E I hf st hg => ?_, fun X hP hw hK n pins s σ H E hot I hf st hg => ?_, fun _ _ _ _ _ st h => wpAny_pyIter_rangeiter st h⟩
  · rw [List.mem_singleton.mp hb]
    exact ⟨_, st, fun v z => by have z : Data.fields _ = Data.cell v := z; cases z⟩
  · subst hP hw hK
    obtain ⟨f0, f1, f2, f3, f4, f5⟩ := hf it (List.mem_singleton.mpr rfl)
    have hlt : n < many := hg
    refine wpAny_pyNext_range_item st (by omega) fun h' st' sb => ?_
    have e1 : lo + ((n : Nat) : Int) * 1 + 1 = lo + ((n + 1 : Nat) : Int) * 1 := by omega
    have e2 : (many : Int) - ((n : Nat) : Int) - 1 = (many : Int) - ((n + 1 : Nat) : Int) := by omega
    rw [e1, e2] at st'
    have I1 := I.turned (t' := s.toks + 1) (fun b o hb e => (sb.2 b hb).trans e) f0 f1 f3 f4 f5
    refine ⟨_, rfl, go_of (s := { s with heap := h', toks := s.toks + 1 }) (n := "range_iterator") st' rfl rfl (by decide) ⟨.int (lo + n), H, I1, ⟨s.toks, by rw [Int.mul_one]⟩, ⟨rfl, rfl⟩, st', fun b hb => (hf b hb).1⟩⟩
  · subst hP hw hK
    obtain ⟨f0, f1, f2, f3, f4, f5⟩ := hf it (List.mem_singleton.mpr rfl)
    obtain ⟨x1, hx⟩ := hot
    have hle : many ≤ n := hg
    exact pyNext_range_end_hot hx st (by omega) fun h' eb => ⟨rfl, I.turned (t' := s.toks) (fun b o _ e => eb b o e) f0 f1 f3 f4 f5⟩
section
variable {prog : Program} {w : World} {A : Around} {E : Value → Shared → Prop} {s : Shared}
/-- the end of a tuple's iterator -/
theorem tuple_end_hot {it t x1 : Addr} {i : Nat} {items : Array Value} {Q : Option Value → Shared → Prop} (hot : HotAt A x1 s.heap) (hit : s.heap.IsTupleIter it t i) (ht : s.heap.IsTuple t items) (hx : items[i]? = none)
    (hQ : ∀ h', (∀ b o, b ≠ it → s.heap.get? b = some o → h'.get? b = some o) → Q none { s with heap := h' }) : wpAny (model prog w) A (pyNext (.ref it)) Q E s := by
  obtain ⟨o, ho, hcl, hd⟩ := id hit
  obtain ⟨ol, hol, _, nl, hdl⟩ := ht
  obtain ⟨hh, o1, vs1, h1, d1, c1⟩ := hot
  have hne : x1 ≠ it := fun z => by
    rw [z, ho] at h1
    cases h1
    rw [hd] at d1
    cases d1
    cases c1
  unfold pyNext
  refine wpAny_bind (wpAny_attempt (wpAny_callSpecial?_slot (name := Str.ofString "__next__") hit.typeIs F.slot_tuple_iterator_next (wpAny_call_entry F.slot_tuple_iterator_next hit.typeIs F.entry_tuple_iterator_next ?_ (F.args_tuple_iterator_next_1 _))))
  refine wpAny_bind (m := field (.ref it) 0) (wpAny_field ho hd (x := .ref t) rfl ?_)
  show wpAny (model prog w) _ (if (Value.ref t == Value.none) = true then _ else _) _ _ s
  rw [if_neg fun z : (Value.ref t == Value.none) = true => Bool.false_ne_true z]
  refine wpAny_bind (m := field (.ref it) 1) (wpAny_field ho hd (x := .int i 0) rfl ?_)
  refine wpAny_bind (m := seqItems? (.ref t)) (wpAny_seqItems hol hdl ?_)
  simp only [Int.toNat_natCast, hx]
  refine wpAny_bind (wpAny_rule (wpAny_bind (wpAny_setField ho hd (by simp) ?_)))
  refine wpAny_bind (m := newExc (.type "StopIteration") []) ?_
  simp only [newExc, newTuple]
  have g1 : (s.heap.update it (Obj.mapFields (·.setIfInBounds 0 .none))).get? x1 = some o1 := (Heap.get?_update_other _ _ (Ne.symm hne)).trans h1
  refine wpAny_bind (wpAny_newObj_type ?_ (by size_fits))
  refine wpAny_bind (m := firstArgMember _ _) (wpAny_of_eq (a := Value.none) (by first | rfl | (simp only [firstArgMember]; rfl)) ?_)
  refine wpAny_newObj_type ?_ (by size_fits)
  refine raiseNew_hot ⟨hh, o1, vs1, Heap.get?_push_of_some _ (Heap.get?_push_of_some _ g1), d1, c1⟩ (Nat.ne_of_lt (Heap.lt_size (Heap.get?_push_of_some _ g1))) (Heap.get?_push_size _ rfl) rfl (by first | (simp; done) | (simp; omega) | (simp only [Array.size_append]; simp; omega)) ?_
  refine wpAny_bind (wpAny_isInstance (T := "StopIteration") (b := true) ⟨_, Heap.get?_update_self _ (Heap.get?_push_size _ rfl) rfl, rfl⟩ isSubtype_stop ?_)
  refine wpAny_pure (hQ _ fun b o' hb e => ?_)
  have g2 : (s.heap.update it (Obj.mapFields (·.setIfInBounds 0 .none))).get? b = some o' := (Heap.get?_update_other _ _ (Ne.symm hb)).trans e
  rw [Heap.get?_update_other _ _ (Nat.ne_of_gt (Heap.lt_size (Heap.get?_push_of_some _ g2)))]
  exact Heap.get?_push_of_some _ (Heap.get?_push_of_some _ g2)
end
theorem turnA_tuple {P : Program} {w : World} {K : PySem.W.Frag} {tg : Expr} (a it : Addr) : TurnA P w K tg (Itt K a) [it] it (fun n h => h.IsTupleIter it a n) := by
  refine ⟨List.mem_singleton.mpr rfl, fun n h st b hb => ?_, fun n h h' st k => st.at fun o e => k it (List.mem_singleton.mpr rfl) o e, fun X hP hw hK n pins s σ H E I hf st hg => ?_, fun X hP hw hK n pins s σ H E hot I hf st hg => ?_, fun _ _ _ _ _ st h => wpAny_pyIter_tupleiter st h⟩
  · obtain ⟨o, e, _, dd⟩ := st
    rw [List.mem_singleton.mp hb]
    exact ⟨o, e, fun v z => by rw [dd] at z; cases z⟩
  · subst hP hw hK
    obtain ⟨xs, x, hq, hx⟩ := hg
    obtain ⟨its, rv, pl, _⟩ := I.tuple hq
    obtain ⟨u, hu, ru⟩ := rv.get hx
    obtain ⟨f0, f1, f2, f3, f4, f5⟩ := hf it (List.mem_singleton.mpr rfl)
    refine wpAny_pyNext_tuple_item st (show s.heap.IsTuple a its.toArray from pl) (x := u) (by simpa using hu) fun h' st' sb => ?_
    have I1 := I.turned (t' := s.toks) (fun b o hb e => (sb.2 b hb).trans e) f0 f1 f3 f4 f5
    obtain ⟨o, e, cl, dd⟩ := id st'
    exact ⟨u, rfl, go_of (s := { s with heap := h' }) e cl dd (by decide) ⟨x, H, I1, ru, ⟨rfl, fun ys hy => by rw [I.tuple_inj hy hq]; exact hx⟩, st', fun b hb => (hf b hb).1⟩⟩
  · subst hP hw hK
    obtain ⟨xs, hq, hx⟩ := hg
    obtain ⟨its, rv, pl, _⟩ := I.tuple hq
    obtain ⟨f0, f1, f2, f3, f4, f5⟩ := hf it (List.mem_singleton.mpr rfl)
    obtain ⟨x1, hx1⟩ := hot
    have hlen := rv.length
    exact tuple_end_hot hx1 st (show s.heap.IsTuple a its.toArray from pl) (by simp; omega) fun h' eb => ⟨rfl, I.turned (t' := s.toks) (fun b o hb e => eb b o hb e) f0 f1 f3 f4 f5⟩
/-- what is walked, its end by the heap -/
structure PIA (X : Cx) (tg iter : Expr) (wi : TI) : Prop where
  run : ∀ (pins : List (Addr × Obj)) (s : Shared) (σ : L2.St) (H : Hp) (R : It → Hp → Prop), Inv X pins σ H s → wi σ H R →
    wpAny (model X.prog X.w) X.A (eval iter X.env) (fun v s1 => wpAny (model X.prog X.w) X.A (pyIter v) (fun iv s2 => ∃ (it : Addr) (fp : List Addr) (tn : Nat → Heap → Prop) (J : It) (H' : Hp), iv = .ref it ∧ Inv X pins σ H' s2 ∧ TurnA X.prog X.w X.K tg J fp it tn ∧ tn 0 s2.heap ∧ (∀ b ∈ fp, FpOk X pins H' b) ∧ R J H') X.xe s1) X.xe s
theorem PIA.hot {X : Cx} {tg iter : Expr} {wi : TI} (h : PIA X tg iter wi) : PIH X tg iter wi :=
  ⟨fun pins s σ H R I hh => thn (h.run pins s σ H R I hh) fun v s1 k => thn k fun iv s2 ⟨it, fp, tn, J, H', e, I', T, st, f, q⟩ => ⟨it, fp, tn, J, H', e, I', T.hot, st, f, q⟩⟩
section
variable {X : Cx} {tg : Expr}
theorem pia_tup {l : Expr} {tl : TE} (hl : PE X l tl) : PIA X tg l (iTup X.K tl) := by
  refine ⟨fun pins s σ H R I h => thn (hl.run pins s σ H _ I h) fun v s1 ⟨x, H1, I1, r1, a, ex, ⟨xs, hq⟩, q⟩ => ?_⟩
  subst ex
  cases r1
  obtain ⟨its, rv, pl, _⟩ := I1.tuple hq
  refine wpAny_pyIter_tuple (show s1.heap.IsTuple a its.toArray from pl) ⟨s1.heap.objs.size, [s1.heap.objs.size], _, _, H1, rfl, I1.kept (t' := s1.toks) fun b o e => Heap.get?_push_of_some _ e, turnA_tuple a _, ⟨_, Heap.get?_push_size _ rfl, rfl, rfl⟩, fun b hb => ?_, q⟩
  rw [List.mem_singleton.mp hb]
  exact I1.fpOk (Nat.le_refl _) (I1.hok.fresh (Nat.le_refl _))
theorem pit {l : Expr} {tl : TE} (hl : PE X l tl) : PIH X tg l (iTup X.K tl) := (pia_tup hl).hot
theorem pia_range1 {e : Expr} {ta : TA} {p pos : Pos} (hg : Gl X "range") (hm : X.mg "range" = none) (ha : PA X [e] ta) (hs : starEach [e] X.env = [(false, eval e X.env)] := by rfl) : PIA X tg (.Call (.Name "range" p) [e] [] pos) (iRng1 ta) := by
  refine ⟨fun pins s σ H R I h => Call_ (ld_blt I hg hm boot_range (PyProof.Rows.callWith_type1 (thn (ha.run pos pins s σ H _ I h) fun us s1 ⟨vs, H1, I1, r1, j, ej, b1, b2, q⟩ => ?_) hs rfl))⟩
  subst ej
  cases r1 with
  | cons rx rr =>
    cases rr
    obtain ⟨t, rfl⟩ := rx
    refine call_range_1 (wpAny_pyIter_range (IsRange.new ..) (small_one (by omega) (by omega) b1 b2) ?_)
    have I2 : Inv X pins σ H1 { s1 with heap := s1.heap.push { cls := .type "range", data := .fields #[.int 0 s1.toks, .int j t, .int 1 (s1.toks + 1)] }, toks := s1.toks + 1 + 1 } := I1.kept fun b o e => Heap.get?_push_of_some _ e
    generalize hS : ({ s1 with heap := s1.heap.push { cls := .type "range", data := .fields #[.int 0 s1.toks, .int j t, .int 1 (s1.toks + 1)] }, toks := s1.toks + 1 + 1 } : Shared) = S at I2 ⊢
    refine ⟨S.heap.objs.size, [S.heap.objs.size], _, _, H1, rfl, I2.kept (t' := S.toks) fun b o e => Heap.get?_push_of_some _ e, turnA_range _ 0 j.toNat, ?_, fun b hb => ?_, q⟩
    · have e1 : (0 : Int) + ((0 : Nat) : Int) * 1 = 0 := rfl
      have e2 : ((j.toNat : Nat) : Int) - ((0 : Nat) : Int) = Builtin.Range.rangeSize 0 j 1 := by rw [rangeSize_one]; split <;> omega
      show IsRangeIter _ _ ((0 : Int) + ((0 : Nat) : Int) * 1) (((j.toNat : Nat) : Int) - ((0 : Nat) : Int)) 1
      rw [e1, e2]
      exact Heap.get?_push_size _ rfl
    · rw [List.mem_singleton.mp hb]
      exact I2.fpOk (Nat.le_refl _) (I2.hok.fresh (Nat.le_refl _))
/-- [elt for target in iter if ..] while an exception is handled -/
theorem pe_lcH {elt tg iter : Expr} {ifs : List Expr} {scope : Scope} {own : List (Str × Nat)} {pos : Pos} {wi : TI} {g : TG} {tt : TT} {te : TE} (hc : HotC X) (hN : X.N.Nodup) (hi : PIA X tg iter wi) (ok : BlkOk X.N X.env.scope scope own)
    (hg : ∀ (s : Shared) (H : Hp) (C : Addr) (cl : List (Str × Addr)) (fp : List Addr), PG (X.blk s H scope (compEnvC scope cl C X.env) fp) tg g) (ht : ∀ (s : Shared) (H : Hp) (C : Addr) (cl : List (Str × Addr)) (fp : List Addr), PTs (X.blk s H scope (compEnvC scope cl C X.env) fp) ifs tt)
    (he : ∀ (s : Shared) (H : Hp) (C : Addr) (cl : List (Str × Addr)) (fp : List Addr), PE (X.blk s H scope (compEnvC scope cl C X.env) fp) elt te) (hs : ∀ x, foldedSetIterable iter X.env x = pure x := by intro _; rfl) :
    PE X (.ListComp elt [⟨tg, iter, ifs, 0⟩] scope pos) (tLc wi g tt te (own.map (·.2))) := by
  refine ⟨fun pins s σ H Q I h => ?_⟩
  rw [eval_ListComp]
  have hfree : ∀ y ∈ scope.names, y.2 = .free → ∃ c, X.env.cells.lookup y.1 = some c := fun y hy e => (ok.free y hy e).elim (fun k => I.ok.has _ (.inl k)) fun k => I.ok.has _ (.inr k)
  refine comprehension_at (use := none) rfl hs (closure_ok hfree) ok.kind (fun y hy e => by rw [ok.uniq y hy, e]) (thn (hi.run pins s σ H _ I h) fun xv s1 hx => thn hx fun itv s2 h2 => ?_)
  obtain ⟨it, fp, tn, J, H2, rfl, I2, T, st2, f2, q⟩ := h2
  refine wpAny_newObj_type (newEnv_comp ?_) (by show 0 ≤ sizeLine; decide)
  have hDn : H2 s2.heap.objs.size = none := I2.hok.fresh (Nat.le_refl _)
  obtain ⟨W, ⟨m0, w0⟩, turn⟩ := q s2.heap.objs.size hDn
  generalize hD : s2.heap.objs.size = D at *
  generalize hs3 : ({ s2 with heap := s2.heap.push { cls := .type "list", data := .seq ([] : List Value).toArray } } : Shared) = s3
  have h3 : s3.heap = s2.heap.push { cls := .type "list", data := .seq ([] : List Value).toArray } := by rw [← hs3]
  have oldk : ∀ b o, s2.heap.get? b = some o → s3.heap.get? b = some o := fun b o e => by rw [h3]; exact Heap.get?_push_of_some _ e
  have I3 : Inv X pins σ (upd H2 D (.lst [])) s3 := by
    rw [← hs3]
    refine I2.laid (t' := s2.toks) (fun b o e => Heap.get?_push_of_some _ e) (Nat.le_of_eq hD) ⟨Nat.zero_le _, [], 0, .nil, ?_⟩
    rw [← hD]
    exact Heap.get?_push_size _ rfl
  have sz : ∀ b ∈ fp, b < s2.heap.objs.size := fun b hb => by
    obtain ⟨o, e, _⟩ := T.obj _ _ st2 b hb
    exact Heap.lt_size e
  generalize hH3 : upd H2 D (.lst []) = H3 at I3 w0
  have f3 : ∀ b ∈ fp, FpOk X pins H3 b ∧ b < s3.heap.objs.size := fun b hb => by
    have lt := sz b hb
    refine ⟨⟨?_, (f2 b hb).2⟩, by rw [h3, Heap.size_push]; exact Nat.lt_succ_of_lt lt⟩
    rw [← hH3, upd_ne (by rw [← hD]; exact Nat.ne_of_lt lt)]
    exact (f2 b hb).1
  have st3 : tn 0 s3.heap := T.keep _ _ _ st2 fun b _ o e => oldk b o e
  have I4 := block_start I3 ok hN f3
  have pg := hg s3 H3 s3.heap.objs.size (cellsFrom (s3.heap.objs.size + 1) scope.names (cloFrom X.env.cells scope.names [])) fp
  have pt := ht s3 H3 s3.heap.objs.size (cellsFrom (s3.heap.objs.size + 1) scope.names (cloFrom X.env.cells scope.names [])) fp
  have pe := he s3 H3 s3.heap.objs.size (cellsFrom (s3.heap.objs.size + 1) scope.names (cloFrom X.env.cells scope.names [])) fp
  show codeAny _ _ (.compStart (.ListComp elt [⟨tg, iter, ifs, 0⟩] scope pos) 0 (.ref it) (.ref D) (compEnvC scope (cellsFrom (s3.heap.objs.size + 1) scope.names (cloFrom X.env.cells scope.names [])) s3.heap.objs.size X.env)) (compEnds (model X.prog X.w) X.A X.xe none (EP X pins σ Q) (.ref D) (compEnvC scope (cellsFrom (s3.heap.objs.size + 1) scope.names (cloFrom X.env.cells scope.names [])) s3.heap.objs.size X.env)) { s3 with heap := pushCells (s3.heap.push { cls := .type "dict", data := .dict #[] }) scope.names }
  have nfp : ∀ b ∈ fp, H3 b = none := fun b hb => (f3 b hb).1.1
  generalize hce : compEnvC scope (cellsFrom (s3.heap.objs.size + 1) scope.names (cloFrom X.env.cells scope.names [])) s3.heap.objs.size X.env = ce at I4 pg pt pe ⊢
  have cL : ce.locals = s3.heap.objs.size := by subst hce; rfl
  generalize hs4 : ({ s3 with heap := pushCells (s3.heap.push { cls := .type "dict", data := .dict #[] }) scope.names } : Shared) = s4 at I4 ⊢
  have st4 : tn 0 s4.heap := T.keep _ _ _ st3 fun b _ o e => by rw [← hs4]; exact pushCells_keeps _ _ _ _ (Heap.get?_push_of_some _ e)
  have stat : ∀ {σ' : L2.St} {H' : Hp} {s' : Shared}, Inv (X.blk s3 H3 scope ce fp) [] σ' H' s' → (∀ b ∈ fp, H' b = none) → ∀ b ∈ fp, FpOk (X.blk s3 H3 scope ce fp) [] H' b := fun {σ' H' s'} I' hn b hb =>
    ⟨hn b hb, (I'.ok.exf b hb).1, I'.ok.exfs b hb, .inl hb, fun x c e => (I'.ok.exf b hb).2 x c e, fun p hp => absurd (show p ∈ ([] : List (Addr × Obj)) ++ [] from hp) (by simp)⟩
  have loop : codeAny (model X.prog X.w) X.A (.compLoop (.ListComp elt [⟨tg, iter, ifs, 0⟩] scope pos) 0 (.ref it) (.ref D) ce) (compEnds (model X.prog X.w) X.A X.xe none (EP X pins σ Q) (.ref D) ce) s4 := by
    refine compLoop_any (fun n s' => ∃ i H', Inv (X.blk s3 H3 scope ce fp) [] (wipe σ (own.map (·.2))) H' s' ∧ tn i s'.heap ∧ (∀ b ∈ fp, H' b = none) ∧ W i n H') ?_ m0 ⟨0, H3, I4, st4, nfp, w0⟩
    rintro n s5 ⟨i, H5, I5, st5, n5, w5⟩
    rcases turn i n H5 w5 with ⟨stop, qq⟩ | ⟨go, Nx, hNx, step⟩
    · have hot5 : ∃ x1, HotAt X.A x1 s5.heap := by
        obtain ⟨p, ⟨hh, v1, e1, c1⟩, hp⟩ := hc
        obtain ⟨y1, y2, y3, y4, _⟩ := I3.pin p (List.mem_append_left _ hp)
        exact ⟨p.1, hh, p.2, v1, I5.base.keep p.1 p.2 y1 y2 (fun z => (List.mem_cons.mp (I3.stkSub p.1 z)).elim y3 y4) fun z => (f3 p.1 z).1.2.2.2.2.2 p (List.mem_append_left _ hp) rfl, e1, c1⟩
      refine thnF (T.done (X.blk s3 H3 scope ce fp) rfl rfl rfl i [] s5 _ H5 (fun _ _ => False) hot5 I5 (stat I5 n5) st5 stop) fun r s6 ⟨hr, I6⟩ => ?_
      subst hr
      have I7 : Inv X pins σ H5 s6 := I3.call' (ch := fp) I6.os I6.base I6.hok I6.bare fun b hb => ⟨(f3 b hb).1.2.2.2.1, (f3 b hb).1.2.1, (f3 b hb).1.2.2.2.2.1, (f3 b hb).1.2.2.2.2.2⟩
      have nC : H5 s3.heap.objs.size = none := by
        have z : H5 ce.locals = none := I6.free
        rw [cL] at z
        exact z
      obtain ⟨m, hn, _⟩ := I6.loc
      have hn : s6.heap.Ns ce.locals m := hn
      obtain ⟨f0, f1, f2, f3, f4, f5⟩ := I3.fpOk (Nat.le_refl _) nC
      exact ⟨m, hn, fun h'' sb => ⟨.ref D, H5, I7.turned (t' := s6.toks) (fun b o hb e => (sb.2 b (by rw [cL]; exact hb)).trans e) f0 f1 f3 f4 f5, rfl, qq⟩⟩
    · refine thnF (T.item (X.blk s3 H3 scope ce fp) rfl rfl rfl i [] s5 _ H5 (fun _ _ => False) I5 (stat I5 n5) st5 go) fun r s6 ⟨u, hr, h6⟩ => ?_
      subst hr
      refine thnF h6 fun _ s7 ⟨x, H7, I7, r7, y7, st7, n7⟩ => ?_
      have I7' := I7.pinned (stat I7 n7) (T.obj _ _ st7)
      refine thnF (pg.run _ s7 _ H7 x u _ I7' r7 (step x H7 y7)) fun _ s8 ⟨σ8, H8, I8, hw8, q8⟩ => ?_
      refine thnF (pt.run _ s8 σ8 H8 _ I8 q8) fun b s9 ⟨H9, I9, q9⟩ => ?_
      have fin : ∀ {s' : Shared} {H' : Hp}, Inv (X.blk s3 H3 scope ce fp) ([] ++ pinsAt fp s7.heap) σ8 H' s' → Nx H' → ∃ m, m < n ∧ ∃ i H', Inv (X.blk s3 H3 scope ce fp) [] (wipe σ (own.map (·.2))) H' s' ∧ tn i s'.heap ∧ (∀ b ∈ fp, H' b = none) ∧ W i m H' := fun {s' H'} I' nx => by
        obtain ⟨m', hm, w'⟩ := hNx H' nx
        have pin' : ∀ b ∈ fp, ∀ o, s7.heap.get? b = some o → s'.heap.get? b = some o ∧ H' b = none := fun b hb o e =>
          let z := I'.pin (b, o) (List.mem_append_right _ (List.mem_append_right _ (mem_pinsAt hb e)))
          ⟨z.1, z.2.1⟩
        refine ⟨m', hm, i + 1, H', (I'.unpinned (pins := [])).weak (by rw [← hw8, wipe_length]) (fun j v e => ?_), T.keep _ _ _ st7 fun b hb o e => (pin' b hb o e).1, fun b hb => ?_, w'⟩
        · rw [← hw8] at e
          exact (wipe_some e).1
        · obtain ⟨o, e, _⟩ := T.obj _ _ st7 b hb
          exact (pin' b hb o e).2
      cases b with
      | false =>
        simp only [Bool.false_eq_true, if_false] at q9 ⊢
        exact fin I9 q9
      | true =>
        simp only [if_true] at q9 ⊢
        refine thnF (pe.run _ s9 σ8 H9 _ I9 q9) fun z s10 ⟨yv, H10, I10, r10, acc, hD10, hz10, nx⟩ => ?_
        exact app_ok (X := X.blk s3 H3 scope ce fp) I10 hD10 hz10 r10 fun s11 I11 => fin I11 nx
  exact codeAny_compStart_list loop (T.self X.A 0 _ _ _ st4 loop)
end
end HX
namespace HQ
open PySem PySem.Spec PyProof.Rows L2
theorem sift_entry : entryFor table "_heapq.heapify.sift" = some Builtin.«_heapq.heapify.sift» := entryFor_of_tree (by kernel_rfl)
theorem sift_plain : plainId "_heapq.heapify.sift" = true := by decide +kernel
def swapI (l : List Int) (i j : Nat) : List Int := (l.set i (l.getD j 0)).set j (l.getD i 0)
def upF : Nat → List Int → Nat → List Int
  | 0, l, _ => l
  | f + 1, l, pos => if pos > 0 then (if l.getD pos 0 < l.getD ((pos - 1) / 2) 0 then upF f (swapI l ((pos - 1) / 2) pos) ((pos - 1) / 2) else l) else l
def kidI (l : List Int) (pos : Nat) : Nat := if 2 * pos + 1 + 1 < l.length then (if l.getD (2 * pos + 1) 0 < l.getD (2 * pos + 1 + 1) 0 then 2 * pos + 1 else 2 * pos + 1 + 1) else 2 * pos + 1
def downF : Nat → List Int → Nat → List Int
  | 0, l, pos => upF pos l pos
  | f + 1, l, pos => if pos < l.length / 2 then downF f (swapI l (kidI l pos) pos) (kidI l pos) else upF pos l pos
theorem swapI_len (l : List Int) (i j : Nat) : (swapI l i j).length = l.length := by unfold swapI; rw [List.length_set, List.length_set]
abbrev lsO (its : List Value) (n : Nat) : Obj := { cls := .type "list", data := .seq its.toArray n }
theorem map_lsO (f : Array Value → Array Value) {its its' : List Value} (h : f its.toArray = its'.toArray) (n : Nat) : ∃ n', Obj.mapSeq f (lsO its n) = lsO its' n' := by
  have e : Obj.mapSeq f (lsO its n) = { cls := .type "list", data := .seq (f its.toArray) (if ((f its.toArray).size == its.toArray.size) = true then n else n + 1) } := rfl
  rw [e, h]
  exact ⟨_, rfl⟩
theorem val_at {ns : List Int} {its : List Value} (r : Vals (ns.map V.int) its) {i : Nat} (h : i < ns.length) : ∃ t, its.toArray[i]? = some (.int (ns.getD i 0) t) := by
  have e : (ns.map V.int)[i]? = some (.int (ns.getD i 0)) := by rw [List.getElem?_map, List.getD_eq_getElem?_getD, List.getElem?_eq_getElem h]; rfl
  obtain ⟨u, hu, ru⟩ := r.get e
  obtain ⟨t, rfl⟩ := ru
  exact ⟨t, by simpa using hu⟩
theorem vals_size {ns : List Int} {its : List Value} (r : Vals (ns.map V.int) its) : its.toArray.size = ns.length := by
  have := r.length
  rw [List.length_map] at this
  simp [this]
section
variable {prog : Program} {w : World} {A : Around} {E : Value → Shared → Prop} {s : Shared}
theorem rlt {x y : Int} {t u : Tok} {Q : Bool → Shared → Prop} (h : Q (decide (x < y)) s) : wpAny (model prog w) A (do truthOfDropped (← richCompare .Lt (.int x t) (.int y u))) Q E s := by
  refine wpAny_bind (richCompare_gives (op := .Lt) (typeIs_int s _ t) (typeIs_int s _ u) F.slot_int_lt F.entry_int_lt (F.args_int_lt_2 _ _) (gives_int_lt _ _ t u) (fun x => nomatch x) ?_)
  exact wpAny_of_eq (a := decide (x < y)) rfl h
theorem swap_map {ns : List Int} {its : List Value} (r : Vals (ns.map V.int) its) {i j n : Nat} {x y : Value} (hi : i < ns.length) (hj : j < ns.length) (hx : its.toArray[i]? = some x) (hy : its.toArray[j]? = some y) :
    ∃ its', Obj.mapSeq (fun xs => (xs.setIfInBounds i y).setIfInBounds j x) (lsO its n) = lsO its' n ∧ Vals ((swapI ns i j).map V.int) its' := by
  refine ⟨(its.set i y).set j x, by simp [Obj.mapSeq, lsO], ?_⟩
  obtain ⟨t, ht⟩ := val_at r hi
  obtain ⟨u, hu⟩ := val_at r hj
  rw [hx] at ht
  rw [hy] at hu
  cases ht
  cases hu
  unfold swapI
  rw [List.map_set, List.map_set]
  have ri : RelV (.int (ns.getD i 0)) (.int (ns.getD i 0) t) := ⟨_, rfl⟩
  have rj : RelV (.int (ns.getD j 0)) (.int (ns.getD j 0) u) := ⟨_, rfl⟩
  exact (r.set rj i).set ri j
theorem swap_ok {a : Addr} {i j n : Nat} {ns : List Int} {its : List Value} {x y : Value} {Q : Unit → Shared → Prop} (hi : i < ns.length) (hj : j < ns.length) (hz : ns.length ≤ sizeLine) (ho : s.heap.get? a = some (lsO its n)) (r : Vals (ns.map V.int) its) (hx : its.toArray[i]? = some x) (hy : its.toArray[j]? = some y)
    (hQ : ∀ h' its' n', Vals ((swapI ns i j).map V.int) its' → h'.get? a = some (lsO its' n') → (∀ b o, b ≠ a → s.heap.get? b = some o → h'.get? b = some o) → Q () { s with heap := h' }) :
    wpAny (model prog w) A (updateSeq a fun xs => (xs.setIfInBounds i y).setIfInBounds j x) Q E s := by
  obtain ⟨its', e1, r1⟩ := swap_map (n := n) r hi hj hx hy
  have hsz := vals_size r
  refine wpAny_updateSeq ho rfl (hQ _ its' n r1 ?_ fun b o hb e => (Heap.get?_update_other _ _ (Ne.symm hb)).trans e) (by rw [hsz]; exact hz) (by rw [Array.size_setIfInBounds, Array.size_setIfInBounds, hsz]; omega)
  rw [Heap.get?_update_self _ ho (by rw [e1] <;> rfl), e1]
theorem up_loop {a : Addr} {res : Value} {R : Result → Shared → Prop} : ∀ (f pos : Nat) (ns : List Int) (its : List Value) (n : Nat) (h : Heap) (tk : Nat) (t1 t2 t3 : Tok), pos ≤ f → pos < ns.length → ns.length ≤ sizeLine → h.get? a = some (lsO its n) → Vals (ns.map V.int) its →
    (∀ h' its' n' tk', Vals ((upF f ns pos).map V.int) its' → h'.get? a = some (lsO its' n') → (∀ b o, b ≠ a → h.get? b = some o → h'.get? b = some o) → R (.ok (.ret res)) { s with heap := h', toks := tk' }) →
    codeAny (model prog w) A (.builtin "_heapq.heapify.sift" ⟨[.ref a, .bool false, .bool false, .int (pos : Int) t1, .int ((0 : Nat) : Int) t2, res, .int (-1) t3], []⟩) R { s with heap := h, toks := tk } := by
  intro f
  induction f with
  | zero =>
    intro pos ns its n h tk t1 t2 t3 hf hp hz ho r hR
    have h0 : pos = 0 := by omega
    subst h0
    refine codeAny_builtin sift_entry ?_
    rw [Around.under_plainId sift_plain _]
    unfold Builtin.«_heapq.heapify.sift»
    dsimp only
    refine wpAny_bind ?_
    show wpAny _ _ (seqItems? (.ref a) >>= _) _ _ _
    refine wpAny_bind (wpAny_seqItems ho rfl (wpAny_pure ?_))
    rw [if_neg (by decide), if_neg (by decide), if_pos (by decide)]
    exact wpAny_pure (hR h its n tk r ho fun b o _ e => e)
  | succ f ih =>
    intro pos ns its n h tk t1 t2 t3 hf hp hz ho r hR
    refine codeAny_builtin sift_entry ?_
    rw [Around.under_plainId sift_plain _]
    unfold Builtin.«_heapq.heapify.sift»
    dsimp only
    refine wpAny_bind ?_
    show wpAny _ _ (seqItems? (.ref a) >>= _) _ _ _
    refine wpAny_bind (wpAny_seqItems ho rfl (wpAny_pure ?_))
    rw [if_neg (by decide)]
    rw [show ((pos : Int)).toNat = pos from Int.toNat_natCast pos]
    by_cases hp0 : pos > 0
    · rw [if_pos (by exact hp0)]
      have hpar : (pos - 1) / 2 < ns.length := by omega
      obtain ⟨u1, e1⟩ := val_at r hp
      obtain ⟨u2, e2⟩ := val_at r hpar
      refine wpAny_bind ?_
      show wpAny _ _ (match its.toArray[pos]? with | some v => pure v | none => _) _ _ _
      rw [e1]
      refine wpAny_pure (wpAny_bind ?_)
      show wpAny _ _ (match its.toArray[(pos - 1) / 2]? with | some v => pure v | none => _) _ _ _
      rw [e2]
      refine wpAny_pure ?_
      rw [if_neg (by decide)]
      refine wpAny_bind ?_
      show wpAny _ _ (holding _ _ >>= _) _ _ _
      refine wpAny_bind (wpAny_holding (rlt ?_))
      refine wpAny_bind ?_
      show wpAny _ _ (seqItems? (.ref a) >>= _) _ _ _
      refine wpAny_bind (wpAny_seqItems ho rfl (wpAny_pure ?_))
      dsimp only
      rw [if_neg (by simp)]
      refine wpAny_pure ?_
      have eU : upF (f + 1) ns pos = if ns.getD pos 0 < ns.getD ((pos - 1) / 2) 0 then upF f (swapI ns ((pos - 1) / 2) pos) ((pos - 1) / 2) else ns := by
        show (if pos > 0 then _ else _) = _
        rw [if_pos hp0]
      rw [eU] at hR
      by_cases hlt : ns.getD pos 0 < ns.getD ((pos - 1) / 2) 0
      · rw [if_pos hlt] at hR
        rw [if_pos (decide_eq_true hlt)]
        refine wpAny_bind ?_
        show wpAny _ _ (_ >>= _) _ _ _
        refine wpAny_bind ?_
        show wpAny _ _ (seqItems? (.ref a) >>= _) _ _ _
        refine wpAny_bind (wpAny_seqItems ho rfl (wpAny_pure (wpAny_bind ?_)))
        show wpAny _ _ (match its.toArray[(pos - 1) / 2]? with | some v => pure v | none => _) _ _ _
        rw [e2]
        refine wpAny_pure (wpAny_bind ?_)
        show wpAny _ _ (match its.toArray[pos]? with | some v => pure v | none => _) _ _ _
        rw [e1]
        refine wpAny_pure (swap_ok (s := { s with heap := h, toks := tk }) hpar hp hz ho r e2 e1 fun h' its' n' r' ho' hk => ?_)
        · show wpAny _ _ (pure (PySem.Fin.again _)) _ _ _
          refine wpAny_pure ⟨plainId_quiet sift_plain _, ?_⟩
          refine ih ((pos - 1) / 2) (swapI ns ((pos - 1) / 2) pos) its' n' h' tk _ _ _ (by omega) (by rw [swapI_len]; exact hpar) (by rw [swapI_len]; exact hz) ho' r' fun h2 its2 n2 tk2 r2 ho2 hk2 => hR h2 its2 n2 tk2 r2 ho2 fun b o hb e => hk2 b o hb (hk b o hb e)
      · rw [if_neg hlt] at hR
        rw [if_neg (by rw [decide_eq_false hlt]; decide), if_pos (by decide)]
        exact wpAny_pure (hR h its n tk r ho fun b o _ e => e)
    · have h0 : pos = 0 := by omega
      subst h0
      rw [if_neg (by decide), if_pos (by decide)]
      exact wpAny_pure (hR h its n tk r ho fun b o _ e => e)
theorem down_loop {a : Addr} {res : Value} {R : Result → Shared → Prop} : ∀ (f pos : Nat) (ns : List Int) (its : List Value) (n : Nat) (h : Heap) (tk : Nat) (t1 t2 t3 : Tok), ns.length ≤ pos + f → pos < ns.length → ns.length ≤ sizeLine → h.get? a = some (lsO its n) → Vals (ns.map V.int) its →
    (∀ h' its' n' tk', Vals ((downF f ns pos).map V.int) its' → h'.get? a = some (lsO its' n') → (∀ b o, b ≠ a → h.get? b = some o → h'.get? b = some o) → R (.ok (.ret res)) { s with heap := h', toks := tk' }) →
    codeAny (model prog w) A (.builtin "_heapq.heapify.sift" ⟨[.ref a, .bool false, .bool true, .int (pos : Int) t1, .int ((0 : Nat) : Int) t2, res, .int (-1) t3], []⟩) R { s with heap := h, toks := tk } := by
  intro f
  induction f with
  | zero =>
    intro pos ns its n h tk t1 t2 t3 hf hp
    exact absurd hp (by omega)
  | succ f ih =>
    intro pos ns its n h tk t1 t2 t3 hf hp hz ho r hR
    refine codeAny_builtin sift_entry ?_
    rw [Around.under_plainId sift_plain _]
    unfold Builtin.«_heapq.heapify.sift»
    dsimp only
    refine wpAny_bind ?_
    show wpAny _ _ (seqItems? (.ref a) >>= _) _ _ _
    refine wpAny_bind (wpAny_seqItems ho rfl (wpAny_pure ?_))
    have hsz := vals_size r
    rw [if_pos rfl]
    rw [show ((pos : Int)).toNat = pos from Int.toNat_natCast pos]
    by_cases hp0 : pos < ns.length / 2
    · have eD : downF (f + 1) ns pos = downF f (swapI ns (kidI ns pos) pos) (kidI ns pos) := by
        show (if pos < ns.length / 2 then _ else _) = _
        rw [if_pos hp0]
      rw [eD] at hR
      rw [if_pos (by rw [hsz]; exact hp0)]
      have hl : 2 * pos + 1 < ns.length := by omega
      obtain ⟨u0, e0⟩ := val_at r hp
      obtain ⟨u1, e1⟩ := val_at r hl
      have fin : ∀ (c : Nat), kidI ns pos = c → c < ns.length → pos < c → ∀ h' its' n', Vals ((swapI ns c pos).map V.int) its' → h'.get? a = some (lsO its' n') → (∀ b o, b ≠ a → h.get? b = some o → h'.get? b = some o) →
          ∀ t1 t2 t3, codeAny (model prog w) A (.builtin "_heapq.heapify.sift" ⟨[.ref a, .bool false, .bool true, .int (c : Int) t1, .int ((0 : Nat) : Int) t2, res, .int (-1) t3], []⟩) R { s with heap := h', toks := tk } := fun c ec hc hpc h' its' n' r' ho' hk t1 t2 t3 => by
        rw [ec] at hR
        exact ih c (swapI ns c pos) its' n' h' tk t1 t2 t3 (by rw [swapI_len]; omega) (by rw [swapI_len]; exact hc) (by rw [swapI_len]; exact hz) ho' r' fun h2 its2 n2 tk2 r2 ho2 hk2 => hR h2 its2 n2 tk2 r2 ho2 fun b o hb e => hk2 b o hb (hk b o hb e)
      by_cases h2 : 2 * pos + 1 + 1 < ns.length
      · rw [if_pos (by rw [hsz]; exact h2)]
        obtain ⟨u2, e2⟩ := val_at r h2
        refine wpAny_bind ?_
        show wpAny _ _ (match its.toArray[2 * pos + 1]? with | some v => pure v | none => _) _ _ _
        rw [e1]
        refine wpAny_pure (wpAny_bind ?_)
        show wpAny _ _ (match its.toArray[2 * pos + 1 + 1]? with | some v => pure v | none => _) _ _ _
        rw [e2]
        refine wpAny_pure ?_
        rw [if_neg (by decide)]
        refine wpAny_bind ?_
        show wpAny _ _ (holding _ _ >>= _) _ _ _
        refine wpAny_bind (wpAny_holding (rlt ?_))
        refine wpAny_bind ?_
        show wpAny _ _ (seqItems? (.ref a) >>= _) _ _ _
        refine wpAny_bind (wpAny_seqItems ho rfl (wpAny_pure ?_))
        dsimp only
        rw [if_neg (by simp)]
        refine wpAny_pure ?_
        by_cases hlt : ns.getD (2 * pos + 1) 0 < ns.getD (2 * pos + 1 + 1) 0
        · have ek : kidI ns pos = 2 * pos + 1 := by unfold kidI; rw [if_pos h2, if_pos hlt]
          rw [if_neg (by rw [decide_eq_true hlt]; decide)]
          refine wpAny_bind ?_
          show wpAny _ _ (_ >>= _) _ _ _
          refine wpAny_bind ?_
          show wpAny _ _ (seqItems? (.ref a) >>= _) _ _ _
          refine wpAny_bind (wpAny_seqItems ho rfl (wpAny_pure (wpAny_bind ?_)))
          show wpAny _ _ (match its.toArray[2 * pos + 1]? with | some v => pure v | none => _) _ _ _
          rw [e1]
          refine wpAny_pure (wpAny_bind ?_)
          show wpAny _ _ (match its.toArray[pos]? with | some v => pure v | none => _) _ _ _
          rw [e0]
          refine wpAny_pure (swap_ok (s := { s with heap := h, toks := tk }) hl hp hz ho r e1 e0 fun h' its' n' r' ho' hk => ?_)
          show wpAny _ _ (pure (PySem.Fin.again _)) _ _ _
          exact wpAny_pure ⟨plainId_quiet sift_plain _, fin _ ek hl (by omega) h' its' n' r' ho' hk _ _ _⟩
        · have ek : kidI ns pos = 2 * pos + 1 + 1 := by unfold kidI; rw [if_pos h2, if_neg hlt]
          rw [if_pos (by rw [decide_eq_false hlt]; decide)]
          refine wpAny_bind ?_
          show wpAny _ _ (_ >>= _) _ _ _
          refine wpAny_bind ?_
          show wpAny _ _ (seqItems? (.ref a) >>= _) _ _ _
          refine wpAny_bind (wpAny_seqItems ho rfl (wpAny_pure (wpAny_bind ?_)))
          show wpAny _ _ (match its.toArray[2 * pos + 1 + 1]? with | some v => pure v | none => _) _ _ _
          rw [e2]
          refine wpAny_pure (wpAny_bind ?_)
          show wpAny _ _ (match its.toArray[pos]? with | some v => pure v | none => _) _ _ _
          rw [e0]
          refine wpAny_pure (swap_ok (s := { s with heap := h, toks := tk }) h2 hp hz ho r e2 e0 fun h' its' n' r' ho' hk => ?_)
          show wpAny _ _ (pure (PySem.Fin.again _)) _ _ _
          exact wpAny_pure ⟨plainId_quiet sift_plain _, fin _ ek h2 (by omega) h' its' n' r' ho' hk _ _ _⟩
      · have ek : kidI ns pos = 2 * pos + 1 := by unfold kidI; rw [if_neg h2]
        rw [if_neg (by rw [hsz]; exact h2)]
        refine wpAny_bind ?_
        show wpAny _ _ (_ >>= _) _ _ _
        refine wpAny_bind ?_
        show wpAny _ _ (seqItems? (.ref a) >>= _) _ _ _
        refine wpAny_bind (wpAny_seqItems ho rfl (wpAny_pure (wpAny_bind ?_)))
        show wpAny _ _ (match its.toArray[2 * pos + 1]? with | some v => pure v | none => _) _ _ _
        rw [e1]
        refine wpAny_pure (wpAny_bind ?_)
        show wpAny _ _ (match its.toArray[pos]? with | some v => pure v | none => _) _ _ _
        rw [e0]
        refine wpAny_pure (swap_ok (s := { s with heap := h, toks := tk }) hl hp hz ho r e1 e0 fun h' its' n' r' ho' hk => ?_)
        show wpAny _ _ (pure (PySem.Fin.again _)) _ _ _
        exact wpAny_pure ⟨plainId_quiet sift_plain _, fin _ ek hl (by omega) h' its' n' r' ho' hk _ _ _⟩
    · have eD : downF (f + 1) ns pos = upF pos ns pos := by
        show (if pos < ns.length / 2 then _ else _) = _
        rw [if_neg hp0]
      rw [eD] at hR
      rw [if_neg (by rw [hsz]; exact hp0)]
      show wpAny _ _ (pure (PySem.Fin.again _)) _ _ _
      exact wpAny_pure ⟨plainId_quiet sift_plain _, up_loop pos pos ns its n h tk _ _ _ (Nat.le_refl _) hp hz ho r hR⟩
end
theorem push_entry : entryFor table "_heapq.heappush" = some Builtin.«_heapq.heappush» := entryFor_of_tree (by kernel_rfl)
theorem push_plain : plainId "_heapq.heappush" = true := by decide +kernel
theorem push_kind : builtinKind "_heapq.heappush" = none := by decide +kernel
theorem push_args (a b : Value) : argsOk "_heapq.heappush" ⟨[a, b], []⟩ := by unfold argsOk; kernel_rfl
theorem pop_entry : entryFor table "_heapq.heappop" = some Builtin.«_heapq.heappop» := entryFor_of_tree (by kernel_rfl)
theorem pop_plain : plainId "_heapq.heappop" = true := by decide +kernel
theorem pop_kind : builtinKind "_heapq.heappop" = none := by decide +kernel
theorem pop_args (a : Value) : argsOk "_heapq.heappop" ⟨[a], []⟩ := by unfold argsOk; kernel_rfl
/-- the list behind a push, behind a pop -/
def pushI (ns : List Int) (x : Int) : List Int := upF ns.length (ns ++ [x]) ns.length
def popI (ns : List Int) : List Int := if ns.length = 1 then [] else downF (ns.length - 1) (ns.dropLast.set 0 (ns.getD (ns.length - 1) 0)) 0
def rPush : List V → Hp → VK → Prop := fun xs H Q => ∃ (a : Addr) (ns : List Int) (x : Int), xs = [.ref a, .int x] ∧ H a = some (.lst (ns.map V.int)) ∧ ns.length < sizeLine ∧ Q .non (upd H a (.lst ((pushI ns x).map V.int)))
def rPop : List V → Hp → VK → Prop := fun xs H Q => ∃ (a : Addr) (ns : List Int), xs = [.ref a] ∧ H a = some (.lst (ns.map V.int)) ∧ 0 < ns.length ∧ Q (.int (ns.getD 0 0)) (upd H a (.lst ((popI ns).map V.int)))
theorem upF_len : ∀ (f : Nat) (l : List Int) (p : Nat), (upF f l p).length = l.length
  | 0, _, _ => rfl
  | f + 1, l, p => by
    show (if p > 0 then (if _ then _ else _) else _ : List Int).length = _
    by_cases h : p > 0
    · rw [if_pos h]
      by_cases h2 : l.getD p 0 < l.getD ((p - 1) / 2) 0
      · rw [if_pos h2, upF_len f, swapI_len]
      · rw [if_neg h2]
    · rw [if_neg h]
theorem downF_len : ∀ (f : Nat) (l : List Int) (p : Nat), (downF f l p).length = l.length
  | 0, l, p => upF_len _ _ _
  | f + 1, l, p => by
    show (if p < l.length / 2 then _ else _ : List Int).length = _
    by_cases h : p < l.length / 2
    · rw [if_pos h, downF_len f, swapI_len]
    · rw [if_neg h, upF_len]
section
variable {X : Cx}
theorem inv_lst {pins : List (Addr × Obj)} {σ : L2.St} {H : Hp} {s : Shared} {p : Addr} {xs ys : List V} {its' : List Value} {n' : Nat} {h' : Heap} (I : Inv X pins σ H s) (h : H p = some (.lst xs)) (e : h'.get? p = some (lsO its' n')) (hk : ∀ b o, b ≠ p → s.heap.get? b = some o → h'.get? b = some o) (r : Vals ys its') (hz : ys.length ≤ sizeLine) (t : Nat) :
    Inv X pins σ (upd H p (.lst ys)) { s with heap := h', toks := t } :=
  I.write (x := p) (e := p) (by rw [h]; trivial) (.inl rfl) (fun b u hb q => hk b u hb q) ⟨_, e⟩ ⟨hz, its', n', r, e⟩
theorem cr_push (hc : X.calm = true) : CallR X (.builtin "_heapq.heappush") rPush := by
  intro pins s σ H xs us Q I rx h
  obtain ⟨a, ns, x, rfl, ha, hz, hq⟩ := h
  cases rx with
  | cons r1 rr =>
    cases rr with
    | cons r2 rr =>
      cases rr
      cases r1
      obtain ⟨tx, rfl⟩ := r2
      obtain ⟨its, n, r, ho, _⟩ := I.lst ha
      refine PyProof.Rows.kmb_tree push_kind push_plain push_entry (push_args _ _) ?_
      unfold Builtin.«_heapq.heappush»
      refine wpAny_bind ?_
      show wpAny _ _ (noKeywords _ _ >>= _) _ _ _
      refine wpAny_bind (m := noKeywords _ _) (wpAny_pure ?_)
      refine wpAny_bind (m := checkCount _ _ _ _) (wpAny_pure ?_)
      dsimp only
      refine wpAny_bind ?_
      show wpAny _ _ (isInstance _ _ >>= _) _ _ _
      refine wpAny_bind (wpAny_isInstance (T := "list") (b := true) ⟨_, ho, rfl⟩ (by rfl) ?_)
      rw [if_pos rfl]
      refine wpAny_pure (wpAny_pure ?_)
      dsimp only
      have hsz := vals_size r
      obtain ⟨n1, eo⟩ : ∃ n1, Obj.mapSeq (fun xs : Array Value => xs.push (.int x tx)) (lsO its n) = lsO (its ++ [.int x tx]) n1 := map_lsO _ (by simp) n
      have rx : RelV (.int x) (.int x tx) := ⟨_, rfl⟩
      have r' : Vals ((ns ++ [x]).map V.int) (its ++ [.int x tx]) := by rw [List.map_append]; exact r.append (.cons rx .nil)
      have hl : (ns ++ [x]).length = ns.length + 1 := by rw [List.length_append]; rfl
      have hz' : (ns ++ [x]).length ≤ sizeLine := by rw [hl]; exact hz
      refine wpAny_bind (wpAny_updateSeq ho rfl ?_ (by rw [hsz]; exact Nat.le_of_lt hz) (by rw [Array.size_push, hsz]; omega))
      have ho' : (s.heap.update a (Obj.mapSeq fun xs : Array Value => xs.push (.int x tx))).get? a = some (lsO (its ++ [.int x tx]) n1) := by rw [Heap.get?_update_self _ ho (by rw [eo] <;> rfl), eo]
      have hk : ∀ b o, b ≠ a → s.heap.get? b = some o → (s.heap.update a (Obj.mapSeq fun xs : Array Value => xs.push (.int x tx))).get? b = some o := fun b o hb e => (Heap.get?_update_other _ _ (Ne.symm hb)).trans e
      generalize s.heap.update a (Obj.mapSeq fun xs : Array Value => xs.push (.int x tx)) = h1 at *
      refine wpAny_bind ?_
      show wpAny _ _ (seqItems? (.ref a) >>= _) _ _ _
      refine wpAny_bind (wpAny_seqItems (s := { s with heap := h1 }) ho' rfl (wpAny_pure ?_))
      show wpAny _ _ (pure (PySem.Fin.again _)) _ _ _
      refine wpAny_pure ⟨plainId_quiet sift_plain _, ?_⟩
      have hsz' : (its ++ [Value.int x tx]).toArray.size - 1 = ns.length := by rw [vals_size r', hl]; rfl
      rw [hsz']
      exact up_loop (s := s) ns.length ns.length (ns ++ [x]) _ n1 h1 s.toks _ _ _ (Nat.le_refl _) (by omega) hz' ho' r' fun h' its' n' tk' r2 ho2 hk2 => ⟨.non, _, inv_lst I ha ho2 (fun b o hb e => hk2 b o hb (hk b o hb e)) r2 (by rw [List.length_map, upF_len]; exact hz') tk', rfl, hq⟩
theorem cr_pop (hc : X.calm = true) : CallR X (.builtin "_heapq.heappop") rPop := by
  intro pins s σ H xs us Q I rx h
  obtain ⟨a, ns, rfl, ha, hn, hq⟩ := h
  cases rx with
  | cons r1 rr =>
    cases rr
    cases r1
    obtain ⟨its, n, r, ho, hz⟩ := I.lst ha
    rw [List.length_map] at hz
    have hsz := vals_size r
    obtain ⟨tl, el⟩ := val_at r (i := ns.length - 1) (by omega)
    obtain ⟨t0, e0⟩ := val_at r (i := 0) hn
    refine PyProof.Rows.kmb_tree pop_kind pop_plain pop_entry (pop_args _) ?_
    unfold Builtin.«_heapq.heappop»
    show wpAny _ _ (_ >>= _) _ _ _
    refine wpAny_bind ?_
    show wpAny _ _ (oneArg _ _ >>= _) _ _ _
    refine wpAny_bind (m := oneArg _ _) (wpAny_pure ?_)
    refine wpAny_bind ?_
    show wpAny _ _ (isInstance _ _ >>= _) _ _ _
    refine wpAny_bind (wpAny_isInstance (T := "list") (b := true) ⟨_, ho, rfl⟩ (by rfl) ?_)
    dsimp only
    rw [if_pos rfl]
    refine wpAny_pure (wpAny_pure ?_)
    dsimp only
    refine wpAny_bind ?_
    show wpAny _ _ (seqItems? (.ref a) >>= _) _ _ _
    refine wpAny_bind (wpAny_seqItems ho rfl (wpAny_pure ?_))
    have eb : its.toArray.back? = some (.int (ns.getD (ns.length - 1) 0) tl) := by
      rw [← el, Array.back?, hsz]
    rw [eb]
    dsimp only
    obtain ⟨n1, eo⟩ : ∃ n1, Obj.mapSeq (fun xs : Array Value => xs.pop) (lsO its n) = lsO its.dropLast n1 := map_lsO _ (by simp) n
    have r' : Vals (ns.dropLast.map V.int) its.dropLast := by
      have h1 := r.length
      rw [List.length_map] at h1
      have := r.take (ns.length - 1)
      rw [← List.map_take, ← List.dropLast_eq_take, h1, ← List.dropLast_eq_take] at this
      exact this
    refine wpAny_bind (wpAny_updateSeq ho rfl ?_ (by rw [hsz]; exact hz) (by rw [Array.size_pop, hsz]; omega))
    have ho' : (s.heap.update a (Obj.mapSeq fun xs : Array Value => xs.pop)).get? a = some (lsO its.dropLast n1) := by rw [Heap.get?_update_self _ ho (by rw [eo] <;> rfl), eo]
    have hk : ∀ b o, b ≠ a → s.heap.get? b = some o → (s.heap.update a (Obj.mapSeq fun xs : Array Value => xs.pop)).get? b = some o := fun b o hb e => (Heap.get?_update_other _ _ (Ne.symm hb)).trans e
    generalize s.heap.update a (Obj.mapSeq fun xs : Array Value => xs.pop) = h1 at *
    have hdl : ns.dropLast.length = ns.length - 1 := List.length_dropLast
    rw [hsz]
    by_cases h1n : ns.length = 1
    · rw [if_pos (by rw [h1n]; rfl)]
      have e : popI ns = [] := if_pos h1n
      rw [e] at hq
      rw [h1n]
      have r0 : Vals (([] : List Int).map V.int) its.dropLast := by
        have : ns.dropLast = [] := List.eq_nil_of_length_eq_zero (by rw [hdl, h1n])
        rw [this] at r'; exact r'
      exact wpAny_pure ⟨.int (ns.getD 0 0), _, inv_lst I ha ho' hk r0 (Nat.zero_le _) s.toks, ⟨_, rfl⟩, hq⟩
    · rw [if_neg (by intro z; exact h1n (by simpa using z))]
      have e : popI ns = downF (ns.length - 1) (ns.dropLast.set 0 (ns.getD (ns.length - 1) 0)) 0 := if_neg h1n
      rw [e] at hq
      refine wpAny_bind ?_
      show wpAny _ _ (match its.toArray[0]? with | some v => pure v | none => _) _ _ _
      rw [e0]
      refine wpAny_pure ?_
      have rl : RelV (.int (ns.getD (ns.length - 1) 0)) (.int (ns.getD (ns.length - 1) 0) tl) := ⟨_, rfl⟩
      have r2 : Vals ((ns.dropLast.set 0 (ns.getD (ns.length - 1) 0)).map V.int) (its.dropLast.set 0 (.int (ns.getD (ns.length - 1) 0) tl)) := by rw [List.map_set]; exact r'.set rl 0
      obtain ⟨n2, eo2⟩ : ∃ n2, Obj.mapSeq (fun xs : Array Value => xs.setIfInBounds 0 (.int (ns.getD (ns.length - 1) 0) tl)) (lsO its.dropLast n1) = lsO (its.dropLast.set 0 (.int (ns.getD (ns.length - 1) 0) tl)) n2 := map_lsO _ (by simp) n1
      have hsz' := vals_size r'
      have hl2 : (ns.dropLast.set 0 (ns.getD (ns.length - 1) 0)).length = ns.length - 1 := by rw [List.length_set, hdl]
      refine wpAny_bind (wpAny_updateSeq (s := { s with heap := h1 }) ho' rfl ?_ (by rw [hsz', hdl]; omega) (by rw [Array.size_setIfInBounds, hsz', hdl]; omega))
      have ho2 : (h1.update a (Obj.mapSeq fun xs : Array Value => xs.setIfInBounds 0 (.int (ns.getD (ns.length - 1) 0) tl))).get? a = some (lsO (its.dropLast.set 0 (.int (ns.getD (ns.length - 1) 0) tl)) n2) := by rw [Heap.get?_update_self _ ho' (by rw [eo2] <;> rfl), eo2]
      have hk2 : ∀ b o, b ≠ a → h1.get? b = some o → (h1.update a (Obj.mapSeq fun xs : Array Value => xs.setIfInBounds 0 (.int (ns.getD (ns.length - 1) 0) tl))).get? b = some o := fun b o hb e => (Heap.get?_update_other _ _ (Ne.symm hb)).trans e
      dsimp only
      generalize h1.update a (Obj.mapSeq fun xs : Array Value => xs.setIfInBounds 0 (.int (ns.getD (ns.length - 1) 0) tl)) = h2 at *
      show wpAny _ _ (pure (PySem.Fin.again _)) _ _ _
      refine wpAny_pure ⟨plainId_quiet sift_plain _, ?_⟩
      exact down_loop (s := s) (ns.length - 1) 0 _ _ n2 h2 s.toks _ _ _ (by rw [hl2]; omega) (by rw [hl2]; omega) (by rw [hl2]; omega) ho2 r2 fun h' its' n' tk' r3 ho3 hk3 => ⟨.int (ns.getD 0 0), _, inv_lst I ha ho3 (fun b o hb e => hk3 b o hb (hk2 b o hb (hk b o hb e))) r3 (by rw [List.length_map, downF_len, hl2]; omega) tk', ⟨_, rfl⟩, hq⟩
end
end HQ
namespace HQ
open PySem PySem.Spec PyProof.Rows L2
/-! ## heaps as lists: what is in them -/
theorem swap_perm {l : List Int} {i j : Nat} (hi : i < l.length) (hj : j < l.length) : (swapI l i j).Perm l := by
  rw [List.perm_iff_count]
  intro b
  unfold swapI
  have gi : l.getD i 0 = l[i] := by rw [List.getD_eq_getElem?_getD, List.getElem?_eq_getElem hi]; rfl
  have gj : l.getD j 0 = l[j] := by rw [List.getD_eq_getElem?_getD, List.getElem?_eq_getElem hj]; rfl
  rw [gi, gj, List.count_set (by rw [List.length_set]; exact hj), List.count_set hi, List.getElem_set]
  have ci : (if (l[i] == b) = true then 1 else 0) ≤ l.count b := by
    by_cases h : (l[i] == b) = true
    · rw [if_pos h]
      exact List.count_pos_iff.mpr (by rw [← eq_of_beq h]; exact List.getElem_mem hi)
    · rw [if_neg h]; exact Nat.zero_le _
  by_cases e : i = j
  · subst e
    rw [if_pos rfl]
    omega
  · rw [if_neg e]
    have cj : (if (l[j] == b) = true then 1 else 0) ≤ l.count b := by
      by_cases h : (l[j] == b) = true
      · rw [if_pos h]
        exact List.count_pos_iff.mpr (by rw [← eq_of_beq h]; exact List.getElem_mem hj)
      · rw [if_neg h]; exact Nat.zero_le _
    by_cases h1 : (l[i] == b) = true <;> by_cases h2 : (l[j] == b) = true <;> simp only [h1, h2, if_true, if_false, Bool.false_eq_true] at ci cj ⊢ <;> omega
theorem up_perm : ∀ (f : Nat) (l : List Int) (p : Nat), p < l.length → (upF f l p).Perm l
  | 0, _, _, _ => .refl _
  | f + 1, l, p, h => by
    show (if p > 0 then (if _ then _ else _) else _ : List Int).Perm l
    by_cases h0 : p > 0
    · rw [if_pos h0]
      by_cases h2 : l.getD p 0 < l.getD ((p - 1) / 2) 0
      · rw [if_pos h2]
        exact (up_perm f _ _ (by rw [swapI_len]; omega)).trans (swap_perm (by omega) h)
      · rw [if_neg h2]
    · rw [if_neg h0]
theorem kid_lt {l : List Int} {p : Nat} (h : p < l.length / 2) : kidI l p < l.length ∧ p < kidI l p := by
  unfold kidI
  by_cases h2 : 2 * p + 1 + 1 < l.length
  · rw [if_pos h2]
    by_cases h3 : l.getD (2 * p + 1) 0 < l.getD (2 * p + 1 + 1) 0
    · rw [if_pos h3]; omega
    · rw [if_neg h3]; omega
  · rw [if_neg h2]; omega
theorem down_perm : ∀ (f : Nat) (l : List Int) (p : Nat), p < l.length → (downF f l p).Perm l
  | 0, l, p, h => up_perm p l p h
  | f + 1, l, p, h => by
    show (if p < l.length / 2 then _ else _ : List Int).Perm l
    by_cases h0 : p < l.length / 2
    · rw [if_pos h0]
      have hk := kid_lt h0
      exact (down_perm f _ _ (by rw [swapI_len]; exact hk.1)).trans (swap_perm hk.1 h)
    · rw [if_neg h0]
      exact up_perm p l p h
theorem push_perm (ns : List Int) (x : Int) : (pushI ns x).Perm (x :: ns) := (up_perm _ _ _ (by rw [List.length_append]; show _ < _ + 1; omega)).trans (List.perm_append_comm.trans (List.Perm.refl _))
theorem pop_perm {ns : List Int} (h : 0 < ns.length) : (ns.getD 0 0 :: popI ns).Perm ns := by
  obtain ⟨x, rest, rfl⟩ : ∃ x rest, ns = x :: rest := by
    cases ns with
    | nil => cases h
    | cons x rest => exact ⟨x, rest, rfl⟩
  show (x :: popI (x :: rest)).Perm (x :: rest)
  refine .cons x ?_
  unfold popI
  by_cases h1 : (x :: rest).length = 1
  · rw [if_pos h1]
    have : rest = [] := List.eq_nil_of_length_eq_zero (by rw [List.length_cons] at h1; omega)
    rw [this]
  · rw [if_neg h1]
    obtain ⟨y, r2, rfl⟩ : ∃ y r2, rest = y :: r2 := by
      cases rest with
      | nil => exact absurd rfl h1
      | cons y r2 => exact ⟨y, r2, rfl⟩
    have hl : (x :: y :: r2).dropLast = x :: (y :: r2).dropLast := rfl
    refine (down_perm _ _ _ (by rw [List.length_set, hl]; exact Nat.succ_pos _)).trans ?_
    rw [hl]
    show ((x :: y :: r2).getD (r2.length + 1) 0 :: (y :: r2).dropLast).Perm _
    have hg : (x :: y :: r2).getD (r2.length + 1) 0 = (y :: r2).getLast (by simp) := by
      show (y :: r2).getD r2.length 0 = _
      rw [List.getD_eq_getElem?_getD, List.getLast_eq_getElem, List.getElem?_eq_getElem (show r2.length < (y :: r2).length by simp)]; rfl
    rw [hg]
    have := List.dropLast_concat_getLast (l := y :: r2) (by simp)
    exact (List.perm_append_comm (l₁ := [(y :: r2).getLast (by simp)]) (l₂ := (y :: r2).dropLast)).trans (by rw [this])
end HQ
namespace HQ
open PySem PySem.Spec PyProof.Rows L2
/-! ## heaps as lists: their order -/
theorem getD_set0 {l : List Int} {p k : Nat} {v : Int} (hp : p < l.length) : (l.set p v).getD k 0 = if k = p then v else l.getD k 0 := by
  rw [List.getD_eq_getElem?_getD, List.getD_eq_getElem?_getD, List.getElem?_set]
  by_cases e : k = p
  · subst e; rw [if_pos rfl, if_pos rfl, if_pos hp]; rfl
  · rw [if_neg fun z => e z.symm, if_neg e]
theorem swap_get {l : List Int} {i j k : Nat} (hi : i < l.length) (hj : j < l.length) : (swapI l i j).getD k 0 = if k = j then l.getD i 0 else if k = i then l.getD j 0 else l.getD k 0 := by
  unfold swapI
  rw [getD_set0 (by rw [List.length_set]; exact hj), getD_set0 hi]
def HeapOk (l : List Int) : Prop := ∀ i, 0 < i → i < l.length → l.getD ((i - 1) / 2) 0 ≤ l.getD i 0
def UpOk (l : List Int) (p : Nat) : Prop := (∀ i, 0 < i → i < l.length → i ≠ p → l.getD ((i - 1) / 2) 0 ≤ l.getD i 0) ∧ (0 < p → ∀ i, 0 < i → i < l.length → (i - 1) / 2 = p → l.getD ((p - 1) / 2) 0 ≤ l.getD i 0)
def DnOk (l : List Int) (p : Nat) : Prop := (∀ i, 0 < i → i < l.length → i ≠ p → (i - 1) / 2 ≠ p → l.getD ((i - 1) / 2) 0 ≤ l.getD i 0) ∧ (0 < p → ∀ i, 0 < i → i < l.length → (i - 1) / 2 = p → l.getD ((p - 1) / 2) 0 ≤ l.getD i 0)
theorem up_ok : ∀ (f : Nat) (l : List Int) (p : Nat), p < l.length → p ≤ f → UpOk l p → HeapOk (upF f l p)
  | 0, l, p, hp, hf, h => fun i h0 hi => h.1 i h0 hi (by omega)
  | f + 1, l, p, hp, hf, h => by
    show HeapOk (if p > 0 then (if _ then _ else _) else _ : List Int)
    by_cases h0 : p > 0
    · rw [if_pos h0]
      have hq : (p - 1) / 2 < p := by omega
      by_cases h2 : l.getD p 0 < l.getD ((p - 1) / 2) 0
      · rw [if_pos h2]
        generalize hqe : (p - 1) / 2 = q at *
        have hql : q < l.length := by omega
        refine up_ok f _ q (by rw [swapI_len]; omega) (by omega) ⟨fun i i0 il ne => ?_, fun q0 i i0 il hi => ?_⟩
        · rw [swapI_len] at il
          rw [swap_get hql hp, swap_get hql hp]
          by_cases e1 : i = p
          · subst e1
            rw [if_pos rfl, hqe, if_neg (by omega), if_pos rfl]; omega
          · rw [if_neg e1, if_neg ne]
            by_cases e2 : (i - 1) / 2 = p
            · rw [if_pos e2]
              have := h.2 h0 i i0 il e2
              rw [hqe] at this; exact this
            · rw [if_neg e2]
              have := h.1 i i0 il e1
              by_cases e3 : (i - 1) / 2 = q
              · rw [if_pos e3]
                rw [e3] at this; omega
              · rw [if_neg e3]; exact this
        · rw [swapI_len] at il
          rw [swap_get hql hp, swap_get hql hp]
          have hqq := h.1 q q0 hql (by omega)
          rw [if_neg (by omega), if_neg (by omega)]
          by_cases e1 : i = p
          · rw [if_pos e1]; exact hqq
          · rw [if_neg e1, if_neg (by omega)]
            have := h.1 i i0 il e1
            rw [hi] at this
            omega
      · rw [if_neg h2]
        intro i i0 il
        by_cases e : i = p
        · rw [e]; omega
        · exact h.1 i i0 il e
    · rw [if_neg h0]
      exact fun i i0 il => h.1 i i0 il (by omega)
theorem kid_eq {l : List Int} {p : Nat} (h : p < l.length / 2) : (kidI l p = 2 * p + 1 ∨ kidI l p = 2 * p + 2) ∧ kidI l p < l.length ∧ ∀ i, 0 < i → i < l.length → (i - 1) / 2 = p → l.getD (kidI l p) 0 ≤ l.getD i 0 := by
  unfold kidI
  by_cases h2 : 2 * p + 1 + 1 < l.length
  · rw [if_pos h2]
    by_cases h3 : l.getD (2 * p + 1) 0 < l.getD (2 * p + 1 + 1) 0
    · rw [if_pos h3]
      refine ⟨.inl rfl, by omega, fun i i0 il hi => ?_⟩
      have : i = 2 * p + 1 ∨ i = 2 * p + 1 + 1 := by omega
      rcases this with e | e <;> rw [e] <;> omega
    · rw [if_neg h3]
      refine ⟨.inr rfl, by omega, fun i i0 il hi => ?_⟩
      have : i = 2 * p + 1 ∨ i = 2 * p + 1 + 1 := by omega
      rcases this with e | e <;> rw [e] <;> omega
  · rw [if_neg h2]
    refine ⟨.inl rfl, by omega, fun i i0 il hi => ?_⟩
    have : i = 2 * p + 1 := by omega
    rw [this]; exact Int.le_refl _
theorem down_ok : ∀ (f : Nat) (l : List Int) (p : Nat), p < l.length → l.length ≤ f + p → DnOk l p → HeapOk (downF f l p)
  | 0, l, p, hp, hf, h => by omega
  | f + 1, l, p, hp, hf, h => by
    show HeapOk (if p < l.length / 2 then _ else _ : List Int)
    by_cases h0 : p < l.length / 2
    · rw [if_pos h0]
      obtain ⟨k1, k2, k3⟩ := kid_eq h0
      generalize kidI l p = c at *
      have hcp : (c - 1) / 2 = p := by rcases k1 with e | e <;> rw [e] <;> omega
      have hc0 : p < c := by rcases k1 with e | e <;> omega
      refine down_ok f _ c (by rw [swapI_len]; exact k2) (by rw [swapI_len]; omega) ⟨fun i i0 il ne np => ?_, fun c0 i i0 il hi => ?_⟩
      · rw [swapI_len] at il
        rw [swap_get k2 hp, swap_get k2 hp]
        by_cases e1 : i = p
        · subst e1
          rw [if_pos rfl, if_neg (by omega), if_neg (by omega)]
          exact h.2 i0 c (by omega) k2 hcp
        · rw [if_neg e1, if_neg ne]
          by_cases e2 : (i - 1) / 2 = p
          · rw [if_pos e2]; exact k3 i i0 il e2
          · rw [if_neg e2, if_neg np]
            exact h.1 i i0 il e1 e2
      · rw [swapI_len] at il
        rw [swap_get k2 hp, swap_get k2 hp, hcp, if_pos rfl, if_neg (by omega), if_neg (by omega)]
        have := h.1 i i0 il (by omega) (by omega)
        rw [hi] at this; exact this
    · rw [if_neg h0]
      exact up_ok p l p hp (Nat.le_refl _) ⟨fun i i0 il ne => h.1 i i0 il ne (by omega), fun p0 i i0 il hi => by omega⟩
theorem heap_min {l : List Int} (h : HeapOk l) : ∀ i, i < l.length → l.getD 0 0 ≤ l.getD i 0 := by
  intro i
  induction i using Nat.strongRecOn with
  | _ i ih =>
    intro hi
    by_cases e : i = 0
    · rw [e]; exact Int.le_refl _
    · exact Int.le_trans (ih ((i - 1) / 2) (by omega) (by omega)) (h i (by omega) hi)
theorem heap_least {l : List Int} (h : HeapOk l) : ∀ z ∈ l, l.getD 0 0 ≤ z := fun z hz => by
  obtain ⟨i, hi, e⟩ := List.getElem_of_mem hz
  have := heap_min h i hi
  rw [List.getD_eq_getElem?_getD (i := i), List.getElem?_eq_getElem hi] at this
  rw [← e]; exact this
theorem getD_app {l : List Int} {x : Int} {i : Nat} (h : i < l.length) : (l ++ [x]).getD i 0 = l.getD i 0 := by
  rw [List.getD_eq_getElem?_getD, List.getD_eq_getElem?_getD, List.getElem?_append_left h]
theorem push_ok {l : List Int} (x : Int) (h : HeapOk l) : HeapOk (pushI l x) := by
  refine up_ok _ _ _ (by rw [List.length_append]; show _ < _ + 1; omega) (Nat.le_refl _) ⟨fun i i0 il ne => ?_, fun p0 i i0 il hi => ?_⟩
  · rw [List.length_append] at il
    have il : i < l.length + 1 := il
    rw [getD_app (by omega), getD_app (by omega)]
    exact h i i0 (by omega)
  · rw [List.length_append] at il
    have il : i < l.length + 1 := il
    omega
theorem pop_ok {l : List Int} (h : HeapOk l) : HeapOk (popI l) := by
  unfold popI
  by_cases h1 : l.length = 1
  · rw [if_pos h1]
    exact fun i i0 il => absurd il (Nat.not_lt_zero _)
  · rw [if_neg h1]
    by_cases h0 : l.length = 0
    · have : l = [] := List.eq_nil_of_length_eq_zero h0
      subst this
      intro i i0 il
      exact absurd il (Nat.not_lt_zero _)
    · have hl : (l.dropLast.set 0 (l.getD (l.length - 1) 0)).length = l.length - 1 := by rw [List.length_set, List.length_dropLast]
      have hg : ∀ k, 0 < k → k < l.length - 1 → (l.dropLast.set 0 (l.getD (l.length - 1) 0)).getD k 0 = l.getD k 0 := fun k k0 hk => by
        rw [getD_set0 (by rw [List.length_dropLast]; omega), if_neg (by omega), List.getD_eq_getElem?_getD, List.getD_eq_getElem?_getD, List.getElem?_dropLast, if_pos hk]
      refine down_ok _ _ _ (by rw [hl]; omega) (by rw [hl]; omega) ⟨fun i i0 il ne np => ?_, fun p0 => absurd p0 (Nat.lt_irrefl 0)⟩
      rw [hl] at il
      rw [hg i i0 il, hg _ (by omega) (by omega)]
      exact h i i0 (by omega)
theorem heap_asc {l : List Int} (h : l.Pairwise (· ≤ ·)) : HeapOk l := fun i i0 il => by
  rw [List.getD_eq_getElem?_getD, List.getD_eq_getElem?_getD, List.getElem?_eq_getElem il, List.getElem?_eq_getElem (show (i - 1) / 2 < l.length by omega)]
  exact List.pairwise_iff_getElem.mp h _ _ _ _ (by omega)
end HQ
/-! a dict comprehension whose keys are tuples of ints and texts -/
namespace L2
open PySem PySem.Spec PyProof.Rows
theorem put_tup {X : Cx} {ps : List (Addr × Obj)} {σ : St} {H : Hp} {s : Shared} {E : Value → Shared → Prop} {b D : Addr} {es : List (List Key × V)} {k : List Key} {v : V} {r : Value} {Q : Unit → Shared → Prop}
    (hu : X.A.units < cLine) (J : Inv X ps σ H s) (hb : H b = some (.tup (k.map kV))) (hD : H D = some (.dT es)) (hn : es.length < sizeLine) (hv : RelV v r)
    (go : ∀ s2, Inv X ps σ (upd H D (.dT (putK es k v))) s2 → Q () s2) : wpAny (model X.prog X.w) X.A (dictSet D (.ref b) r) Q E s := by
  obtain ⟨le, low, xs, rel, at_⟩ := dt_of J.hok hD
  have l1 : xs.length ≤ sizeLine := Paired.length rel ▸ le
  have l2 : (putK es k v).length ≤ sizeLine := Nat.le_trans (length_putK es k v) hn
  refine wpAny_dictSet_heap (hsz := l1) hu (key_of J.hok hb) at_ fun h2 d2 sb => go _ ?_
  obtain ⟨o2, e2, ep2, c1, c2, c3, c4, _, c6⟩ := d2
  refine d_write J (by rw [hD]; exact True.intro) sb ⟨o2, c1⟩ ⟨l2, low, _, (rel.put k hb hv).keeps fun c ys hc => ?_, o2, e2, ep2, c1, c2, c3, c4, c6⟩
  exact (upd_ne (ne_of hc hD (fun z => nomatch z))).trans hc
section
variable {X : Cx}
/-- one turn: the target, the test, the key, the value, the store -/
def dctTurn (D : Addr) (g : TG) (tt : TT) (tk tv : TE) (vs : List Nat) (σ : St) (Nx : Hp → Prop) (x : V) (H : Hp) : Prop :=
  g x (wipe σ vs) H fun τ G1 => wipe τ vs = wipe σ vs ∧ tt τ G1 fun b G2 => if b = true then tk τ G2 fun y G3 => tv τ G3 fun z G4 =>
    ∃ (es : List (List Key × V)) (k : List Key) (c : Addr), y = .ref c ∧ G4 c = some (.tup (k.map kV)) ∧ G4 D = some (.dT es) ∧ es.length < sizeLine ∧ Nx (upd G4 D (.dT (putK es k z))) else Nx G2
def tDct (wi : TI) (g : TG) (tt : TT) (tk tv : TE) (vs : List Nat) : TE := fun σ H Q => wi σ H fun J H1 => ∀ D, H1 D = none → ∃ W : Nat → Nat → Hp → Prop, (∃ m, W 0 m (upd H1 D (.dT []))) ∧
  ∀ i m G, W i m G → (J.stop i G ∧ Q (.ref D) G) ∨ (J.go i G ∧ ∃ Nx : Hp → Prop, (∀ G2, Nx G2 → ∃ m2, m2 < m ∧ W (i + 1) m2 G2) ∧ ∀ x G2, J.yld i G x G2 → dctTurn D g tt tk tv vs σ Nx x G2)
abbrev InBlk (X : Cx) (scope : Scope) (F : Cx → Prop) : Prop := ∀ (s : Shared) (H : Hp) (C : Addr) (cl : List (Str × Addr)) (fp : List Addr), F (X.blk s H scope (compEnvC scope cl C X.env) fp)
theorem pe_dct {kx vx tg iter : Expr} {ifs : List Expr} {scope : Scope} {own : List (Str × Nat)} {pos : Pos} {wi : TI} {g : TG} {tt : TT} {tk tv : TE} (calm : X.calm = true) (nd : X.N.Nodup) (hu : X.A.units < cLine)
    (walk : PI X tg iter wi) (ok : BlkOk X.N X.env.scope scope own) (bg : InBlk X scope fun Y => PG Y tg g) (bt : InBlk X scope fun Y => PTs Y ifs tt) (bk : InBlk X scope fun Y => PE Y kx tk) (bv : InBlk X scope fun Y => PE Y vx tv)
    (plain : ∀ x, foldedSetIterable iter X.env x = pure x := by intro _; rfl) : PE X (.DictComp kx vx [⟨tg, iter, ifs, 0⟩] scope pos) (tDct wi g tt tk tv (own.map (·.2))) := by
  refine ⟨fun ps s σ H Q I hyp => ?_⟩
  rw [arm_eval_DictComp]
  have clo := closure_ok (env := X.env) (scope := scope) fun y hy e => (ok.free y hy e).elim (fun k => I.ok.has _ (.inl k)) (fun k => I.ok.has _ (.inr k))
  refine wpAny_comprehension_free (use := none) rfl plain clo ok.kind (fun y hy e => (ok.uniq y hy).trans (congrArg some e)) (thn (walk.run ps s σ H _ I hyp) fun _ s1 got => thn got fun _ s2 more => ?_)
  obtain ⟨it, fp, tn, J, H2, rfl, I2, T, here, fpok, rest⟩ := more
  refine wpAny_newObj_type (newEnv_comp ?_)
  let D : Addr := s2.heap.objs.size
  have free : H2 D = none := I2.hok.fresh (Nat.le_refl _)
  obtain ⟨W, ⟨m0, start⟩, turn⟩ := rest D free
  let s3 : Shared := { s2 with heap := s2.heap.push { cls := .type "dict", data := .dict #[] } }
  have old : ∀ b o, s2.heap.get? b = some o → s3.heap.get? b = some o := fun b o e => Heap.get?_push_of_some _ e
  have I3 : Inv X ps σ (upd H2 D (.dT [])) s3 := I2.laid (t' := s2.toks) old (Nat.le_refl _) (dt_empty s2.heap I2.big)
  have small : ∀ b ∈ fp, b < s2.heap.objs.size := fun b hb => (T.obj _ _ here b hb).elim fun _ e => Heap.lt_size e.1
  have fp3 : ∀ b ∈ fp, FpOk X ps (upd H2 D (.dT [])) b ∧ b < s3.heap.objs.size := fun b hb =>
    ⟨⟨(upd_ne (Nat.ne_of_lt (small b hb))).trans (fpok b hb).1, (fpok b hb).2⟩, Nat.lt_of_lt_of_eq (Nat.lt_succ_of_lt (small b hb)) (Heap.size_push ..).symm⟩
  have here3 : tn 0 s3.heap := T.keep _ _ _ here fun b _ o e => old b o e
  have I4 := block_start I3 ok nd fp3
  generalize hH3 : upd H2 D (.dT []) = H3 at I3 I4 fp3 start
  generalize hC : s3.heap.objs.size = C at I4 ⊢
  generalize hce : compEnvC scope (cellsFrom (C + 1) scope.names (cloFrom X.env.cells scope.names [])) C X.env = ce at I4
  have locC : ce.locals = C := by rw [← hce]; rfl
  have at_ : ∀ F : Cx → Prop, InBlk X scope F → F (X.blk s3 H3 scope ce fp) := fun F hF => by rw [← hce]; exact hF ..
  have pg := at_ _ bg
  have pt := at_ _ bt
  have pk := at_ _ bk
  have pv := at_ _ bv
  let B : Cx := X.blk s3 H3 scope ce fp
  let s4 : Shared := { s3 with heap := pushCells (s3.heap.push { cls := .type "dict", data := .dict #[] }) scope.names }
  show codeAny _ _ (.compStart (.DictComp kx vx [⟨tg, iter, ifs, 0⟩] scope pos) 0 (.ref it) (.ref D) (compEnvC scope (cellsFrom (C + 1) scope.names (cloFrom X.env.cells scope.names [])) C X.env)) _ s4
  rw [hce]
  have here4 : tn 0 s4.heap := T.keep _ _ _ here3 fun b _ o e => pushCells_keeps _ _ _ _ (Heap.get?_push_of_some _ e)
  have away : ∀ {τ : St} {G : Hp} {t : Shared}, Inv B [] τ G t → (∀ b ∈ fp, G b = none) → ∀ b ∈ fp, FpOk B [] G b := fun {τ G t} J hn b hb =>
    ⟨hn b hb, (J.ok.exf b hb).1, J.ok.exfs b hb, .inl hb, fun x c e => (J.ok.exf b hb).2 x c e, fun p hp => nomatch (show p ∈ ([] : List (Addr × Obj)) ++ [] from hp)⟩
  let Iv : Nat → Shared → Prop := fun n t => ∃ i G, Inv B [] (wipe σ (own.map (·.2))) G t ∧ tn i t.heap ∧ (∀ b ∈ fp, G b = none) ∧ W i n G
  refine codeAny_compStart_dict ?loop (T.self X.A 0 _ _ _ here4 ?loop)
  refine compLoop_anyD Iv ?_ m0 ⟨0, H3, I4, here4, fun b hb => (fp3 b hb).1.1, start⟩
  rintro n t ⟨i, G, J, st, no, w⟩
  rcases turn i n G w with ⟨stop, fin⟩ | ⟨go, Nx, hNx, step⟩
  · -- the walk is over
    refine thnF (T.done B rfl rfl rfl calm i [] t _ G (fun _ _ => False) J (away J no) st stop) fun r t2 ⟨er, J2⟩ => ?_
    subst er
    have back : Inv X ps σ G t2 := I3.call' (ch := fp) J2.os J2.base J2.hok J2.bare fun b hb => ⟨(fp3 b hb).1.2.2.2.1, (fp3 b hb).1.2.1, (fp3 b hb).1.2.2.2.2.1, (fp3 b hb).1.2.2.2.2.2⟩
    have noC : G C = none := locC ▸ (show G ce.locals = none from J2.free)
    obtain ⟨m, hm, _⟩ := J2.loc
    have fo := I3.fpOk (Nat.le_of_eq hC) noC
    refine ⟨m, locC ▸ (show t2.heap.Ns ce.locals m from hm), fun h3 sb => ?_⟩
    obtain ⟨f0, f1, f2, f3, f4, f5⟩ := fo
    exact ⟨.ref D, G, back.turned (t' := t2.toks) (fun b o hb e => (sb.2 b hb).trans e) f0 f1 f3 f4 f5, rfl, fin⟩
  · refine thnF (T.item B rfl rfl rfl calm i [] t _ G (fun _ _ => False) J (away J no) st go) fun r t2 ⟨u, er, more⟩ => ?_
    subst er
    refine thnF more fun _ t3 ⟨x, G3, J3, rx, hy, st3, no3⟩ => ?_
    have J3p := J3.pinned (away J3 no3) (T.obj _ _ st3)
    refine thnF (pg.run _ t3 _ G3 x u _ J3p rx (step x G3 hy)) fun _ t4 ⟨τ, G4, J4, hw, q4⟩ => ?_
    refine thnF (pt.run _ t4 τ G4 _ J4 q4) fun b t5 ⟨G5, J5, q5⟩ => ?_
    have again : ∀ {t' : Shared} {G' : Hp}, Inv B ([] ++ pinsAt fp t3.heap) τ G' t' → Nx G' → ∃ m, m < n ∧ Iv m t' := fun {t' G'} J' nx => by
      obtain ⟨m2, lt, w2⟩ := hNx G' nx
      have kept : ∀ c ∈ fp, ∀ o, t3.heap.get? c = some o → t'.heap.get? c = some o ∧ G' c = none := fun c hc o e =>
        let z := J'.pin (c, o) (List.mem_append_right _ (List.mem_append_right _ (mem_pinsAt hc e)))
        ⟨z.1, z.2.1⟩
      have len : (wipe σ (own.map (·.2))).length = τ.length := by rw [← hw, wipe_length]
      exact ⟨m2, lt, i + 1, G', (J'.unpinned (pins := [])).weak len (fun j v e => (wipe_some (hw ▸ e)).1), T.keep _ _ _ st3 fun c hc o e => (kept c hc o e).1,
        fun c hc => (T.obj _ _ st3 c hc).elim fun o e => (kept c hc o e.1).2, w2⟩
    cases b with
    | false =>
      simp only [Bool.false_eq_true, if_false] at q5 ⊢
      exact again J5 q5
    | true =>
      simp only [if_true] at q5 ⊢
      refine thnF (pk.run _ t5 τ G5 _ J5 q5) fun kv t6 ⟨y, G6, J6, ry, q6⟩ => ?_
      refine thnF (pv.run _ t6 τ G6 _ J6 q6) fun vv t7 ⟨z, G7, J7, rz, es, k, c, ey, hc, hD, hl, nx⟩ => ?_
      subst ey
      obtain rfl : kv = Value.ref c := ry
      exact put_tup (X := B) hu J7 hc hD hl rz fun t8 J8 => again J8 nx
end
end L2
/-! y = {k: v for ..}, y a plain local: the value goes straight to its name -/
namespace L2
open PySem PySem.Spec PyProof.Rows
section
variable {X : Cx}
theorem sw_trueD {kx vx : Expr} {gs : List Comprehension} {scope : Scope} {pos py : Pos} {y : Str} {l : Nat} {env : Env} (hk : env.scope.kind = .function) (hy : env.scope.names.lookup y = some .local) (hl : (py.line == pos.line) = true)
    (ha : (scope.names.any fun (n, k) => n == y && (k == .local || k == .cell)) = false) : swapsWith (.DictComp kx vx gs scope pos) (some (.Name y py)) l env = pure true := by
  have e1 : env.kindOf y = some .local := hy
  have e2 : env.blockKind = .function := by unfold Env.blockKind; rw [hk]; rfl
  unfold swapsWith
  simp only [e1, e2, ha, hl, Expr.pos]
  rfl
theorem ps_setDc {i : Nat} {y : Str} {py : Pos} {kx vx tg iter : Expr} {ifs : List Expr} {scope : Scope} {own : List (Str × Nat)} {pos spos : Pos} {wi : TI} {g : TG} {tt : TT} {tk tv : TE} (calm : X.calm = true) (nd : X.N.Nodup) (at_ : X.N[i]? = some y) (loc : X.env.scope.names.lookup y = some .local)
    (sw : swapsWith (.DictComp kx vx [⟨tg, iter, ifs, 0⟩] scope pos) (some (.Name y py)) spos.line X.env = pure true) (walk : PI X tg iter wi) (ok : BlkOk X.N X.env.scope scope own)
    (bg : InBlk X scope fun Y => PG Y tg g) (bt : InBlk X scope fun Y => PTs Y ifs tt) (bk : InBlk X scope fun Y => PE Y kx tk) (bv : InBlk X scope fun Y => PE Y vx tv) (plain : ∀ x, foldedSetIterable iter X.env x = pure x := by intro _; rfl) :
    PS X (.Assign [.Name y py] (.DictComp kx vx [⟨tg, iter, ifs, 0⟩] scope pos) spos) (tAsg (tDc wi g tt tk tv (own.map (·.2))) (gName i)) := by
  refine ⟨fun ps s σ H D I hyp => ?_⟩
  rw [exec_Assign_Name_used _ _ _ _ sw]
  refine wpAny_bind (wpAny_standAt (wpAny_bind ?_))
  show wpAny _ X.A (do let _ ← comprehension (.DictComp kx vx [⟨tg, iter, ifs, 0⟩] scope pos) scope X.env (firstIterPos [⟨tg, iter, ifs, 0⟩] pos) newDict false (eval iter X.env) (some (assign (.Name y py) X.env))) _ _ s
  have hyp2 : tDc wi g tt tk tv (own.map (·.2)) σ H (fun x G => gName i x σ G D.nx) := hyp
  refine wpAny_bind (thn (dc_core (Qf := fun _ t => SP X ps D .next t) calm nd I walk ok bg bt bk bv plain hyp2 fun L C t m G J fin hn fo => ?_) fun _ t ht => wpAny_pure (wpAny_pure ht))
  show wpAny _ _ (assign (.Name y py) X.env (.ref L)) _ _ _
  refine wpAny_assign_Name (store_ok2 (v := V.ref L) J nd at_ (.inl loc) rfl (fun t2 J2 ⟨b, sb, hb⟩ => ?_) (.inr loc))
  obtain ⟨f0, f1, f2, f3, f4, f5⟩ := fo
  have away : C ≠ b := by
    rcases hb with z | z
    · exact z ▸ f1
    · exact fun e => f4 y b z e.symm
  exact ⟨m, hn.sameBut sb away, fun h3 sb3 => ⟨_, G, J2.turned (t' := t2.toks) (fun c o hc e => (sb3.2 c hc).trans e) f0 f1 f3 f4 f5, fin⟩⟩
end
end L2
/-! {k: v for .. in .. for .. in ..} -/
namespace L2
open PySem PySem.Spec PyProof.Rows
section
variable {prog : Program} {w : World} {A : Around} {R : Result → Shared → Prop} {s : Shared} {kx vx t0 i0 t1 i1 : Expr} {f0 f1 : List Expr} {sc : Scope} {pos : Pos} {it : Value} {D : Addr} {env : Env}
def testsOf (env : Env) (fs : List Expr) : Sem Bool := forIn fs true fun c r => if r = true then do let ok ← isTrue c env (eval c env); pure (ForInStep.yield ok) else pure (ForInStep.yield r)
theorem dcc_turn0 : compTurn (.DictComp kx vx [⟨t0, i0, f0, 0⟩, ⟨t1, i1, f1, 0⟩] sc pos) 0 it (.ref D) env = (do
    standAt i0.pos
    match ← pyNext it with
    | none => pure (.done .next)
    | some v =>
      letOwnedTupleGo t0 it v
      assign t0 env v
      let ok ← testsOf env f0
      if ok then
        let x ← eval i1 env
        standAt i1.pos
        let x ← foldedSetIterable i1 env x
        let _ ← runOwn (.compStart (.DictComp kx vx [⟨t0, i0, f0, 0⟩, ⟨t1, i1, f1, 0⟩] sc pos) 1 (← holding [x] (pyIter x)) (.ref D) env) env
      again (.compLoop (.DictComp kx vx [⟨t0, i0, f0, 0⟩, ⟨t1, i1, f1, 0⟩] sc pos) 0 it (.ref D) env)) := by rfl
theorem dcc_turn1 : compTurn (.DictComp kx vx [⟨t0, i0, f0, 0⟩, ⟨t1, i1, f1, 0⟩] sc pos) 1 it (.ref D) env = (do
    standAt i1.pos
    match ← pyNext it with
    | none => pure (.done .next)
    | some v =>
      letOwnedTupleGo t1 it v
      assign t1 env v
      let ok ← testsOf env f1
      if ok then
        (do
          let kv ← eval kx env
          let vv ← holding [kv] (eval vx env)
          standAt { kx.pos with endLine := vx.pos.endLine, endCol := vx.pos.endCol }
          holding [kv, vv] (dictSet D kv vv))
      again (.compLoop (.DictComp kx vx [⟨t0, i0, f0, 0⟩, ⟨t1, i1, f1, 0⟩] sc pos) 1 it (.ref D) env)) := by rfl
def noX : Value → Shared → Prop := fun _ _ => False
theorem dcc_out (hs : ∀ x, foldedSetIterable i1 env x = pure x) (I : Nat → Shared → Prop)
    (turn : ∀ n s, I n s → wpAny (model prog w) A (pyNext it) (fun r s1 => match r with
      | none => R (.ok .next) s1
      | some v => wpAny (model prog w) A (letOwnedTupleGo t0 it v) (fun _ s2 => wpAny (model prog w) A (assign t0 env v) (fun _ s3 => wpAny (model prog w) A (testsOf env f0) (fun ok s4 =>
          if ok = true then wpAny (model prog w) A (eval i1 env) (fun x s5 => wpAny (model prog w) A (pyIter x) (fun j s6 =>
            codeAny (model prog w) A (.compStart (.DictComp kx vx [⟨t0, i0, f0, 0⟩, ⟨t1, i1, f1, 0⟩] sc pos) 1 j (.ref D) env) (fun r s7 => match r with | .ok _ => ∃ m, m < n ∧ I m s7 | .error _ => False) s6) noX s5) noX s4
          else ∃ m, m < n ∧ I m s4) noX s3) noX s2) noX s1) noX s)
    (n : Nat) (h : I n s) : codeAny (model prog w) A (.compLoop (.DictComp kx vx [⟨t0, i0, f0, 0⟩, ⟨t1, i1, f1, 0⟩] sc pos) 0 it (.ref D) env) R s := by
  refine codeAny_loop rfl I (fun n s hI => ?_) n h
  show wpAny _ A ((compTurn (.DictComp kx vx [⟨t0, i0, f0, 0⟩, ⟨t1, i1, f1, 0⟩] sc pos) 0 it (.ref D) env).onRaise (fun x => do noteFrame x env; theTreesLotGoes x)) _ _ s
  refine wpAny_noted ?_
  rw [dcc_turn0]
  refine wpAny_bind (wpAny_standAt (wpAny_bind (thnF (turn n s hI) fun r s1 h1 => ?_)))
  cases r with
  | none => exact wpAny_pure h1
  | some v =>
    refine wpAny_bind (thnF h1 fun _ s2 h2 => wpAny_bind (thnF h2 fun _ s3 h3 => wpAny_bind (thnF h3 fun ok s4 h4 => ?_)))
    cases ok with
    | false => exact wpAny_pure ⟨rfl, h4⟩
    | true =>
      refine wpAny_bind (thnF h4 fun x s5 h5 => wpAny_bind (wpAny_standAt (wpAny_bind (wpAny_of_eq (hs x) (wpAny_bind (wpAny_holding (thnF h5 fun j s6 h6 => ?_)))))))
      refine wpAny_bind (wpAny_runOwn ?_)
      rw [Around.mark_none]
      refine codeAny_mono h6 fun r s7 h7 => ?_
      cases r with
      | ok f =>
        first
          | exact wpAny_pure ⟨rfl, h7⟩
          | exact wpAny_bind (wpAny_pure (wpAny_pure ⟨rfl, h7⟩))
      | error e => exact h7.elim
theorem dcc_in (I : Nat → Shared → Prop)
    (turn : ∀ n s, I n s → wpAny (model prog w) A (pyNext it) (fun r s1 => match r with
      | none => R (.ok .next) s1
      | some v => wpAny (model prog w) A (letOwnedTupleGo t1 it v) (fun _ s2 => wpAny (model prog w) A (assign t1 env v) (fun _ s3 => wpAny (model prog w) A (testsOf env f1) (fun ok s4 =>
          if ok = true then wpAny (model prog w) A (eval kx env) (fun kv s5 => wpAny (model prog w) A (eval vx env) (fun vv s6 => wpAny (model prog w) A (dictSet D kv vv) (fun _ s7 => ∃ m, m < n ∧ I m s7) noX s6) noX s5) noX s4
          else ∃ m, m < n ∧ I m s4) noX s3) noX s2) noX s1) noX s)
    (n : Nat) (h : I n s) : codeAny (model prog w) A (.compLoop (.DictComp kx vx [⟨t0, i0, f0, 0⟩, ⟨t1, i1, f1, 0⟩] sc pos) 1 it (.ref D) env) R s := by
  refine codeAny_loop rfl I (fun n s hI => ?_) n h
  show wpAny _ A ((compTurn (.DictComp kx vx [⟨t0, i0, f0, 0⟩, ⟨t1, i1, f1, 0⟩] sc pos) 1 it (.ref D) env).onRaise (fun x => do noteFrame x env; theTreesLotGoes x)) _ _ s
  refine wpAny_noted ?_
  rw [dcc_turn1]
  refine wpAny_bind (wpAny_standAt (wpAny_bind (thnF (turn n s hI) fun r s1 h1 => ?_)))
  cases r with
  | none => exact wpAny_pure h1
  | some v =>
    refine wpAny_bind (thnF h1 fun _ s2 h2 => wpAny_bind (thnF h2 fun _ s3 h3 => wpAny_bind (thnF h3 fun ok s4 h4 => ?_)))
    cases ok with
    | false => exact wpAny_pure ⟨rfl, h4⟩
    | true =>
      exact wpAny_bind (wpAny_bind (thnF h4 fun kv s5 h5 => wpAny_bind (wpAny_holding (thnF h5 fun vv s6 h6 => wpAny_bind (wpAny_standAt (wpAny_holding (thnF h6 fun _ s7 h7 => wpAny_pure ⟨rfl, h7⟩)))))))
theorem dcc_start (h0 : codeAny (model prog w) A (.compLoop (.DictComp kx vx [⟨t0, i0, f0, 0⟩, ⟨t1, i1, f1, 0⟩] sc pos) 1 it (.ref D) env) R s)
    (h : wpAny (model prog w) A (pyIter it) (fun j s1 => codeAny (model prog w) A (.compLoop (.DictComp kx vx [⟨t0, i0, f0, 0⟩, ⟨t1, i1, f1, 0⟩] sc pos) 1 j (.ref D) env) R s1) (notedBy (model prog w) A env fun x s1 => R (.error x) s1) s) :
    codeAny (model prog w) A (.compStart (.DictComp kx vx [⟨t0, i0, f0, 0⟩, ⟨t1, i1, f1, 0⟩] sc pos) 1 it (.ref D) env) R s := by
  refine codeAny_of_tree ?_
  show wpAny _ _ ((compStart (.DictComp kx vx [⟨t0, i0, f0, 0⟩, ⟨t1, i1, f1, 0⟩] sc pos) 1 it (.ref D) env).onRaise (fun x => do noteFrame x env; standAt theWindowsPlace)) _ _ s
  refine wpAny_notedAt ?_
  unfold compStart
  show wpAny _ _ (ask >>= _) _ _ s
  refine wpAny_bind (wpAny_askSetting (wpAny_ite ?_))
  split
  · first
      | exact wpAny_bind (wpAny_pure (wpAny_pure (And.intro rfl h0)))
      | exact wpAny_pure (And.intro rfl h0)
  · first
      | exact wpAny_bind (wpAny_rule (wpAny_bind (wpAny_standAt (wpAny_bind (wpAny_mono h (fun j s1 h1 => wpAny_pure (And.intro rfl h1)) fun _ _ x => x)))))
      | (refine wpAny_bind (wpAny_rule ?_); show wpAny _ _ (standAt i1.pos >>= _) _ _ s; exact wpAny_bind (wpAny_standAt (wpAny_bind (wpAny_mono h (fun j s1 h1 => wpAny_pure (And.intro rfl h1)) fun _ _ x => x))))
end
section
variable {X : Cx}
/-- behind the first clause's test the second's own walk, from whose end Nx is reached -/
def dcInner (D : Addr) (wi1 : TI) (g1 : TG) (tt1 : TT) (tk tv : TE) (vs1 : List Nat) (τ : St) (Nx : Hp → Prop) (G4 : Hp) : Prop := wi1 τ G4 fun J1 G5 => ∃ W1 : Nat → Nat → Hp → Prop, (∃ m, W1 0 m G5) ∧ ∀ j k G, W1 j k G →
  (J1.stop j G ∧ Nx G) ∨ (J1.go j G ∧ ∃ N1 : Hp → Prop, (∀ G2, N1 G2 → ∃ k2, k2 < k ∧ W1 (j + 1) k2 G2) ∧ ∀ y G6, J1.yld j G y G6 → g1 y (wipe τ vs1) G6 fun ρ G7 => wipe ρ vs1 = wipe τ vs1 ∧ tt1 ρ G7 fun b G8 =>
    if b = true then tk ρ G8 fun kk G9 => tv ρ G9 fun z G10 => ∃ kvs k, kk = kV k ∧ G10 D = some (.dK kvs) ∧ kvs.length < sizeLine ∧ N1 (upd G10 D (.dK (putK kvs k z))) else N1 G8)
def tDc2 (wi : TI) (g : TG) (tt : TT) (wi1 : TI) (g1 : TG) (tt1 : TT) (tk tv : TE) (vs vs1 : List Nat) : TE := fun σ H Q => wi σ H fun J H1 => ∀ D, H1 D = none → ∃ W : Nat → Nat → Hp → Prop, (∃ m, W 0 m (upd H1 D (.dK []))) ∧ ∀ i m G, W i m G →
  (J.stop i G ∧ Q (.ref D) G) ∨ (J.go i G ∧ ∃ Nx : Hp → Prop, (∀ G2, Nx G2 → ∃ m2, m2 < m ∧ W (i + 1) m2 G2) ∧ ∀ x G2, J.yld i G x G2 → g x (wipe σ vs) G2 fun τ G3 => wipe τ vs = wipe σ vs ∧ tt τ G3 fun b G4 =>
    if b = true then dcInner D wi1 g1 tt1 tk tv vs1 τ Nx G4 else Nx G4)
abbrev InB (X : Cx) (scope : Scope) (F : Cx → Prop) : Prop := ∀ (s : Shared) (H : Hp) (C : Addr) (cl : List (Str × Addr)) (fp : List Addr), F (X.blk s H scope (compEnvC scope cl C X.env) fp)
theorem pe_dc2 {kx vx tg iter tg1 iter1 : Expr} {ifs ifs1 : List Expr} {scope : Scope} {own : List (Str × Nat)} {vs1 : List Nat} {pos : Pos} {wi wi1 : TI} {g g1 : TG} {tt tt1 : TT} {tk tv : TE} (calm : X.calm = true) (nd : X.N.Nodup)
    (walk : PI X tg iter wi) (ok : BlkOk X.N X.env.scope scope own) (hv : ∀ i ∈ vs1, i ∈ own.map (·.2)) (bg : InB X scope fun Y => PG Y tg g) (bt : InB X scope fun Y => PTs Y ifs tt)
    (bw : InB X scope fun Y => PI Y tg1 iter1 wi1) (bg1 : InB X scope fun Y => PG Y tg1 g1) (bt1 : InB X scope fun Y => PTs Y ifs1 tt1) (bk : InB X scope fun Y => PE Y kx tk) (bv : InB X scope fun Y => PE Y vx tv)
    (plain : ∀ x, foldedSetIterable iter X.env x = pure x := by intro _; rfl) (plain1 : ∀ env x, foldedSetIterable iter1 env x = pure x := by intro _ _; rfl) :
    PE X (.DictComp kx vx [⟨tg, iter, ifs, 0⟩, ⟨tg1, iter1, ifs1, 0⟩] scope pos) (tDc2 wi g tt wi1 g1 tt1 tk tv (own.map (·.2)) vs1) := by
  refine ⟨fun ps s σ H Q I hyp => ?_⟩
  rw [arm_eval_DictComp]
  have clo := closure_ok (env := X.env) (scope := scope) fun y hy e => (ok.free y hy e).elim (fun k => I.ok.has _ (.inl k)) (fun k => I.ok.has _ (.inr k))
  refine wpAny_comprehension_free (use := none) rfl plain clo ok.kind (fun y hy e => (ok.uniq y hy).trans (congrArg some e)) (thn (walk.run ps s σ H _ I hyp) fun _ s1 got => thn got fun _ s2 more => ?_)
  obtain ⟨it, fp, tn, J, H2, rfl, I2, T, here, fpok, rest⟩ := more
  refine wpAny_newObj_type (newEnv_comp ?_)
  let D : Addr := s2.heap.objs.size
  have free : H2 D = none := I2.hok.fresh (Nat.le_refl _)
  obtain ⟨W, ⟨m0, start⟩, turn⟩ := rest D free
  let s3 : Shared := { s2 with heap := s2.heap.push { cls := .type "dict", data := .dict #[] } }
  have old : ∀ b o, s2.heap.get? b = some o → s3.heap.get? b = some o := fun b o e => Heap.get?_push_of_some _ e
  have I3 : Inv X ps σ (upd H2 D (.dK [])) s3 := I2.laid (t' := s2.toks) old (Nat.le_refl _) (dk_empty s2.heap I2.big)
  have small : ∀ b ∈ fp, b < s2.heap.objs.size := fun b hb => (T.obj _ _ here b hb).elim fun _ e => Heap.lt_size e.1
  have fp3 : ∀ b ∈ fp, FpOk X ps (upd H2 D (.dK [])) b ∧ b < s3.heap.objs.size := fun b hb =>
    ⟨⟨(upd_ne (Nat.ne_of_lt (small b hb))).trans (fpok b hb).1, (fpok b hb).2⟩, Nat.lt_of_lt_of_eq (Nat.lt_succ_of_lt (small b hb)) (Heap.size_push ..).symm⟩
  have here3 : tn 0 s3.heap := T.keep _ _ _ here fun b _ o e => old b o e
  have I4 := block_start I3 ok nd fp3
  generalize hH3 : upd H2 D (.dK []) = H3 at I3 I4 fp3 start
  generalize hC : s3.heap.objs.size = C at I4 ⊢
  generalize hce : compEnvC scope (cellsFrom (C + 1) scope.names (cloFrom X.env.cells scope.names [])) C X.env = ce at I4
  have locC : ce.locals = C := by rw [← hce]; rfl
  have at_ : ∀ F : Cx → Prop, InB X scope F → F (X.blk s3 H3 scope ce fp) := fun F hF => by rw [← hce]; exact hF ..
  have pg := at_ _ bg
  have pt := at_ _ bt
  have pw := at_ _ bw
  have pg1 := at_ _ bg1
  have pt1 := at_ _ bt1
  have pk := at_ _ bk
  have pv := at_ _ bv
  let B : Cx := X.blk s3 H3 scope ce fp
  let s4 : Shared := { s3 with heap := pushCells (s3.heap.push { cls := .type "dict", data := .dict #[] }) scope.names }
  show codeAny _ _ (.compStart (.DictComp kx vx [⟨tg, iter, ifs, 0⟩, ⟨tg1, iter1, ifs1, 0⟩] scope pos) 0 (.ref it) (.ref D) (compEnvC scope (cellsFrom (C + 1) scope.names (cloFrom X.env.cells scope.names [])) C X.env)) _ s4
  rw [hce]
  have here4 : tn 0 s4.heap := T.keep _ _ _ here3 fun b _ o e => pushCells_keeps _ _ _ _ (Heap.get?_push_of_some _ e)
  have away : ∀ {τ : St} {G : Hp} {t : Shared}, Inv B [] τ G t → (∀ b ∈ fp, G b = none) → ∀ b ∈ fp, FpOk B [] G b := fun {τ G t} J hn b hb =>
    ⟨hn b hb, (J.ok.exf b hb).1, J.ok.exfs b hb, .inl hb, fun x c e => (J.ok.exf b hb).2 x c e, fun p hp => nomatch (show p ∈ ([] : List (Addr × Obj)) ++ [] from hp)⟩
  let Iv : Nat → Shared → Prop := fun n t => ∃ i G, Inv B [] (wipe σ (own.map (·.2))) G t ∧ tn i t.heap ∧ (∀ b ∈ fp, G b = none) ∧ W i n G
  refine codeAny_compStart_dict ?loop (T.self X.A 0 _ _ _ here4 ?loop)
  refine dcc_out (plain1 ce) Iv ?_ m0 ⟨0, H3, I4, here4, fun b hb => (fp3 b hb).1.1, start⟩
  rintro n t ⟨i, G, J, st, no, w⟩
  rcases turn i n G w with ⟨stop, fin⟩ | ⟨go, Nx, hNx, step⟩
  · refine thnF (T.done B rfl rfl rfl calm i [] t _ G (fun _ _ => False) J (away J no) st stop) fun r t2 ⟨er, J2⟩ => ?_
    subst er
    have back : Inv X ps σ G t2 := I3.call' (ch := fp) J2.os J2.base J2.hok J2.bare fun b hb => ⟨(fp3 b hb).1.2.2.2.1, (fp3 b hb).1.2.1, (fp3 b hb).1.2.2.2.2.1, (fp3 b hb).1.2.2.2.2.2⟩
    have noC : G C = none := locC ▸ (show G ce.locals = none from J2.free)
    obtain ⟨m, hm, _⟩ := J2.loc
    have fo := I3.fpOk (Nat.le_of_eq hC) noC
    refine ⟨m, locC ▸ (show t2.heap.Ns ce.locals m from hm), fun h3 sb => ?_⟩
    obtain ⟨f0, f1, f2, f3, f4, f5⟩ := fo
    exact ⟨.ref D, G, back.turned (t' := t2.toks) (fun b o hb e => (sb.2 b hb).trans e) f0 f1 f3 f4 f5, rfl, fin⟩
  · refine thnF (T.item B rfl rfl rfl calm i [] t _ G (fun _ _ => False) J (away J no) st go) fun r t2 ⟨u, er, more⟩ => ?_
    subst er
    refine thnF more fun _ t3 ⟨x, G3, J3, rx, hy, st3, no3⟩ => ?_
    have J3p := J3.pinned (away J3 no3) (T.obj _ _ st3)
    refine thnF (pg.run _ t3 _ G3 x u _ J3p rx (step x G3 hy)) fun _ t4 ⟨τ, G4, J4, hw, q4⟩ => ?_
    refine thnF (pt.run _ t4 τ G4 _ J4 q4) fun b t5 ⟨G5, J5, q5⟩ => ?_
    have len : (wipe σ (own.map (·.2))).length = τ.length := by rw [← hw, wipe_length]
    -- from any slots that hold what the block knew
    have again : ∀ {t' : Shared} {G' : Hp} {ρ : St}, Inv B ([] ++ pinsAt fp t3.heap) ρ G' t' → (wipe σ (own.map (·.2))).length = ρ.length → (∀ (j : Nat) v, (wipe σ (own.map (·.2)))[j]? = some (some v) → ρ[j]? = some (some v)) → Nx G' → ∃ m, m < n ∧ Iv m t' := fun {t' G' ρ} J' hl hk nx => by
      obtain ⟨m2, lt, w2⟩ := hNx G' nx
      have kept : ∀ c ∈ fp, ∀ o, t3.heap.get? c = some o → t'.heap.get? c = some o ∧ G' c = none := fun c hc o e =>
        let z := J'.pin (c, o) (List.mem_append_right _ (List.mem_append_right _ (mem_pinsAt hc e)))
        ⟨z.1, z.2.1⟩
      exact ⟨m2, lt, i + 1, G', (J'.unpinned (pins := [])).weak hl hk, T.keep _ _ _ st3 fun c hc o e => (kept c hc o e).1,
        fun c hc => (T.obj _ _ st3 c hc).elim fun o e => (kept c hc o e.1).2, w2⟩
    have kτ : ∀ (j : Nat) v, (wipe σ (own.map (·.2)))[j]? = some (some v) → τ[j]? = some (some v) := fun j v e => (wipe_some (hw ▸ e)).1
    have kρ : ∀ (j : Nat) v, (wipe σ (own.map (·.2)))[j]? = some (some v) → (wipe τ vs1)[j]? = some (some v) := fun j v e => by
      rw [← hw] at e
      obtain ⟨e1, e2⟩ := wipe_some e
      rw [wipe_out fun z => e2 (hv j z)]; exact e1
    cases b with
    | false =>
      simp only [Bool.false_eq_true, if_false] at q5 ⊢
      exact again J5 len kτ q5
    | true =>
      simp only [if_true] at q5 ⊢
      refine thnF (pw.run _ t5 τ G5 _ J5 q5) fun _ t6 got1 => thnF got1 fun _ t7 more1 => ?_
      obtain ⟨it1, fp1, tn1, L1, G7, rfl, J7, T1, here7, fpok7, W1, ⟨m1, start1⟩, turn1⟩ := more1
      have away1 : ∀ {G' : Hp}, (∀ b ∈ fp1, G' b = none) → ∀ b ∈ fp1, FpOk B ([] ++ pinsAt fp t3.heap) G' b := fun hn b hb => ⟨hn b hb, (fpok7 b hb).2⟩
      let Iw : Nat → Shared → Prop := fun k t' => ∃ j G', Inv B ([] ++ pinsAt fp t3.heap) (wipe τ vs1) G' t' ∧ tn1 j t'.heap ∧ (∀ b ∈ fp1, G' b = none) ∧ W1 j k G'
      have inner : codeAny (model X.prog X.w) X.A (.compLoop (.DictComp kx vx [⟨tg, iter, ifs, 0⟩, ⟨tg1, iter1, ifs1, 0⟩] scope pos) 1 (.ref it1) (.ref D) ce)
          (fun r t' => match r with | .ok _ => ∃ m, m < n ∧ Iv m t' | .error _ => False) t7 := by
        refine dcc_in Iw ?_ m1 ⟨0, G7, J7.weak (wipe_length _ _) (fun j v e => (wipe_some e).1), here7, fun b hb => (fpok7 b hb).1, start1⟩
        rintro k t8 ⟨j, G8, J8, st8, no8, w8⟩
        rcases turn1 j k G8 w8 with ⟨stop1, nx⟩ | ⟨go1, N1, hN1, step1⟩
        · refine thnF (T1.done B rfl rfl rfl calm j _ t8 (wipe τ vs1) G8 (fun _ _ => False) J8 (away1 no8) st8 stop1) fun r t9 ⟨er, J9⟩ => ?_
          subst er
          exact again J9 (len.trans (wipe_length τ vs1).symm) kρ nx
        · refine thnF (T1.item B rfl rfl rfl calm j _ t8 (wipe τ vs1) G8 (fun _ _ => False) J8 (away1 no8) st8 go1) fun r t9 ⟨u1, er, more9⟩ => ?_
          subst er
          refine thnF more9 fun _ t10 ⟨x1, G10, J10, r10, y10, st10, no10⟩ => ?_
          have J10p := J10.pinned (away1 no10) (T1.obj _ _ st10)
          refine thnF (pg1.run _ t10 (wipe τ vs1) G10 x1 u1 _ J10p r10 (step1 x1 G10 y10)) fun _ t11 ⟨ρ, G11, J11, hwr, q11⟩ => ?_
          refine thnF (pt1.run _ t11 ρ G11 _ J11 q11) fun b1 t12 ⟨G12, J12, q12⟩ => ?_
          have again1 : ∀ {t' : Shared} {G' : Hp}, Inv B (([] ++ pinsAt fp t3.heap) ++ pinsAt fp1 t10.heap) ρ G' t' → N1 G' → ∃ m, m < k ∧ Iw m t' := fun {t' G'} J' nx => by
            obtain ⟨m2, lt, w2⟩ := hN1 G' nx
            have kept : ∀ c ∈ fp1, ∀ o, t10.heap.get? c = some o → t'.heap.get? c = some o ∧ G' c = none := fun c hc o e =>
              let z := J'.pin (c, o) (List.mem_append_right _ (List.mem_append_right _ (mem_pinsAt hc e)))
              ⟨z.1, z.2.1⟩
            exact ⟨m2, lt, j + 1, G', J'.unpinned.weak (by rw [← hwr, wipe_length]) (fun j v e => (wipe_some (hwr ▸ e)).1), T1.keep _ _ _ st10 fun c hc o e => (kept c hc o e).1,
              fun c hc => (T1.obj _ _ st10 c hc).elim fun o e => (kept c hc o e.1).2, w2⟩
          cases b1 with
          | false =>
            simp only [Bool.false_eq_true, if_false] at q12 ⊢
            exact again1 J12 q12
          | true =>
            simp only [if_true] at q12 ⊢
            refine thnF (pk.run _ t12 ρ G12 _ J12 q12) fun kv t13 ⟨y, G13, J13, ry, q13⟩ => ?_
            refine thnF (pv.run _ t13 ρ G13 _ J13 q13) fun vv t14 ⟨z, G14, J14, rz, es, c, ey, hD, hl, nx⟩ => ?_
            subst ey
            exact d_dictSet (X := B) J14 hD hl ry rz fun t15 J15 => again1 J15 nx
      exact dcc_start inner (T1.self X.A 0 _ _ _ here7 inner)
end
end L2
/-! d.update(e), two dicts whose keys are ints and texts -/
namespace L2
open PySem PySem.Spec PyProof.Rows
def putA (ks ms : List (Key × V)) : List (Key × V) := ms.foldl (fun a p => putK a p.1 p.2) ks
theorem putA_len : ∀ (ms ks : List (Key × V)), (putA ks ms).length ≤ ks.length + ms.length
  | [], ks => Nat.le_refl _
  | p :: ms, ks => by
    have h := putA_len ms (putK ks p.1 p.2)
    have h2 := length_putK ks p.1 p.2
    rw [List.length_cons]
    show (putA (putK ks p.1 p.2) ms).length ≤ _
    omega
theorem putA_has : ∀ (ms ks : List (Key × V)) (k : Key), (valV (putA ks ms) k).isSome = ((valV ks k).isSome || ms.any fun p => decide (p.1 = k))
  | [], ks, k => by simp [putA]
  | p :: ms, ks, k => by
    show (valV (putA (putK ks p.1 p.2) ms) k).isSome = _
    rw [putA_has ms, valV_put]
    by_cases e : k = p.1
    · rw [if_pos e, List.any_cons, decide_eq_true e.symm]; simp
    · rw [if_neg e, List.any_cons, decide_eq_false fun z => e z.symm]; simp
theorem kv_all {ks : List (Key × V)} {vs : List (Key × Value)} (r : KV ks vs) : ∀ {ms : List (Key × V)} {us : List (Key × Value)}, KV ms us → KV (putA ks ms) (merged vs us) := by
  intro ms us q
  induction q generalizing ks vs with
  | nil => exact r
  | cons hp _ ih =>
    rename_i p q ps qs _
    obtain ⟨h1, h2⟩ := hp
    have := ih (ks := putK ks p.1 p.2) (vs := stored vs q.1 q.2) (by rw [← h1]; exact r.put p.1 h2)
    exact this
def rDUpd : V → List V → Hp → VK → Prop := fun x xs H Q => ∃ (a b : Addr) (ks ms : List (Key × V)), x = .ref a ∧ xs = [.ref b] ∧ H a = some (.dK ks) ∧ H b = some (.dK ms) ∧ ks.length + ms.length ≤ sizeLine ∧ a ≠ b ∧ Q .non (upd H a (.dK (putA ks ms)))
theorem mt_update {X : Cx} : MtR X "dict.update" rDUpd := by
  intro pins s σ H x xs v us Q I rx rxs h
  obtain ⟨a, b, ks, ms, ex, ev, ha, hb, hz, hne, q⟩ := h
  subst ex
  subst ev
  obtain rfl : v = Value.ref a := rx
  cases rxs with
  | cons ry rt =>
    rename_i uy ut
    cases rt
    obtain rfl : uy = Value.ref b := ry
    obtain ⟨z, hd, vs, rel, dd⟩ := dk_of I.hok ha
    obtain ⟨z2, hd2, vs2, rel2, dd2⟩ := dk_of I.hok hb
    refine call_meetsIn PySem.F.slot_dict_update dd.typeIs PySem.F.entry_dict_update (PySem.F.args_dict_update_2 _ _) (meets_dict_update (mixKind X.prog X.w) a b hne hd2)
      ⟨vs, vs2, dd, dd2, by rw [← rel.length, ← rel2.length]; exact hz, fun h' dd' _ hs => ⟨.non, _, ?_, rfl, q⟩⟩
    have he : ∃ q, h'.get? a = some q := let ⟨q, _, _, hq, _⟩ := dd'; ⟨q, hq⟩
    exact d_write (t' := s.toks) I (by rw [ha]; exact True.intro) hs he (dk_new (Nat.le_trans (putA_len ms ks) hz) hd (kv_all rel rel2) dd')
end L2
namespace G
open PySem PySem.Spec PyProof.Rows L2
/-! ## max(xs, default=d) of whole numbers -/
theorem reads_ints {h : Heap} : ∀ {its : List Value} {ns : List Int}, IntsAre its ns → ReadsAll h its (ns.map PyData.int) []
  | _, _, .nil => .nil
  | _, _, .cons n t r => ReadsAll.cons (as := []) (bs := []) (.int n t) (reads_ints r)
theorem depth_ints : ∀ ns : List Int, PyData.depthAll (ns.map PyData.int) ≤ 5
  | [] => by simp [PyData.depthAll]
  | n :: r => by
    have := depth_ints r
    simp only [List.map_cons, PyData.depthAll, PyData.depth]
    omega
def rMaxDf (K : PySem.W.Frag) : List V → List V → Hp → VK → Prop := fun xs zs H Q => ∃ (a : Addr) (ns : List Int) (d : Int), xs = [.ref a] ∧ zs = [.int d] ∧ SqL K H a (ns.map V.int) ∧ (ns = [] → Q (.int d) H) ∧ (∀ n r, ns = n :: r → Q (.int (r.foldl max n)) H)
theorem cr_maxDf {X : Cx} (hc : X.calm = true) (hr : X.A.units + 200 < cLine) : CallRK X (.builtin "max") ["default"] (rMaxDf X.K) := by
  intro pins s σ H xs zs us ws Q I r rz h
  obtain ⟨a, ns, d, rfl, rfl, hs, q0, q1⟩ := h
  obtain ⟨its, rv, hl, _⟩ := I.list hs
  rw [Vals.ref1 r]
  obtain ⟨u, rfl, t, rfl⟩ := vals1 rz
  refine PySem.W.max_list_default (xs := ns.map PyData.int) (as := []) (I.ok.hd hc) hl.isList (reads_ints rv.ints) ?_ ?_ (fun h0 h' tk k => ?_) (fun y ys i v h' tk bs hxs hv hrd k => ?_)
  · refine ⟨fun x hx y hy => ?_, fun x hx => ?_⟩
    · obtain ⟨i, _, rfl⟩ := List.mem_map.mp hx
      obtain ⟨j, _, rfl⟩ := List.mem_map.mp hy
      rfl
    · obtain ⟨i, _, rfl⟩ := List.mem_map.mp hx
      exact fun z => by cases z
  · have := depth_ints ns
    omega
  · exact ⟨.int d, H, I.kept (t' := tk) k, ⟨_, rfl⟩, q0 (List.map_eq_nil_iff.mp h0)⟩
  · cases ns with
    | nil => cases hxs
    | cons n r =>
      rw [List.map_cons] at hxs
      injection hxs with e1 e2
      subst e1 e2
      rw [PySem.W.maxD_ints] at hrd
      cases hrd with
      | int i t => exact ⟨.int _, H, I.kept (t' := tk) k, ⟨_, rfl⟩, q1 n r rfl⟩
end G
namespace XS
open PySem PySem.Spec PyProof.Rows L2 PySem.Froz
/-! sets of texts: set(xs), len, in, sorted, add -/
structure TxAt (P : Program) (w : World) (h : Heap) (a : Addr) (l : List Str) : Prop where
  ex : ∃ D : SD, h.get? a = some (sObj "set" D) ∧ TxOk P w D l ∧ Ris D.2.2.place.toList ∧ (w.params.followText "set-order" = true ∨ D.2.2.led = true)
  one : l.Nodup
  few : l.length < 4000
theorem tail_ris {ep : Nat} {es : Array (Int × Value)} {t : SetTable} {d : Bool} (r : Ris t.place.toList) : Ris (tailTx ep es t d).2.2.place.toList ∧ (tailTx ep es t d).2.2.led = t.led := by
  unfold tailTx
  split
  · exact ⟨relayAll_ris _ _ _, relayAll_led _ _ _⟩
  · exact ⟨r, rfl⟩
theorem add_ris {D : SD} {h : Int} {v : Value} (r : Ris D.2.2.place.toList) : Ris (addTx h v D).2.2.place.toList ∧ (addTx h v D).2.2.led = D.2.2.led := by
  have r1 := layNew_ris D.2.2 D.1 h v r
  have e1 := layNew_led D.2.2 D.1 h v
  unfold addTx
  refine (fun z => ⟨(tail_ris z.1).1, (tail_ris z.1).2.trans z.2⟩) (?_ : Ris (SetTable.place _).toList ∧ SetTable.led _ = D.2.2.led)
  split
  · exact ⟨r1, e1⟩
  · exact ⟨r1, e1⟩
section
variable {P : Program} {w : World} {A : Around} {E : Value → Shared → Prop} {s : Shared} {a : Addr} {l : List Str}
theorem TxAt.at {h h' : Heap} (R : TxAt P w h a l) (k : ∀ o, h.get? a = some o → h'.get? a = some o) : TxAt P w h' a l := by
  obtain ⟨⟨D, ho, r⟩, x, y⟩ := R
  exact ⟨⟨D, k _ ho, r⟩, x, y⟩
theorem TxAt.setOf {h : Heap} (R : TxAt P w h a l) : h.SetOf (strKind P w) a (fun k => decide (k ∈ l)) l.length := by
  obtain ⟨⟨D, ho, F, _⟩, _, f⟩ := R
  exact ⟨_, D.1, D.2.1, D.2.2, ho, ⟨rfl, rfl, rfl⟩, rfl, F.el, (fun k => by rw [decide_eq_true_eq]; exact F.mem k), by rw [F.sz]; unfold scanBound; omega, F.fit, F.sz⟩
/-- a member added -/
theorem add_at {k : Str} {u : Tok} {Q : Bool → Shared → Prop} (R : TxAt P w s.heap a l) (hb : l.length + 1 < 4000)
    (hQ : ∀ h' l' b, Heap.SameBut a s.heap h' → TxAt P w h' a l' → (k ∈ l ∧ l' = l ∨ k ∉ l ∧ l' = k :: l) → Q b { s with heap := h' }) : wpAny (model P w) A (setAddHashed a (.str k u) (hashStr w k)) Q E s := by
  by_cases hk : k ∈ l
  · have R' := R
    obtain ⟨⟨D, ho, F, hr, hl⟩, ho1, hf1⟩ := R
    obtain ⟨es, ep, t⟩ := D
    have hs : es.size = l.length := F.sz
    have hel : ElemsOf (strKind P w) es.toList := F.el
    have hd : (sObj "set" (es, ep, t)).data = .set es ep t := rfl
    unfold setAddHashed setAddHashedIn
    refine wpAny_holding (wpAny_bind (wpAny_setState_of ho hd F.fit ?_))
    dsimp only
    rw [byScan_of rfl (by rw [hs]; unfold scanBound; omega) hel]
    simp only [↓reduceIte]
    unfold setAddByScan
    refine wpAny_bind (wpAny_bind (wpAny_rule (wpAny_bind (wpAny_setScan_of (knd := strKind P w) (k := k) (is_str k u) ho hd F.fit hel ?_))))
    cases hfi : List.findIdx? (fun e => (strKind P w).is k e.2) es.toList with
    | none =>
      obtain ⟨e, he, q⟩ := (F.mem k).mp hk
      have c := List.findIdx?_eq_none_iff.mp hfi e he
      rw [q] at c
      cases c
    | some j =>
      dsimp only
      exact wpAny_pure (wpAny_pure (hQ s.heap l _ (Heap.SameBut.refl a s.heap) R' (.inl ⟨hk, rfl⟩)))
  · obtain ⟨⟨D, ho, F, hr, hl⟩, ho1, hf1⟩ := R
    refine add_x (u := u) ho F hk (by unfold scanBound; omega) (hQ _ (k :: l) _ ⟨Heap.size_update _ _ _, fun b hb => Heap.get?_update_other _ _ (Ne.symm hb)⟩ ⟨⟨_, get_upd _ ho rfl, add_ok u F, (add_ris hr).1, hl.imp id fun z => (add_ris hr).2.trans z⟩, List.nodup_cons.mpr ⟨hk, ho1⟩, hb⟩ (.inr ⟨hk, rfl⟩))
/-- set.add -/
theorem add_call {k : Str} {u : Tok} {Q : Value → Shared → Prop} (R : TxAt P w s.heap a l) (hb : l.length + 1 < 4000)
    (hQ : ∀ h' l', Heap.SameBut a s.heap h' → TxAt P w h' a l' → (k ∈ l ∧ l' = l ∨ k ∉ l ∧ l' = k :: l) → Q .none { s with heap := h', toks := s.toks + 1 }) :
    wpAny (model P w) A (call (.builtin "set.add") [.ref a, .str k u]) Q E s := by
  refine wpAny_call_entry F.slot_set_add R.setOf.typeIs F.entry_set_add ?_ (F.args_set_add_2 _ _)
  unfold Builtin.«set.add» Builtin.Frozenset.oneOther
  simp only [List.isEmpty_nil, bind_assoc]
  unfold Builtin.Frozenset.addrOf setAdd
  refine wpAny_bind (wpAny_pure ?_)
  try dsimp only
  refine wpAny_bind (wpAny_pure ?_)
  try dsimp only
  refine wpAny_bind (wpAny_holding (wpAny_bind ((strKind P w).pyHash (strKind_is P w k u) ?_)))
  refine add_at (s := { s with toks := s.toks + 1 }) R hb fun h' l' b sb r z => ?_
  show wpAny _ _ (ret Value.none) _ _ _
  exact wpAny_pure ⟨_, rfl, hQ h' l' sb r z⟩
theorem tx_fresh {h : Heap} (ho : h.get? a = some { cls := .type "set", dict := none, data := .set #[] 0 (.fresh 0 0 (!w.params.followText "set-order")) }) : TxAt P w h a [] where
  ex := ⟨(#[], 0, .fresh 0 0 (!w.params.followText "set-order")), ho, TxOk.nil rfl, List.Pairwise.nil, by
    show _ ∨ (!w.params.followText "set-order") = true
    cases w.params.followText "set-order"
    · exact .inr rfl
    · exact .inl rfl⟩
  one := List.nodup_nil
  few := by show 0 < 4000; decide
/-- the first i of xs, each once -/
structure Part (xs : List Str) (i : Nat) (l : List Str) : Prop where
  mem : ∀ x, x ∈ l ↔ x ∈ xs.take i
  len : l.length ≤ i
theorem Part.next {xs : List Str} {i : Nat} {l l' : List Str} {k : Str} (p : Part xs i l) (hk : xs[i]? = some k) (z : k ∈ l ∧ l' = l ∨ k ∉ l ∧ l' = k :: l) : Part xs (i + 1) l' := by
  have e : ∀ x, x ∈ xs.take (i + 1) ↔ x ∈ xs.take i ∨ x = k := fun x => by rw [List.take_add_one, hk]; simp
  rcases z with ⟨h, rfl⟩ | ⟨h, rfl⟩
  · exact ⟨fun x => by rw [e, p.mem]; exact ⟨.inl, fun z => z.elim id fun q => q ▸ (p.mem k).mp h⟩, Nat.le_succ_of_le p.len⟩
  · exact ⟨fun x => by rw [e, List.mem_cons, p.mem]; exact Or.comm, Nat.succ_le_succ p.len⟩
end

section
variable {P : Program} {w : World} {A : Around} {E : Value → Shared → Prop} {s : Shared} {R : Result → Shared → Prop} {I : Addr} {fp wr : List Addr} {G : Array GenState → Array GenState → Prop} {n : Nat} {Pv : Nat → Value → Prop} {St : Nat → Shared → Prop}
theorem upd_loop (W : WalksS P w A.in1 I fp wr G n Pv St) (a : Addr) (ha : a ∉ fp) (xs : List Str) (hn : n = xs.length) (few : xs.length < 4000) (hv : ∀ i v, Pv i v → ∃ k u, xs[i]? = some k ∧ v = .str k u) :
    ∀ (m i : Nat) (s : Shared) (l : List Str), n - i = m → i ≤ n → St i s → TxAt P w s.heap a l → Part xs i l →
      (∀ s' l', Moved (a :: wr) G s s' → TxAt P w s'.heap a l' → Part xs n l' → R (.ok (.ret .none)) s') →
      codeAny (model P w) A (.builtin "set.update.loop" ⟨[.ref a, .ref I], []⟩) R s := by
  have aw : a ∉ wr := fun h => ha (W.sub _ h)
  have up : ∀ b ∈ wr, b ∈ a :: wr := fun b hb => List.mem_cons_of_mem _ hb
  intro m
  induction m with
  | zero =>
    intro i s l hm hi st T p hR
    obtain rfl : i = n := by omega
    refine codeAny_builtin F.entry_set_update_loop ?_
    rw [Around.under_plainId F.plain_set_update_loop _]
    show wpAny _ A.in1 (pyNext (.ref I) >>= _) _ _ s
    refine wpAny_bind (W.done s _ _ st fun s' mv => ?_)
    show wpAny _ A.in1 (ret Value.none) _ _ s'
    exact wpAny_pure (hR s' l (mv.mono up) (T.at fun o e => mv.heap a o aw e) p)
  | succ m ih =>
    intro i s l hm hi st T p hR
    have lt : i < n := by omega
    refine codeAny_builtin F.entry_set_update_loop ?_
    rw [Around.under_plainId F.plain_set_update_loop _]
    show wpAny _ A.in1 (pyNext (.ref I) >>= _) _ _ s
    refine wpAny_bind (W.item i s _ _ lt st fun v s' hP st' mv => ?_)
    obtain ⟨k, u, hk, rfl⟩ := hv i v hP
    have T1 : TxAt P w s'.heap a l := T.at fun o e => mv.heap a o aw e
    show wpAny _ A.in1 (holding [Value.str k u] (setAdd a (.str k u)) >>= _) _ _ s'
    refine wpAny_bind (wpAny_holding ?_)
    unfold setAdd
    refine wpAny_holding (wpAny_bind ((strKind P w).pyHash (strKind_is P w k u) ?_))
    refine add_at (s := { s' with toks := s'.toks + 1 }) T1 (by have := p.len; omega) fun h' l' b sb T2 z => ?_
    refine wpAny_pure ⟨plainId_quiet F.plain_set_update_loop _, ih (i + 1) _ l' (by omega) lt (W.frame _ s' _ _ st' (Nat.le_succ _) fun b hb o e => ?_) T2 (p.next hk z) fun s2 l2 mv2 T3 p3 => ?_⟩
    · rw [sb.2 b fun q => ha (q ▸ hb)]; exact e
    · refine hR s2 l2 (Moved.trans W.gtrans ((mv.mono up).then_heap (Nat.le_succ _) fun b o hb e => ?_) mv2) T3 p3
      rw [sb.2 b fun q => hb (q ▸ List.mem_cons_self)]; exact e
end

section
variable {P : Program} {w : World} {A : Around} {E : Value → Shared → Prop} {s : Shared}
/-- an empty set's object -/
def eO (w : World) : Obj := { cls := .type "set", dict := none, data := .set #[] 0 (.fresh 0 0 (!w.params.followText "set-order")) }
set_option maxRecDepth 100000 in
set_option maxHeartbeats 3200000 in
theorem set_list {l : Addr} {items : Array Value} (xs : List Str) {Q : Value → Shared → Prop} (hh : A.handled = none) (hl : s.heap.IsList l items) (hit : StrsAre items.toList xs) (few : xs.length < 4000)
    (h : ∀ (h' : Heap) (tk : Nat) (m : List Str), TxAt P w h' s.heap.objs.size m → Part xs xs.length m → (∀ b o, s.heap.get? b = some o → h'.get? b = some o) → Q (.ref s.heap.objs.size) { s with heap := h', toks := tk }) :
    wpAny (model P w) A (call (.type "set") [.ref l]) Q E s := by
  have isz : items.size = xs.length := by rw [← StrsAre.len_eq hit, Array.length_toList]
  obtain ⟨c, tl, hmro⟩ := F.called_set.mro
  have g1 := F.called_set.made
  have g2 := F.called_set.sub
  have g3 := F.called_set.notType
  have g4 := F.called_set.canCreate
  have g5 := F.typeCall_set_1 (.ref l)
  refine wpAny_call (codeAny_of_tree ?_)
  show wpAny _ _ (callAny (.type "set") _) _ _ _
  refine wpAny_pure ⟨Code.quiet_builtin _ (by decide +kernel), codeAny_builtin F.entry_type_call ?_⟩
  rw [Around.under_plain (weight_type_call_type "set" [.ref l] []) rfl]
  repeat (any_goals (first | assumption | wp_step))
  refine codeAny_mono (code_set_led1 (.ref l) (E := E) (Q₁ := fun ob s1 => ob = .ref s.heap.objs.size ∧ s1 = { s with heap := s.heap.push (eO w) }) ⟨rfl, rfl⟩) fun r s1 hr => ?_
  cases r with
  | error e => exact hr
  | ok fl =>
    cases fl with
    | ret ob =>
      obtain ⟨rfl, rfl⟩ := hr
      have hS : (s.heap.push (eO w)).get? s.heap.objs.size = some (eO w) := Heap.get?_push_size _ rfl
      have hT : Shared.TypeIs { s with heap := s.heap.push (eO w) } (.ref s.heap.objs.size) "set" := ⟨_, hS, rfl⟩
      have g6 := F.called_set.init.lookup
      have g7 := F.called_set.init.bind (.ref s.heap.objs.size)
      repeat (any_goals (first | assumption | wp_step))
      refine codeAny_mono (codeAny_call_builtin (R := wants (fun r s2 => r = .none ∧ ∃ h' tk m, s2 = { s with heap := h', toks := tk } ∧ TxAt P w h' s.heap.objs.size m ∧ Part xs xs.length m ∧
          (∀ b o, s.heap.get? b = some o → h'.get? b = some o)) E) F.called_set.init.plain F.entry_set_init (check_set_init_1 hT ?_)) fun r2 s2 hr2 => ?_
      · obtain ⟨⟨ocls, odict, odata, oslots⟩, hol, hcl, nl, hdl⟩ := hl
        simp only at hcl hdl
        subst hcl; subst hdl
        have hol' : (s.heap.push (eO w)).get? l = some { cls := .type "list", dict := odict, data := .seq items nl, slots := oslots } := Heap.get?_push_of_some _ hol
        have g8 := F.sub_list_set
        have g9 := F.sub_list_frozenset
        have g10 : (Value.type "list" == Value.type "dict") = false := by decide
        have hl1 : (s.heap.push (eO w)).IsList l items := ⟨_, hol', rfl, nl, rfl⟩
        unfold Builtin.«set.__init__» noKeywords Builtin.Frozenset.updateFrom
        generalize hPI : pyIter = PI
        wp_walk
        subst hPI
        refine wpAny_pyIter_list hl1 (wpAny_bind (wpAny_runValue ?_))
        have lS : l < s.heap.objs.size := Heap.lt_size hol
        have hh3 : A.in1.in1.in1.handled = none := by simp [hh]
        have nI : l ≠ (s.heap.push (eO w)).objs.size := by rw [Heap.size_push]; exact Nat.ne_of_lt (Nat.lt_succ_of_lt lS)
        have nf : s.heap.objs.size ∉ [(s.heap.push (eO w)).objs.size, l] := by
          rw [Heap.size_push]; simp only [List.mem_cons, List.mem_singleton, List.not_mem_nil, or_false, not_or]
          exact ⟨Nat.ne_of_lt (Nat.lt_succ_self _), Nat.ne_of_gt lS⟩
        refine upd_loop ((Walks.list hh3 _ l nI items).toS) s.heap.objs.size nf xs isz few (fun i v e => ?_) (items.size - 0) 0 _ [] (by omega) (Nat.zero_le _)
          ⟨⟨_, Heap.get?_push_size _ rfl, rfl, rfl⟩, (hl1.push _)⟩ (tx_fresh (Heap.get?_push_of_some _ hS)) ⟨fun x => by simp, Nat.le_refl _⟩ fun s' m mv T p => ?_
        · have q : items.toList[i]? = some v := by rw [Array.getElem?_toList]; exact e
          obtain ⟨t, rfl⟩ := SS.strs_at hit i v q
          have hi : i < xs.length := by rw [← StrsAre.len_eq hit]; exact (List.getElem?_eq_some_iff.mp q).1
          exact ⟨xs[i], t, List.getElem?_eq_getElem hi, by rw [List.getD_eq_getElem?_getD, List.getElem?_eq_getElem hi]; rfl⟩
        · obtain ⟨h', g', d', tk', os'⟩ := s'
          have e1 : g' = s.gens := mv.gens
          have e2 : d' = s.drawn := mv.drawn
          have e3 : os' = s.os := mv.os
          subst e1; subst e2; subst e3
          show wpAny _ _ _ _ _ _
          refine wpAny_pure ?_
          show wpAny _ _ (ret Value.none) _ _ _
          rw [isz] at p
          refine wpAny_pure ⟨rfl, h', tk', m, rfl, T, p, fun b o e => ?_⟩
          have hb : b < s.heap.objs.size := Heap.lt_size e
          refine mv.heap b o ?_ (Heap.get?_push_of_some _ (Heap.get?_push_of_some _ e))
          rw [Heap.size_push]; simp only [List.mem_cons, List.mem_singleton, List.not_mem_nil, or_false, not_or]
          exact ⟨Nat.ne_of_lt hb, Nat.ne_of_lt (Nat.lt_succ_of_lt hb)⟩
      · cases r2 with
        | error e => exact hr2
        | ok f2 =>
          cases f2 with
          | ret r =>
            obtain ⟨rfl, h', tk, m, rfl, T, p, k⟩ := hr2
            repeat (any_goals (first | assumption | wp_step))
            exact h _ _ _ T p k
          | _ => exact hr2.elim
    | _ => exact hr.elim
end

section
variable {P : Program} {w : World} {A : Around} {E : Value → Shared → Prop} {s : Shared}
set_option maxRecDepth 100000 in
set_option maxHeartbeats 3200000 in
theorem set_tuple {l : Addr} {items : Array Value} (xs : List Str) {Q : Value → Shared → Prop} (hh : A.handled = none) (hl : s.heap.IsTuple l items) (hit : StrsAre items.toList xs) (few : xs.length < 4000)
    (h : ∀ (h' : Heap) (tk : Nat) (m : List Str), TxAt P w h' s.heap.objs.size m → Part xs xs.length m → (∀ b o, s.heap.get? b = some o → h'.get? b = some o) → Q (.ref s.heap.objs.size) { s with heap := h', toks := tk }) :
    wpAny (model P w) A (call (.type "set") [.ref l]) Q E s := by
  have isz : items.size = xs.length := by rw [← StrsAre.len_eq hit, Array.length_toList]
  obtain ⟨c, tl, hmro⟩ := F.called_set.mro
  have g1 := F.called_set.made
  have g2 := F.called_set.sub
  have g3 := F.called_set.notType
  have g4 := F.called_set.canCreate
  have g5 := F.typeCall_set_1 (.ref l)
  refine wpAny_call (codeAny_of_tree ?_)
  show wpAny _ _ (callAny (.type "set") _) _ _ _
  refine wpAny_pure ⟨Code.quiet_builtin _ (by decide +kernel), codeAny_builtin F.entry_type_call ?_⟩
  rw [Around.under_plain (weight_type_call_type "set" [.ref l] []) rfl]
  repeat (any_goals (first | assumption | wp_step))
  refine codeAny_mono (code_set_led1 (.ref l) (E := E) (Q₁ := fun ob s1 => ob = .ref s.heap.objs.size ∧ s1 = { s with heap := s.heap.push (eO w) }) ⟨rfl, rfl⟩) fun r s1 hr => ?_
  cases r with
  | error e => exact hr
  | ok fl =>
    cases fl with
    | ret ob =>
      obtain ⟨rfl, rfl⟩ := hr
      have hS : (s.heap.push (eO w)).get? s.heap.objs.size = some (eO w) := Heap.get?_push_size _ rfl
      have hT : Shared.TypeIs { s with heap := s.heap.push (eO w) } (.ref s.heap.objs.size) "set" := ⟨_, hS, rfl⟩
      have g6 := F.called_set.init.lookup
      have g7 := F.called_set.init.bind (.ref s.heap.objs.size)
      repeat (any_goals (first | assumption | wp_step))
      refine codeAny_mono (codeAny_call_builtin (R := wants (fun r s2 => r = .none ∧ ∃ h' tk m, s2 = { s with heap := h', toks := tk } ∧ TxAt P w h' s.heap.objs.size m ∧ Part xs xs.length m ∧
          (∀ b o, s.heap.get? b = some o → h'.get? b = some o)) E) F.called_set.init.plain F.entry_set_init (check_set_init_1 hT ?_)) fun r2 s2 hr2 => ?_
      · obtain ⟨⟨ocls, odict, odata, oslots⟩, hol, hcl, nl, hdl⟩ := hl
        simp only at hcl hdl
        subst hcl; subst hdl
        have hol' : (s.heap.push (eO w)).get? l = some { cls := .type "tuple", dict := odict, data := .seq items nl, slots := oslots } := Heap.get?_push_of_some _ hol
        have g8 := F.sub_tuple_set
        have g9 := F.sub_tuple_frozenset
        have g10 : (Value.type "tuple" == Value.type "dict") = false := by decide
        have hl1 : (s.heap.push (eO w)).IsTuple l items := ⟨_, hol', rfl, nl, rfl⟩
        unfold Builtin.«set.__init__» noKeywords Builtin.Frozenset.updateFrom
        generalize hPI : pyIter = PI
        wp_walk
        subst hPI
        refine wpAny_pyIter_tuple hl1 (wpAny_bind (wpAny_runValue ?_))
        have lS : l < s.heap.objs.size := Heap.lt_size hol
        have hh3 : A.in1.in1.in1.handled = none := by simp [hh]
        have nI : l ≠ (s.heap.push (eO w)).objs.size := by rw [Heap.size_push]; exact Nat.ne_of_lt (Nat.lt_succ_of_lt lS)
        have nf : s.heap.objs.size ∉ [(s.heap.push (eO w)).objs.size, l] := by
          rw [Heap.size_push]; simp only [List.mem_cons, List.mem_singleton, List.not_mem_nil, or_false, not_or]
          exact ⟨Nat.ne_of_lt (Nat.lt_succ_self _), Nat.ne_of_gt lS⟩
        refine upd_loop ((Walks.tuple hh3 _ l nI items).toS) s.heap.objs.size nf xs isz few (fun i v e => ?_) (items.size - 0) 0 _ [] (by omega) (Nat.zero_le _)
          ⟨⟨_, Heap.get?_push_size _ rfl, rfl, rfl⟩, (hl1.push _)⟩ (tx_fresh (Heap.get?_push_of_some _ hS)) ⟨fun x => by simp, Nat.le_refl _⟩ fun s' m mv T p => ?_
        · have q : items.toList[i]? = some v := by rw [Array.getElem?_toList]; exact e
          obtain ⟨t, rfl⟩ := SS.strs_at hit i v q
          have hi : i < xs.length := by rw [← StrsAre.len_eq hit]; exact (List.getElem?_eq_some_iff.mp q).1
          exact ⟨xs[i], t, List.getElem?_eq_getElem hi, by rw [List.getD_eq_getElem?_getD, List.getElem?_eq_getElem hi]; rfl⟩
        · obtain ⟨h', g', d', tk', os'⟩ := s'
          have e1 : g' = s.gens := mv.gens
          have e2 : d' = s.drawn := mv.drawn
          have e3 : os' = s.os := mv.os
          subst e1; subst e2; subst e3
          show wpAny _ _ _ _ _ _
          refine wpAny_pure ?_
          show wpAny _ _ (ret Value.none) _ _ _
          rw [isz] at p
          refine wpAny_pure ⟨rfl, h', tk', m, rfl, T, p, fun b o e => ?_⟩
          have hb : b < s.heap.objs.size := Heap.lt_size e
          refine mv.heap b o ?_ (Heap.get?_push_of_some _ (Heap.get?_push_of_some _ e))
          rw [Heap.size_push]; simp only [List.mem_cons, List.mem_singleton, List.not_mem_nil, or_false, not_or]
          exact ⟨Nat.ne_of_lt hb, Nat.ne_of_lt (Nat.lt_succ_of_lt hb)⟩
      · cases r2 with
        | error e => exact hr2
        | ok f2 =>
          cases f2 with
          | ret r =>
            obtain ⟨rfl, h', tk, m, rfl, T, p, k⟩ := hr2
            repeat (any_goals (first | assumption | wp_step))
            exact h _ _ _ T p k
          | _ => exact hr2.elim
    | _ => exact hr.elim
end
end XS
namespace XS
open PySem PySem.Spec PyProof.Rows L2
def TxO (P : Program) (w : World) (a : Addr) (l : List Str) : HO := .ext fun h => TxAt P w h a l
section
variable {X : Cx}
theorem tx_new {w : World} {P : Program} {H : Hp} {h : Heap} {a : Addr} {l : List Str} (R : TxAt P w h a l) : ObjOk P w H h a (TxO P w a l) := by
  have ⟨⟨D, ho, _⟩, _, _⟩ := R
  exact ⟨R, ⟨_, ho⟩, fun h1 h2 p k => TxAt.at p k⟩
theorem tx_get {pins : List (Addr × Obj)} {σ : L2.St} {H : Hp} {s : Shared} {a : Addr} {l : List Str} (I : Inv X pins σ H s) (ha : H a = some (TxO X.prog X.w a l)) : TxAt X.prog X.w s.heap a l := (I.hok a _ ha).1
/-- set(xs) of a list or tuple of texts -/
def rSetX (P : Program) (w : World) (K : PySem.W.Frag) : List V → Hp → VK → Prop := fun vs H Q => ∃ (b : Addr) (xs : List Str), vs = [V.ref b] ∧ (SqL K H b (xs.map V.str) ∨ SqT K H b (xs.map V.str)) ∧ xs.length < 4000 ∧
  ∀ (p : Addr) (l : List Str), l.Nodup → (∀ x, x ∈ l ↔ x ∈ xs) → l.length ≤ xs.length → H p = none → Q (.ref p) (upd H p (TxO P w p l))
theorem cr_setX (hc : X.calm = true) : CallR X (.type "set") (rSetX X.prog X.w X.K) := by
  intro pins s σ H vs us Q I r h
  obtain ⟨b, xs, rfl, hq, few, q⟩ := h
  rw [Vals.ref1 r]
  have fin : ∀ (h' : Heap) (tk : Nat) (m : List Str), TxAt X.prog X.w h' s.heap.objs.size m → Part xs xs.length m → (∀ b o, s.heap.get? b = some o → h'.get? b = some o) → EP X pins σ Q (.ref s.heap.objs.size) { s with heap := h', toks := tk } := fun h' tk m T p k =>
    ⟨.ref s.heap.objs.size, upd H s.heap.objs.size (TxO X.prog X.w s.heap.objs.size m), I.laid (t' := tk) k (Nat.le_refl _) (tx_new T), rfl, q _ m T.one (fun x => by rw [p.mem, List.take_length]) p.len (I.hok.fresh (Nat.le_refl _))⟩
  rcases hq with hq | hq
  · obtain ⟨its, r, pl, hz⟩ := I.list hq
    exact set_list xs (I.ok.hd hc) pl.isList (by simpa using strsAre_of r) few fin
  · obtain ⟨its, r, pl, hz⟩ := I.tuple hq
    exact set_tuple xs (I.ok.hd hc) pl (by simpa using strsAre_of r) few fin
/-- len of a set of texts -/
def rLenX (P : Program) (w : World) : List V → Hp → VK → Prop := fun vs H Q => ∃ (a : Addr) (l : List Str), vs = [V.ref a] ∧ H a = some (TxO P w a l) ∧ Q (.int l.length) H
theorem cr_lenX : CallR X (.builtin "len") (rLenX X.prog X.w) := by
  intro pins s σ H vs us Q I r h
  obtain ⟨a, l, rfl, ha, q⟩ := h
  rw [Vals.ref1 r]
  obtain ⟨⟨D, ho, F, _⟩, _, few⟩ := tx_get I ha
  refine call_len_set (es := D.1) (ep := D.2.1) (t := D.2.2) ho ⟨rfl, rfl, rfl⟩ rfl F.fit (by rw [F.sz]; omega) ⟨.int l.length, H, I.tok _, ⟨_, by rw [F.sz]⟩, q⟩
end
end XS
namespace SUP
open PySem PySem.Spec PyProof.Rows L2 PySem.W
/-! ## an own error whose `__init__` begins with super().__init__(e, ..), over own classes over ValueError -/
/-- what the written part says of the class at C and of its `__init__` -/
structure SupT (K : PySem.W.Frag) (mg : Str → Option Value) (C f : Addr) (fd : FuncData) (qual : Str) (params : Arguments) (body : List Stmt) (scope : Scope) (file : Str) : Prop where
  oex : OexC K C
  ini : PySem.W.findIn K (.ref C) "__init__" = some (some (.ref f))
  tI : PySem.W.typeIn K (.ref f) = some (.type "function")
  msup : mg "super" = none
  any : PySem.W.nsIn K cStatics "thirdparty.any" = some none
  vE : PySem.W.subIn K (.ref C) (.type "ValueError") = some true
  sub : PySem.W.mroIn K C (.ref C) = some true
  sup : PySem.W.ks_superIn K C C "__init__" = some (some (.builtin "ValueError.__init__"))
  ex : ∃ (oc : Value) (od : Option Addr) (dV kV doc pm : Value) (an : Option Addr) (cda cc : Addr) (ct : Value) (osl : Array (Option Value)),
    fd = PySem.W.fnX "__init__" qual params body scope [("__class__", cc)] dV kV doc pm an (.ref cda) ct ∧ K.lookup f = some ⟨oc, od, .func fd, osl⟩ ∧ PySem.W.codeIn K (.ref cda) qual = true ∧
    (∃ (oc2 : Value) (od2 : Option Addr) (vs : Array Value) (sl2 : Array (Option Value)) (tf : Tok), K.lookup cda = some ⟨oc2, od2, .fields vs, sl2⟩ ∧ vs[2]? = some (.str file tf)) ∧
    ∃ (oc3 : Value) (od3 : Option Addr) (sl3 : Array (Option Value)), K.lookup cc = some ⟨oc3, od3, .cell (some (.ref C)), sl3⟩

section
variable {X : Cx} {pins : List (Addr × Obj)} {σ : L2.St} {H : Hp} {a C : Addr}
theorem inst_of {s : Shared} (I : Inv X pins σ H s) (ea : H a = some (exo a C none)) : ∃ t1 : Addr, PySem.W.InstAt s.heap a { cls := .ref C, dict := none, data := .fields #[.ref t1, .none, .none, .none, .bool false, .none] } C none := by
  obtain ⟨t1, ho⟩ := exo_at I.hok ea
  exact ⟨t1, ho, rfl, rfl, trivial⟩
/-- the bound `__init__` of ValueError, called -/
theorem call_mw {u : Addr} {A : Around} {E : Value → Shared → Prop} {us : List Value} {Q : Value → Shared → Prop} {s : Shared} (T : OexC X.K C) (I : Inv X pins σ H s) (hu : s.heap.get? u = some (PySem.W.kxs_mw "ValueError.__init__" a)) (ea : H a = some (exo a C none))
    (hl : us.length ≤ sizeLine) (h : ∀ s', Inv X pins σ H s' → Q .none s') : wpAny (model X.prog X.w) A (call (.ref u) us) Q E s := by
  obtain ⟨nm, q, N, bs, bm, sn, sub, ab, col, dd, k0, k1, k2, k3, k5, hC, hbm⟩ := T.cls
  obtain ⟨t1, ho⟩ := exo_at I.hok ea
  obtain ⟨hp, g, d, t, os⟩ := s
  refine wpAny_call (codeAny_of_tree ?_)
  show wpAny _ A.in1 (callAny (.ref u) ⟨us, []⟩) _ _ _
  simp only [callAny]
  refine wpAny_bind (wpAny_load hu ?_)
  simp only [PySem.W.kxs_mw, show (Value.type "method-wrapper" == Value.type "method" || Value.type "method-wrapper" == Value.type "builtin_function_or_method" || Value.type "method-wrapper" == Value.type "method-wrapper") = true by decide, if_true]
  refine PySem.W.KFB.if_so (by decide) ?_
  refine wpAny_bind (PySem.W.check_bound_init F.excBase_ValueError.toExcCallFacts (I.kIn _ _ hC) ho rfl ?_)
  refine wpAny_bind (wpAny_pure (wpAny_pure ?_))
  refine ⟨plainId_quiet F.excBase_ValueError.init.plain _, codeAny_builtin F.excBase_ValueError.initEntry ?_⟩
  refine PySem.W.exc_init_tree (cls := .ref C) (t0 := t1) (dv := none) (c2 := .none) (c3 := .none) (b4 := .bool false) ho hl fun h' k hx _ => ?_
  have J := I.write (t' := t) (x := a) (e := a) (o := exo a C none) (by rw [ea]; exact True.intro) (.inl rfl) k ⟨_, hx⟩ (exo_ok hx)
  have eu : upd H a (exo a C none) = H := by
    funext b
    by_cases hb : b = a
    · rw [hb, upd_same, ea]
    · rw [upd_ne hb]
  rw [eu] at J
  exact h _ J
end

section
variable {CX : CXT} {P : Program} {w : World} {K : PySem.W.Frag} {mg : Str → Option Value} {base : Heap} {N ps : List Str} {k : Nat} {C f : Addr} {fd : FuncData} {qual : Str} {params : Arguments} {body rest : List Stmt} {scope : Scope} {file : Str} {e : Expr} {es : List Expr} {p0 p1 p2 p3 p4 : Pos} {ar : Arg} {sp : Sp}
/-- the nested form of it -/
abbrev nf (qual : Str) (params : Arguments) (body : List Stmt) (scope : Scope) (cc cda : Addr) : NdefX.NF := ⟨"__init__", qual, params, body, scope, [("__class__", cc)], cda⟩
/-- THE RULE: such an `__init__` by what follows -/
theorem fn_sup (T : SupT K mg C f fd qual params body scope file) (hfile : ((P.main.file : Str) == file) = true) (htop : (P.main.scope.names.lookup ("super" : Str)).isSome = false)
    (hb : body = .Expr (.Call (.Attribute (.Call (.Name "super" p0) [] [] p1) "__init__" p2) (e :: es) [] p3) p4 :: rest)
    (S : NdefX.NScope N ps ["__class__"] scope) (hp : (params.posonlyargs ++ params.args).head? = some ar) (h0 : N[0]? = some ar.arg) (hks : scope.names.lookup ("super" : Str) = some .globalImplicit) (hka : scope.names.lookup ar.arg = some .local)
    (len : ∀ vs H Q E, sp vs H Q E → vs.length = ps.length)
    (hbody : ∀ (cda cc : Addr) (A : Around) (outer : List Env) (s : Shared) (H : Hp) (vs : List V) (Q : VK) (E : XK), Room k (A.deeper (NdefX.envF (nf qual params body scope cc cda) f s.heap.objs.size)) → sp vs H Q E →
      ∃ ta t, PA (NdefX.ncx CX P w K mg base N (nf qual params body scope cc cda) f A outer s H E) (e :: es) ta ∧ PSs (NdefX.ncx CX P w K mg base N (nf qual params body scope cc cda) f A outer s H E) rest t ∧
        ∃ a, vs[0]? = some (.ref a) ∧ H a = some (exo a C none) ∧ ta (NdefX.startF N vs [none]) H fun ws H1 => ws.length ≤ 1000 ∧ H1 a = some (exo a C none) ∧ t { nx := fun _ H' => Q .non H', rt := Q } (NdefX.startF N vs [none]) H1)
    (pl : Env → Sem Bool) (hev : ∀ env, eval (.Call (.Attribute (.Call (.Name "super" p0) [] [] p1) "__init__" p2) (e :: es) [] p3) env = (do
        let ov ← attributeBase (.Call (.Name "super" p0) [] [] p1) "__init__" env (eval (.Call (.Name "super" p0) [] [] p1) env)
        standAt p2.atName
        let (f, first) ← holding [ov] (getMethod ov "__init__" (pl env))
        callWith p3 f first (backTo p3 (starEach (e :: es) env)) []) := by intro _; rfl)
    (hst : ∀ env, starEach (e :: es) env = (false, eval e env) :: starEach es env := by intro _; rfl) (hpl : ∀ env, (backTo p3 (starEach es env)).any (·.1) = false := by intro _; rfl)
    (hsw : ∀ env, swapsWith (.Call (.Attribute (.Call (.Name "super" p0) [] [] p1) "__init__" p2) (e :: es) [] p3) none p4.line env = pure false := by intro _; rfl)
    (hps : ps.length ≥ 1) : FnOk P w K mg base CX (k + 1) f fd ps sp := by
  refine ⟨len, fun A outer s H args us vs Q E hr e0 hbi r hsp => ?_⟩
  obtain ⟨oc, od, dV, kV, doc, pm, an, cda, cc, ct, osl, hfd, lk, hcd, ⟨oc2, od2, fvs, sl2, tf, lk2, hvs⟩, oc3, od3, sl3, lk3⟩ := T.ex
  have hl := len _ _ _ _ hsp
  have hul : us.length = ps.length := by rw [← r.length, hl]
  have KX : K.In s.heap := e0.mod.kin.keeps fun b o e => (e0.bs b o e).1
  have lim : s.heap.NoLimit := e0.mod.nolimit.keeps fun b o e => (e0.bs b o e).1
  obtain ⟨ta, t, hpa, hpss, a, hva, haH, hq⟩ := hbody cda cc A outer s H vs Q E (hr.deeper _) hsp
  subst hfd
  have hloc : ∀ y ∈ ps.zip us, scope.names.lookup y.1 = some .local := fun ⟨n, v⟩ hy => S.par n (List.of_mem_zip hy).1
  refine ks_codeAny_call_defAt (fd := PySem.W.fnX "__init__" qual params body scope [("__class__", cc)] dV kV doc pm an (.ref cda) ct) hr.depth (KX _ _ lk) rfl lim (PySem.W.codeRec_of KX hcd) rfl hbi S.nocell hloc (fun h1 hns hk => ?_) S.co S.gen S.kind
  have kb : ∀ b o, base.get? b = some o → s.heap.get? b = some o ∧ H b = none := e0.bs
  have cat : NdefX.CellsAt [("__class__", cc)] ["__class__"] [none] s.heap H := {
    len := rfl
    all := fun y c hy => by
      have := PySem.mem_of_lookup hy
      simp only [List.mem_singleton, Prod.mk.injEq] at this
      obtain ⟨rfl, rfl⟩ := this
      exact ⟨(kb _ _ (e0.mod.kin _ _ lk3)).2, some (.ref C), _, KX _ _ lk3, rfl⟩
    inj := fun x y c h1 h2 => by
      have := PySem.mem_of_lookup h1
      have t2 := PySem.mem_of_lookup h2
      simp only [List.mem_singleton, Prod.mk.injEq] at this t2
      exact this.1.trans t2.1.symm
    has := fun i y hy => by
      cases i with
      | zero =>
        have : "__class__" = y := Option.some.inj hy
        subst this
        exact ⟨cc, by simp [List.lookup], fun v hv => by cases hv⟩
      | succ i => simp at hy }
  have I : Inv (NdefX.ncx CX P w K mg base N (nf qual params body scope cc cda) f A outer s H E) [] (NdefX.startF N vs [none]) H { s with heap := h1, toks := s.toks + (ps.zip us).length } :=
    NdefX.inv_startN S hr.hd e0 hl r cat hns hk
  show _root_.PySem.wpAt (model P w) _ (.func body (NdefX.envF (nf qual params body scope cc cda) f s.heap.objs.size)) (execs body (NdefX.envF (nf qual params body scope cc cda) f s.heap.objs.size)) _ _ _
  have hz : interactive (NdefX.envF (nf qual params body scope cc cda) f s.heap.objs.size) = false := by
    simp [interactive, S.kind]
  rw [show execs body (NdefX.envF (nf qual params body scope cc cda) f s.heap.objs.size) = execs (.Expr (.Call (.Attribute (.Call (.Name "super" p0) [] [] p1) "__init__" p2) (e :: es) [] p3) p4 :: rest) (NdefX.envF (nf qual params body scope cc cda) f s.heap.objs.size) from by rw [← hb]]
  refine ks_wpAt_execs_cons (ks_wpAt_Expr_any (ks_wpAt_MethodCall (pl := pl _) ?_ (hev _)) hz (hsw _))
  -- super()
  have KI : K.In ({ s with heap := h1, toks := s.toks + (ps.zip us).length } : Shared).heap := I.kIn
  obtain ⟨nm, q, Nn, bs, bm, sn, sub, ab, col, dd, k0, k1, k2, k3, k5, hC, hbm⟩ := T.oex.cls
  obtain ⟨t1, In⟩ := inst_of I haH
  obtain ⟨mb, bl1, bl2⟩ := e0.mod.blt
  refine ks_wpAt_super_base hks (S.frk _ List.mem_cons_self) (by decide) rfl (KI _ _ lk) rfl hp rfl (KI _ _ lk2) rfl hvs hfile htop ?_
  refine ks_loadName_global S.kind hks (Calls.loadGlobal_builtin (e0.mod.glob.keeps I.bk) T.msup (bl1.keeps I.bk) ((bl2 _ (by decide)).trans PyProof.Rows.Boot.«super») ⟨rfl, ?_⟩)
  refine wpAny_loadName_free S.kind (S.frk _ List.mem_cons_self) (by simp [List.lookup]) ⟨_, KI _ _ lk3, rfl⟩ ?_
  obtain ⟨m, hm, hmv⟩ := I.loc
  have hs0 : (NdefX.startF N vs [none])[0]? = some (some (.ref a)) := by
    unfold NdefX.startF
    rw [List.getElem?_append_left (by rw [List.length_map]; omega), List.getElem?_map, hva]; rfl
  obtain ⟨u, ru, lu⟩ := hmv 0 ar.arg (.ref a) h0 hs0 (.inl hka)
  obtain rfl : u = Value.ref a := ru
  have hma : m ar.arg = some (.ref a) := by
    rcases lu with ⟨_, h⟩ | ⟨h, _⟩
    · exact h
    · rcases h with h | h
      · have h' : scope.names.lookup ar.arg = some .cell := h
        rw [hka] at h'; cases h'
      · have h' : scope.names.lookup ar.arg = some .free := h
        rw [hka] at h'; cases h'
  refine wpAny_loadName_local S.kind hka hm hma ?_
  refine ks_wpAny_isType_cls (KI _ _ hC) rfl ⟨rfl, ?_⟩
  refine ks_wpAny_call_super (KI _ _ hC) rfl In.at_ rfl (fun c z => by cases z) (PySem.W.looks_mroIn KI T.sub) (fun h2 e2 kk2 => ?_)
  have I2 := I.kept (t' := s.toks + (ps.zip us).length) kk2
  -- the bound __init__
  have hcl : PySem.W.clsIn K C = some { name := nm, bases := bs, mro := .ref C :: bm, ns := Nn, qualname := q, hasDict := true, slotNames := sn, subclasses := sub, abstract := ab, collection := col, hasDel := false } := by unfold PySem.W.clsIn; rw [hC] <;> rfl
  have hal : PySem.W.alongIn K "__init__" (((Value.ref C :: bm).dropWhile (· != .ref C)).drop 1) = some (some (.builtin "ValueError.__init__")) := by
    have := T.sup
    unfold PySem.W.ks_superIn at this
    rw [hcl] at this
    exact this
  obtain ⟨t2, In2⟩ := inst_of I2 haH
  refine PySem.W.kxs_getMethod PySem.W.kxs_ValueError e2 (PySem.W.looks_opaque I2.kIn T.any) (l₀ := .ref C :: bm) (fun A Q E s k q => wpAny_bind ((PySem.W.looks_clsIn I2.kIn hcl) A _ E s k (wpAny_pure q))) rfl I2.kIn hal (In2.type.andThen (PySem.W.looks_subIn I2.kIn T.vE)) (PySem.W.ks_ne I2.kIn In2 hcl) (by decide) ?_
  show wpAny _ _ (callWith p3 (.ref h2.objs.size) [] (backTo p3 (starEach (e :: es) (NdefX.envF (nf qual params body scope cc cda) f s.heap.objs.size))) []) _ _ _
  rw [hst]
  refine PySem.W.kxs_callWith (i := "ValueError.__init__") (x := a) (by show (false || (backTo p3 (starEach es _)).any (·.1)) = false; rw [hpl]; rfl) ?_
  refine Calls.evalArgs_plain ?_
  have I4 := ClX.pin_new (a := h2.objs.size) (o := PySem.W.kxs_mw "ValueError.__init__" a) (t' := s.toks + (ps.zip us).length + 1) (h' := h2.push (PySem.W.kxs_mw "ValueError.__init__" a)) I2 (fun b o z => Heap.get?_push_of_some _ z) (Nat.le_refl _) (Heap.get?_push_size _ rfl) (fun v z => by cases z)
  have hst' := hst (NdefX.envF (nf qual params body scope cc cda) f s.heap.objs.size)
  have hrun := hpa.run p3 _ _ _ _ _ I4 hq
  refine wpAny_mono (hst' ▸ hrun) (fun xs s5 hh => ?_) (fun _ _ x => x)
  obtain ⟨ws, H5, I5, r5, hwl, ea5, qt⟩ := hh
  have hu5 := ClX.pin_at I5
  refine ⟨hu5, ?_⟩
  refine call_mw (X := NdefX.ncx CX P w K mg base N (nf qual params body scope cc cda) f A outer s H E) T.oex I5 hu5 ea5 (by show xs.length ≤ _; rw [← Paired.length r5, sizeLine_eq]; omega) fun s6 J => ?_
  refine wpAt_of_wpAny ?_
  refine wpAny_mono (hpss.run _ s6 _ _ _ J qt) (fun fl s' hs => ?_) fun e s' hs => hs
  have fin : ∀ {σ' : L2.St} {H' : Hp} {v : V} {u : Value} {pins}, Inv (NdefX.ncx CX P w K mg base N (nf qual params body scope cc cda) f A outer s H E) pins σ' H' s' → L2.RelV v u → Q v H' → CE outer P w H s Q u s' :=
    fun {σ' H' v u pins} J rv q => ⟨v, H', J.os, J.bare, J.base, J.hok, rv, q⟩
  cases fl with
  | ret u =>
    obtain ⟨v, σ', H', J, rv, q⟩ := hs
    exact fin J rv q
  | next =>
    obtain ⟨σ', H', J, q⟩ := hs
    exact fin (v := V.non) (u := Value.none) J rfl q
  | brk =>
    obtain ⟨_, _, _, q⟩ := hs
    exact False.elim q
  | cont =>
    obtain ⟨_, _, _, q⟩ := hs
    exact False.elim q
end
end SUP
/-! ## texts -/
namespace G
open PySem PySem.Spec PyProof.Rows L2 Evl TL
open PySem.StrLaws (At occBody occ_eq occ_first)
open PySem.Builtin.Str (occurrences)
/-- the text of these signs -/
def mk (l : List Nat) : Str := ⟨l.toArray⟩
theorem tl_mkS (l : List Nat) : tl (mk l) = l := rfl
theorem mk_tlS (x : Str) : mk (tl x) = x := mk_tl x
theorem mk_inj {a b : List Nat} : mk a = mk b ↔ a = b := ⟨fun h => by have := congrArg tl h; exact this, fun h => by rw [h]⟩
theorem mk_app (a b : List Nat) : mk a ++ mk b = mk (a ++ b) := ext_tl (by rw [tl_append, tl_mkS, tl_mkS, tl_mkS])
theorem mk_len (a : List Nat) : (mk a).length = a.length := by rw [len_tl, tl_mkS]
theorem mk_one (c : Nat) : (⟨#[c]⟩ : Str) = mk [c] := rfl
theorem decV_str (a b : Str) : decide (V.str a = V.str b) = decide (a = b) := by
  by_cases h : a = b
  · rw [h, decide_eq_true rfl, decide_eq_true rfl]
  · rw [decide_eq_false h, decide_eq_false fun q => h (V.str.inj q)]
theorem decV_mk (a b : List Nat) : decide (V.str (mk a) = V.str (mk b)) = decide (a = b) := by
  rw [decV_str]
  by_cases h : a = b
  · rw [h, decide_eq_true rfl, decide_eq_true rfl]
  · rw [decide_eq_false h, decide_eq_false fun q => h (mk_inj.mp q)]
theorem occ_from (x y : Str) (lo : Nat) : (occurrences x y lo x.length 1 = [] ∧ ∀ k, lo ≤ k → ¬ At x y x.length k) ∨ ∃ k r, occurrences x y lo x.length 1 = k :: r ∧ lo ≤ k ∧ At x y x.length k ∧ ∀ j, lo ≤ j → j < k → ¬ At x y x.length j := by
  rw [occ_eq]
  have hmem : ∀ k, At x y x.length k → lo ≤ k → k ∈ List.range' lo (x.length + 1 - lo) := fun k hk hl => by
    have := hk.1
    simp [List.mem_range'_1]; omega
  rcases occ_first x y x.length 1 (by decide) (List.range' lo (x.length + 1 - lo)) lo (fun i hi => by simp [List.mem_range'_1] at hi; omega) with ⟨h0, hn⟩ | ⟨pr, a, post, e, h0, ha, hn⟩
  · exact .inl ⟨by rw [h0], fun k hl hk => hn k (hmem k hk hl) hk⟩
  · have hal : lo ≤ a := by
      have : a ∈ List.range' lo (x.length + 1 - lo) := by rw [e]; simp
      simp [List.mem_range'_1] at this; omega
    refine .inr ⟨a, ((forIn (List.range' lo (x.length + 1 - lo)) ((#[] : Array Nat), lo) (occBody x y x.length 1)).run.fst.toList).tail, ?_, hal, ha, fun j hl hj hA => ?_⟩
    · generalize (forIn (List.range' lo (x.length + 1 - lo)) ((#[] : Array Nat), lo) (occBody x y x.length 1)).run.fst = arr at h0
      have h1 : arr.toList[0]? = some a := by simpa using h0
      cases hL : arr.toList with
      | nil => rw [hL] at h1; cases h1
      | cons b t => rw [hL] at h1; simp at h1; rw [h1]; rfl
    · have hm := hmem j hA hl
      rw [e] at hm
      have hs : (pr ++ a :: post).Pairwise (· < ·) := by rw [← e]; exact List.pairwise_lt_range'
      rcases List.mem_append.mp hm with z | z
      · exact hn j z hA
      · rcases List.mem_cons.mp z with z | z
        · omega
        · have := (List.pairwise_cons.mp (List.pairwise_append.mp hs).2.1).1 j z
          omega
theorem at_one {x : Str} {c k : Nat} : At x (mk [c]) x.length k ↔ (tl x)[k]? = some c := by
  rw [at_iff (by rw [tl_mkS]; simp), tl_mkS]
  unfold pre
  show (((tl x).drop k).take 1 == [c]) = true ↔ _
  rw [beq_iff_eq]
  have h0 : (tl x)[k]? = ((tl x).drop k)[0]? := by rw [List.getElem?_drop, Nat.add_zero]
  rw [h0]
  cases (tl x).drop k with
  | nil => simp
  | cons d r => simp
theorem find_hit {x : Str} {c i : Nat} {body rest : List Nat} (h : (tl x).drop i = body ++ c :: rest) (hb : c ∉ body) : Txt.find3 x (mk [c]) (i : Int) = ((i + body.length : Nat) : Int) := by
  unfold Txt.find3
  rw [show PySem.fromIndex x.length (i : Int) = i by unfold PySem.fromIndex; rw [if_neg (by omega)]; omega]
  have hat : ∀ j, (tl x)[i + j]? = (body ++ c :: rest)[j]? := fun j => by rw [← h, List.getElem?_drop]
  have hhit : At x (mk [c]) x.length (i + body.length) := at_one.mpr (by rw [hat, List.getElem?_append_right (Nat.le_refl _), Nat.sub_self]; rfl)
  rcases occ_from x (mk [c]) i with ⟨_, hn⟩ | ⟨k, r, e, hl, hA, hn⟩
  · exact absurd hhit (hn _ (by omega))
  · rw [e]
    show ((k : Nat) : Int) = _
    have h1 : ¬ i + body.length < k := fun q => hn _ (by omega) q hhit
    have h2 : ¬ k < i + body.length := fun q => by
      have := at_one.mp hA
      obtain ⟨j, rfl⟩ : ∃ j, k = i + j := ⟨k - i, by omega⟩
      rw [hat, List.getElem?_append_left (by omega)] at this
      exact hb (List.mem_of_getElem? this)
    omega
theorem find_miss {x : Str} {c i : Nat} (h : c ∉ (tl x).drop i) : Txt.find3 x (mk [c]) (i : Int) = -1 := by
  unfold Txt.find3
  rw [show PySem.fromIndex x.length (i : Int) = i by unfold PySem.fromIndex; rw [if_neg (by omega)]; omega]
  rcases occ_from x (mk [c]) i with ⟨e, _⟩ | ⟨k, r, e, hl, hA, hn⟩
  · rw [e]
  · have := at_one.mp hA
    obtain ⟨j, rfl⟩ : ∃ j, k = i + j := ⟨k - i, by omega⟩
    rw [← List.getElem?_drop] at this
    exact absurd (List.mem_of_getElem? this) h
theorem starts_at {x y : Str} {i : Nat} (hy : tl y ≠ []) : Txt.startswith3 x y (i : Int) = pre (tl y) ((tl x).drop i) := by
  unfold Txt.startswith3
  rw [show PySem.fromIndex x.length (i : Int) = i by unfold PySem.fromIndex; rw [if_neg (by omega)]; omega]
  have h := at_iff (x := x) hy i
  unfold At at h
  rw [Bool.eq_iff_iff, Bool.and_eq_true, decide_eq_true_iff]
  exact h
theorem pre_iff {S L : List Nat} : pre S L = true ↔ ∃ r, L = S ++ r := by
  unfold pre
  rw [beq_iff_eq]
  constructor
  · intro h; exact ⟨L.drop S.length, by conv => lhs; rw [← List.take_append_drop S.length L, h]⟩
  · rintro ⟨r, rfl⟩; exact List.take_left' rfl
/-- the signs of x from i to j -/
theorem cut_nat {x : Str} {i j : Nat} (hi : i ≤ j) (hj : j ≤ x.length) : cutS x (some (i : Int)) (some (j : Int)) = mk (((tl x).drop i).take (j - i)) := by
  unfold cutS
  have e1 : HT.sIx x.length 0 (some (i : Int)) = i := by rw [HT.sIx_nat]; omega
  have e2 : HT.sIx x.length x.length (some (j : Int)) = j := by rw [HT.sIx_nat]; omega
  rw [e1, e2]; rfl
section
variable {tt : TT} {te : TE} {vs : List Nat} {σ : L2.St} {H1 : Hp} {D : Addr} {Qd : Hp → Prop} {j : Nat}
theorem lcSm {z : Str} (g : Nat → V) (hn : z.length ≤ 100000) (hw : ∀ x, wipe ((wipe σ vs).set j (some x)) vs = wipe σ vs)
    (he : ∀ (i c : Nat) (H : Hp), (tl z)[i]? = some c → H = upd H1 D (.lst (((tl z).take i).map g)) → Val te ((wipe σ vs).set j (some (.str (mk [c])))) H (g c)) (q : Qd (upd H1 D (.lst ((tl z).map g)))) :
    ∃ W : Nat → Nat → Hp → Prop, (∃ m, W 0 m (upd H1 D (.lst []))) ∧ ∀ i m H, W i m H →
      ((Its z).stop i H ∧ Qd H) ∨ ((Its z).go i H ∧ ∃ Nx : Hp → Prop, (∀ H', Nx H' → ∃ m', m' < m ∧ W (i + 1) m' H') ∧ ∀ x H', (Its z).yld i H x H' → gName j x (wipe σ vs) H' fun σ2 H2 => wipe σ2 vs = wipe σ vs ∧ tYes σ2 H2 fun b H3 =>
        if b = true then te σ2 H3 fun y H4 => ∃ acc, H4 D = some (.lst acc) ∧ acc.length < sizeLine ∧ Nx (upd H4 D (.lst (acc ++ [y]))) else Nx H3) :=
  lc_it walk_str (fun i H => H = upd H1 D (.lst (((tl z).take i).map g))) (by rw [List.take_zero]; rfl) (fun _ _ _ _ => trivial)
    (fun i x H H' hi e y => by
      obtain ⟨rfl, c, hc, rfl⟩ := y
      have hc' : (tl z)[i]? = some c := by rw [← hc]; simp [tl]
      refine ⟨hw _, ?_⟩
      refine iteT (B := H' = upd H1 D (.lst (((tl z).take (i + 1)).map g))) ?_
      refine he i c H' hc' e _ ?_
      subst e
      refine ⟨_, upd_same, sz_lt ?_, ?_⟩
      · rw [List.length_map, List.length_take]; have := (List.getElem?_eq_some_iff.mp hc').1; rw [len_tl] at hn; omega
      · rw [upd_upd, List.take_add_one, hc', List.map_append]; rfl)
    (fun H e => by
      have en : z.cps.size = (tl z).length := by simp [tl]
      rw [e, en, List.take_length]; exact q)
end
end G
namespace G
open PySem PySem.Spec PyProof.Rows L2 Evl
/-! ## two lists side by side -/
def All2 {α β : Type} (R : α → β → Prop) (as : List α) (bs : List β) : Prop := as.length = bs.length ∧ ∀ (i : Nat) (a : α) (b : β), as[i]? = some a → bs[i]? = some b → R a b
theorem All2.nil {α β : Type} {R : α → β → Prop} : All2 R [] [] := ⟨rfl, fun _ _ _ h => nomatch h⟩
theorem All2.imp {α β : Type} {R S : α → β → Prop} {as : List α} {bs : List β} (h : All2 R as bs) (f : ∀ a b, R a b → S a b) : All2 S as bs := ⟨h.1, fun i a b h1 h2 => f _ _ (h.2 i a b h1 h2)⟩
theorem All2.snoc {α β : Type} {R : α → β → Prop} {as : List α} {bs : List β} {a : α} {b : β} (h : All2 R as bs) (r : R a b) : All2 R (as ++ [a]) (bs ++ [b]) := by
  refine ⟨by rw [List.length_append, List.length_append, h.1]; rfl, fun i x y h1 h2 => ?_⟩
  by_cases hi : i < as.length
  · rw [List.getElem?_append_left hi] at h1
    rw [List.getElem?_append_left (h.1 ▸ hi)] at h2
    exact h.2 i x y h1 h2
  · rw [List.getElem?_append_right (by omega)] at h1
    rw [List.getElem?_append_right (by rw [← h.1]; omega), ← h.1] at h2
    cases e : i - as.length with
    | zero =>
      rw [e] at h1 h2
      cases h1; cases h2; exact r
    | succ n => rw [e] at h1; exact nomatch h1
theorem All2.at_ {α β : Type} {R : α → β → Prop} {as : List α} {bs : List β} (h : All2 R as bs) {i : Nat} {a : α} (e : as[i]? = some a) : ∃ b, bs[i]? = some b ∧ R a b := by
  have hi : i < bs.length := by rw [← h.1]; exact (List.getElem?_eq_some_iff.mp e).1
  exact ⟨bs[i], List.getElem?_eq_getElem hi, h.2 i a _ e (List.getElem?_eq_getElem hi)⟩
theorem All2.of {α β : Type} {R : α → β → Prop} {as : List α} {bs : List β} (h : All2 R as bs) {i : Nat} {b : β} (e : bs[i]? = some b) : ∃ a, as[i]? = some a ∧ R a b := by
  have hi : i < as.length := by rw [h.1]; exact (List.getElem?_eq_some_iff.mp e).1
  exact ⟨as[i], List.getElem?_eq_getElem hi, h.2 i _ b (List.getElem?_eq_getElem hi) e⟩
theorem All2.cons {α β : Type} {R : α → β → Prop} {as : List α} {bs : List β} {a : α} {b : β} (r : R a b) (h : All2 R as bs) : All2 R (a :: as) (b :: bs) := by
  refine ⟨by rw [List.length_cons, List.length_cons, h.1], fun i x y h1 h2 => ?_⟩
  cases i with
  | zero => cases h1; cases h2; exact r
  | succ i => exact h.2 i x y h1 h2
theorem take_snoc1 {α : Type} {l : List α} {j : Nat} {x : α} (h : l[j]? = some x) : l.take (j + 1) = l.take j ++ [x] := by rw [List.take_add_one, h]; rfl
theorem refs_get {as : List Addr} {k : Nat} {x : V} (hx : (as.map V.ref)[k]? = some x) : ∃ a, as[k]? = some a ∧ x = .ref a := by
  rw [List.getElem?_map] at hx
  cases e : as[k]? with
  | none => rw [e] at hx; cases hx
  | some a => rw [e] at hx; cases hx; exact ⟨a, rfl, rfl⟩
/-! ## walks: any body -/
theorem wk_list {K : PySem.W.Frag} {a : Addr} {xs : List V} {body : (Hp → Prop) → V → Hp → Prop} {H0 : Hp} {Qd : Hp → Prop} (Pv : Nat → Hp → Prop) (h0 : Pv 0 H0) (hl : ∀ i H, i ≤ xs.length → Pv i H → SqL K H a xs)
    (hs : ∀ i x H, xs[i]? = some x → Pv i H → body (Pv (i + 1)) x H) (hd : ∀ H, Pv xs.length H → Qd H) :
    ∃ W : Nat → Nat → Hp → Prop, (∃ m, W 0 m H0) ∧ ∀ i m H, W i m H → ((Itl K a).stop i H ∧ Qd H) ∨ ((Itl K a).go i H ∧ ∃ Nx : Hp → Prop, (∀ H', Nx H' → ∃ m', m' < m ∧ W (i + 1) m' H') ∧ ∀ x H', (Itl K a).yld i H x H' → body Nx x H') := by
  refine ⟨fun i m H => m = xs.length - i ∧ i ≤ xs.length ∧ Pv i H, ⟨xs.length, by simp, Nat.zero_le _, h0⟩, ?_⟩
  rintro i m H ⟨rfl, hi, p⟩
  have q := hl i H hi p
  rcases Nat.lt_or_ge i xs.length with lt | ge
  · have e : xs[i]? = some xs[i] := List.getElem?_eq_getElem lt
    refine .inr ⟨⟨xs, xs[i], q, e⟩, Pv (i + 1), fun H' p' => ⟨xs.length - (i + 1), by omega, rfl, lt, p'⟩, fun x H' y => ?_⟩
    obtain ⟨rfl, y⟩ := y
    exact hs i x _ (y xs q) p
  · have e : i = xs.length := by omega
    subst e
    exact .inl ⟨⟨xs, q, Nat.le_refl _⟩, hd H p⟩
theorem wk_tup {K : PySem.W.Frag} {a : Addr} {xs : List V} {body : (Hp → Prop) → V → Hp → Prop} {H0 : Hp} {Qd : Hp → Prop} (Pv : Nat → Hp → Prop) (h0 : Pv 0 H0) (hl : ∀ i H, i ≤ xs.length → Pv i H → SqT K H a xs)
    (hs : ∀ i x H, xs[i]? = some x → Pv i H → body (Pv (i + 1)) x H) (hd : ∀ H, Pv xs.length H → Qd H) :
    ∃ W : Nat → Nat → Hp → Prop, (∃ m, W 0 m H0) ∧ ∀ i m H, W i m H → ((Itt K a).stop i H ∧ Qd H) ∨ ((Itt K a).go i H ∧ ∃ Nx : Hp → Prop, (∀ H', Nx H' → ∃ m', m' < m ∧ W (i + 1) m' H') ∧ ∀ x H', (Itt K a).yld i H x H' → body Nx x H') := by
  refine ⟨fun i m H => m = xs.length - i ∧ i ≤ xs.length ∧ Pv i H, ⟨xs.length, by simp, Nat.zero_le _, h0⟩, ?_⟩
  rintro i m H ⟨rfl, hi, p⟩
  have q := hl i H hi p
  rcases Nat.lt_or_ge i xs.length with lt | ge
  · have e : xs[i]? = some xs[i] := List.getElem?_eq_getElem lt
    refine .inr ⟨⟨xs, xs[i], q, e⟩, Pv (i + 1), fun H' p' => ⟨xs.length - (i + 1), by omega, rfl, lt, p'⟩, fun x H' y => ?_⟩
    obtain ⟨rfl, y⟩ := y
    exact hs i x _ (y xs q) p
  · have e : i = xs.length := by omega
    subst e
    exact .inl ⟨⟨xs, q, Nat.le_refl _⟩, hd H p⟩
theorem wk_it {J : It} {n : Nat} {Gd : Hp → Prop} {Y : Nat → Hp → V → Hp → Prop} (w : Walk J n Gd Y) {body : (Hp → Prop) → V → Hp → Prop} {H0 : Hp} {Qd : Hp → Prop} (Pv : Nat → Hp → Prop) (h0 : Pv 0 H0) (hG : ∀ i H, i ≤ n → Pv i H → Gd H)
    (hs : ∀ i x H H', i < n → Pv i H → Y i H x H' → body (Pv (i + 1)) x H') (hd : ∀ H, Pv n H → Qd H) :
    ∃ W : Nat → Nat → Hp → Prop, (∃ m, W 0 m H0) ∧ ∀ i m H, W i m H → (J.stop i H ∧ Qd H) ∨ (J.go i H ∧ ∃ Nx : Hp → Prop, (∀ H', Nx H' → ∃ m', m' < m ∧ W (i + 1) m' H') ∧ ∀ x H', J.yld i H x H' → body Nx x H') := by
  refine ⟨fun i m H => m = n - i ∧ i ≤ n ∧ Pv i H, ⟨n, by simp, Nat.zero_le _, h0⟩, ?_⟩
  rintro i m H ⟨rfl, hi, p⟩
  rcases Nat.lt_or_ge i n with lt | ge
  · exact .inr ⟨w.goes i H lt (hG i H hi p), Pv (i + 1), fun H' p' => ⟨n - (i + 1), by omega, rfl, lt, p'⟩, fun x H' y => hs i x H H' lt p (w.yields i H x H' lt (hG i H hi p) y)⟩
  · have e : i = n := by omega
    subst e
    exact .inl ⟨w.stops H (hG i H hi p), hd H p⟩
/-! ## tuples joined and cut, whatever object that is -/
theorem cat_tup {K : PySem.W.Frag} {H : Hp} {a b : Addr} {xs ys : List V} {Q : VK} (ha : H a = some (.tup xs)) (hb : H b = some (.tup ys)) (hl : xs.length + ys.length ≤ sizeLine) (q : ∀ c H', Ex H H' → H' c = some (.tup (xs ++ ys)) → Q (.ref c) H') : rCatA K (.ref a) (.ref b) H Q := by
  refine ⟨a, b, xs, ys, rfl, rfl, SqT.of ha, SqT.of hb, hl, fun e => ?_, fun _ e => ?_, fun _ _ p np => ?_⟩
  · subst e; exact q b H (Ex.refl _) hb
  · subst e; exact q a H (Ex.refl _) (by rw [List.append_nil]; exact ha)
  · exact q p _ (Ex.new np) upd_same
theorem cut_tup {K : PySem.W.Frag} {H : Hp} {a : Addr} {xs : List V} {lo hi : Option Int} {Q : VK} (ha : H a = some (.tup xs)) (q : ∀ c H', Ex H H' → H' c = some (.tup (cutV xs lo hi)) → Q (.ref c) H') : rSlA K (.ref a) lo hi H Q := by
  refine ⟨a, xs, rfl, SqT.of ha, fun e => ?_, fun _ p np => q p _ (Ex.new np) upd_same⟩
  refine q a H (Ex.refl _) ?_
  rw [ha]
  unfold cutV
  rw [e.1, e.2, List.drop_zero, Nat.sub_zero, List.take_length]
theorem cutV_head {xs : List V} {k : Nat} (h : k ≤ xs.length) : cutV xs none (some (k : Int)) = xs.take k := by
  unfold cutV
  rw [HT.sIx_none, HT.sIx_nat, List.drop_zero, Nat.sub_zero, Nat.min_eq_left h]
theorem cutV_tail {xs : List V} {k : Nat} (h : k ≤ xs.length) : cutV xs (some (k : Int)) none = xs.drop k := by
  unfold cutV
  rw [HT.sIx_none, HT.sIx_nat, Nat.min_eq_left h, List.take_of_length_le]
  rw [List.length_drop]; exact Nat.le_refl _
end G
namespace G
open PySem PySem.Spec PyProof.Rows L2 Evl
theorem tYes_in {σ : L2.St} {H : Hp} {A B : Hp → Prop} (h : A H) : tYes σ H (fun b H3 => if b = true then A H3 else B H3) := by
  show if true = true then A H else B H
  exact iteT h
def tabV (bs : List Bool) : HO := .tup (bs.map V.bl)
theorem inV_ints {k : Int} {l : List Int} : inV (.int k) (l.map V.int) = l.contains k := by
  unfold inV
  rw [List.any_map, List.contains_eq_any_beq]
  congr 1
  funext y
  show (y == k) = (k == y)
  rw [Bool.eq_iff_iff]; simp; exact eq_comm
theorem inV_bls {k : Bool} {l : List Bool} : inV (.bl k) (l.map V.bl) = l.contains k := by
  unfold inV
  rw [List.any_map, List.contains_eq_any_beq]
  congr 1
  funext y
  show (y == k) = (k == y)
  cases y <;> cases k <;> rfl
theorem flat_map {α : Type} {f : α → V} (h : ∀ x, flatV (f x) = true) (l : List α) : (l.map f).all flatV = true := by
  rw [List.all_map]
  exact List.all_eq_true.mpr fun x _ => h x
theorem tif_by {tt : TE} {σ : L2.St} {H : Hp} {Q : VK} (R : V → Hp → Prop) (h : ∀ Q' : VK, (∀ v H', R v H' → Q' v H') → tt σ H Q') (rest : ∀ v H', R v H' → Q v H') : tt σ H Q := h Q rest
theorem bl_eq (a b : Bool) : decide (V.bl a = V.bl b) = decide (a = b) := by cases a <;> cases b <;> rfl
end G
namespace G
open PySem PySem.Spec PyProof.Rows L2
def topS (i : Nat) : Stmt := PySem.Challenge.pw_signoff_k78_registers_moved.main.body.getD i (.Pass ⟨0, 0, 0, 0⟩)
abbrev s_Looped_init : Stmt := inClass (topS 11) 0
abbrev s_check_circuit : Stmt := topS 16
abbrev s_sources : Stmt := topS 17
abbrev s_check_nets : Stmt := topS 18
abbrev s_check_pin_range : Stmt := topS 19
abbrev s_check_reg : Stmt := topS 20
abbrev s_least_order : Stmt := topS 21
abbrev s_all_names : Stmt := topS 22
abbrev s_check_names : Stmt := topS 23
abbrev s_check_counts : Stmt := topS 24
abbrev s_check_paths : Stmt := topS 25
abbrev s_gates_read : Stmt := topS 26
abbrev s_cycle : Stmt := topS 27
abbrev s_look_up : Stmt := topS 29
abbrev s_move_forward : Stmt := topS 31
abbrev s_check_move : Stmt := topS 32
abbrev s_without_unread : Stmt := topS 33
abbrev s_law_pool : Stmt := topS 35
abbrev s_law_spread : Stmt := topS 36
abbrev s_law_draw : Stmt := topS 37
abbrev s_law_same : Stmt := topS 38
abbrev s_law_bits : Stmt := topS 39
abbrev s_law_table : Stmt := topS 40
abbrev s_law_register : Stmt := topS 41
abbrev s_law_shuffled : Stmt := topS 42
abbrev s_law_circuit : Stmt := topS 43
abbrev s_law_order : Stmt := topS 44
abbrev s_law_settled : Stmt := topS 45
abbrev s_law_listed_values : Stmt := topS 46
abbrev s_law_moved : Stmt := topS 47
abbrev s_law_even : Stmt := topS 48
abbrev s_law_told : Stmt := topS 49
abbrev s_law_long : Stmt := topS 50
abbrev s_law : Stmt := topS 51
end G
namespace G
open PySem PySem.Spec PyProof.Rows L2 Evl
structure TxtL (mg : Str → Option Value) : Prop where
  int : mg "int" = none
  len : mg "len" = none
  list : mg "list" = none
  range : mg "range" = none
section
variable {P : Program} {w : World} {K : PySem.W.Frag} {mg : Str → Option Value} {base : Heap}
def spSpread : Sp := fun vs H Q _ => ∃ (c : Int), vs = [.int c] ∧ ∀ v : Int, Q (.int v) H
theorem sc_law_spread : FnScope ["cell", "mixed", "total", "k"] ["cell"] (defScope s_law_spread) := ⟨rfl, rfl, rfl, by decide +kernel, rfl, by decide +kernel, by decide +kernel⟩
theorem ok_law_spread (D : Dfd K mg "_law_spread" s_law_spread ["cell"]) (T : TxtL mg) : Has P w K mg base 1 "_law_spread" ["cell"] spSpread := by
  refine D.has fun f fd F => F.ok sc_law_spread (fun vs H Q E h => ?_) (fun cdv A outer s H vs Q E hr h => ?_)
  · obtain ⟨c, rfl, _⟩ := h
    rfl
  · obtain ⟨c, rfl, q⟩ := h
    refine ⟨_, (pss_cons (ps_set (i := 1) sc_law_spread.nd rfl (.inl rfl) (pe_op op_mod (pe_callTy call_int1 (by rfl) T.int (by decide +kernel) (pa_cons (pv 0) pa_nil)) pe_int))
      (pss_cons (ps_set (i := 2) sc_law_spread.nd rfl (.inl rfl) pe_int)
      (pss_cons (ps_for PassesOwn.never rfl (pi_range1 rfl T.range (pa_cons pe_int pa_nil)) (pg_name (i := 3) sc_law_spread.nd rfl (.inl rfl))
        (pss_cons (ps_set (i := 1) sc_law_spread.nd rfl (.inl rfl) (pe_op op_mod (pe_callTy call_int1 (by rfl) T.int (by decide +kernel) (pa_cons (pe_op op_add (pe_op op_add (pe_op op_mul (pv 1) pe_int) pe_int) (pv 3)) pa_nil)) pe_int))
        (pss_one (ps_set (i := 2) sc_law_spread.nd rfl (.inl rfl) (pe_op op_add (pe_op op_mul (pv 2) pe_int) (pv 1))))))
      (pss_one (ps_ret (pv 2)))))), ?_⟩
    refine ⟨_, rfl, .inl ⟨_, rfl, _, _, rfl, rfl, (by show (0 : Int) < 2147483647; decide), 4, rfl, by decide, by decide, for_range (n := 4) (fun _ σ H' => H' = H ∧ ∃ (x y : Int) (z : Option V), σ = [some (.int c), some (.int x), some (.int y), z]) ⟨rfl, _, _, _, rfl⟩ ?_ ?_⟩⟩
    · rintro i σ H' hi ⟨rfl, x, y, z, rfl⟩
      refine ⟨_, rfl, _, _, rfl, rfl, .inr ⟨by decide, by decide⟩, _, _, rfl, rfl, _, rfl, _, _, rfl, rfl, .inl ⟨_, rfl, _, _, rfl, rfl, (by show (0 : Int) < 2147483647; decide), _, rfl, _, _, rfl, rfl, .inr ⟨by decide, by decide⟩, _, rfl, _, _, rfl, rfl, rfl, _, _, _, rfl⟩⟩
    · rintro σ H' ⟨rfl, x, y, z, rfl⟩
      exact ⟨_, rfl, q y⟩
/-- a draw below n -/
def spDraw : Sp := fun vs H Q _ => ∃ (p a : Addr) (n : Int), vs = [.ref p, .int n] ∧ 0 < n ∧ n.natAbs.log2 < 9000 ∧ PoolOk p a H ∧ ∀ (v : Int) (o : HO), 0 ≤ v → v < n → PoolOk p a (upd H p o) → Q (.int v) (upd H p o)
theorem sc_law_draw : FnScope ["pool", "many", "cell", "mixed", "value"] ["pool", "many"] (defScope s_law_draw) := ⟨rfl, rfl, rfl, by decide +kernel, rfl, by decide +kernel, by decide +kernel⟩
theorem ok_law_draw (D : Dfd K mg "_law_draw" s_law_draw ["pool", "many"]) (T : TxtL mg) (C : Has P w K mg base 1 "_law_spread" ["cell"] spSpread) : Has P w K mg base 2 "_law_draw" ["pool", "many"] spDraw := by
  obtain ⟨f_law_spread, d_law_spread, G_law_spread, g_law_spread, k_law_spread, b_law_spread⟩ := C
  refine D.has fun f fd F => F.ok sc_law_draw (fun vs H Q E h => ?_) (fun cdv A outer s H vs Q E hr h => ?_)
  · obtain ⟨p, a, n, rfl, _⟩ := h
    rfl
  · obtain ⟨p, a, n, rfl, n0, n9, hp, q⟩ := h
    refine ⟨_, (pss_cut (ps_if (PW.pt (pw_and (pt_cmpR op_le (pe_ix ix_list (pv 0) pe_int (fun _ _ => rfl)) pe_int (nomark _)) (pw_and1 (pt_cmpR op_lt (pe_ix ix_list (pv 0) pe_int (fun _ _ => rfl)) (pe_callB call_len_seq (by rfl) T.len (by decide +kernel) (pa_cons (pe_ix ix_list (pv 0) pe_int (fun _ _ => rfl)) pa_nil)) (nomark _)))))
      (pss_cons (ps_set (i := 2) sc_law_draw.nd rfl (.inl rfl) (pe_ix ix_list (pe_ix ix_list (pv 0) pe_int (fun _ _ => rfl)) (pe_ix ix_list (pv 0) pe_int (fun _ _ => rfl)) (fun _ _ => rfl)))
      (pss_cons (ps_asg (pe_op op_add (pe_ix ix_list (pv 0) pe_int (fun _ _ => rfl)) pe_int) (pg_sub (pv 0) pe_int set_list))
      (pss_cons (ps_asg (pv 2) (pg_sub (pv 0) pe_int set_list))
      (pss_one (ps_if (pt_cmpR op_lt (pv 2) pe_int (nomark _))
        (pss_one (ps_asg (pe_call G_law_spread hr (by rfl) g_law_spread k_law_spread b_law_spread .nil pass0 (pa_cons (pv 2) pa_nil)) (pg_sub (pv 0) pe_int set_list)))
        pss_nil)))))
      pss_nil)
    (pss_cons (ps_asg (pe_op op_add (pe_ix ix_list (pv 0) pe_int (fun _ _ => rfl)) pe_int) (pg_sub (pv 0) pe_int set_list))
    (pss_cons (ps_if (pt_cmpR op_le (pe_ix ix_list (pv 0) pe_int (fun _ _ => rfl)) pe_int (nomark _))
      (pss_cons (ps_set (i := 3) sc_law_draw.nd rfl (.inl rfl) (pe_op op_mod (pe_callTy call_int1 (by rfl) T.int (by decide +kernel) (pa_cons (pe_op op_add (pe_op op_add (pe_op op_mul (pe_ix ix_list (pv 0) pe_int (fun _ _ => rfl)) pe_int) (pe_op op_mul (pe_ix ix_list (pv 0) pe_int (fun _ _ => rfl)) pe_int)) pe_int) pa_nil)) pe_int))
      (pss_cons (ps_set (i := 3) sc_law_draw.nd rfl (.inl rfl) (pe_op op_mod (pe_callTy call_int1 (by rfl) T.int (by decide +kernel) (pa_cons (pe_op op_add (pe_op op_mul (pv 3) pe_int) (pe_ix ix_list (pv 0) pe_int (fun _ _ => rfl))) pa_nil)) pe_int))
      (pss_one (ps_ret (pe_op op_mod (pe_op op_fdiv (pv 3) pe_int) (pv 1))))))
      pss_nil)
    (pss_cons (ps_set (i := 4) sc_law_draw.nd rfl (.inl rfl) (pe_op op_mod (pe_callTy call_int1 (by rfl) T.int (by decide +kernel) (pa_cons (pe_ix ix_list (pv 0) pe_int (fun _ _ => rfl)) pa_nil)) (pv 1)))
    (pss_cons (ps_asg (pe_op op_fdivW (pe_ix ix_list (pv 0) pe_int (fun _ _ => rfl)) (pv 1)) (pg_sub (pv 0) pe_int set_list))
    (pss_one (ps_ret (pv 4)))))))), ?_⟩
    obtain ⟨ns, i, c, k, s5, hl, ha, hn⟩ := hp
    have hap : a ≠ p := hid_neq ha
    have haH := hid_get ha
    -- the pool as it stands after writes
    have pk : ∀ (i' : Nat) (c' k' s' : Int), PoolOk p a (upd H p (.lst [.ref a, .int i', .int c', .int k', .int s'])) := fun i' c' k' s' =>
      ⟨ns, i', c', k', s', upd_same, by rw [hid_upd]; exact ha, hn⟩
    refine ⟨fun σ H' => ∃ (i' : Nat) (c' k' s' : Int) (o1 : Option V), σ = [some (.ref p), some (.int n), o1, none, none] ∧ H' p = some (.lst [.ref a, .int i', .int c', .int k', .int s']) ∧ (∀ o, upd H' p o = upd H p o), ?_, ?_⟩
    · refine ⟨_, rfl, _, _, _, _, rfl, rfl, SqL.of hl, atI_nat (j := 2) rfl, _, _, rfl, rfl, _, rfl, ite2 (fun e1 => ?_) (fun e1 => ?_)⟩
      · refine ⟨_, rfl, _, _, _, _, rfl, rfl, SqL.of hl, atI_nat (j := 1) rfl, _, rfl, _, _, _, _, rfl, rfl, SqL.of hl, atI_nat (j := 0) rfl, _, _, rfl, .inl (SqL.of haH), _, _, rfl, rfl, _, rfl, ite2 (fun e2 => ?_) (fun e2 => ?_)⟩
        · have hi : i < (ns.map V.int).length := by have := of_decide_eq_true e2; omega
          have hi' : i < ns.length := by rw [List.length_map] at hi; exact hi
          have gi : (ns.map V.int)[i]? = some (.int ns[i]) := by rw [List.getElem?_map, List.getElem?_eq_getElem hi']; rfl
          refine ⟨_, rfl, _, _, _, _, rfl, rfl, SqL.of hl, atI_nat (j := 0) rfl, _, rfl, _, _, _, _, rfl, rfl, SqL.of hl, atI_nat (j := 1) rfl, _, _, _, _, rfl, rfl, SqL.of haH, atI_nat gi, ?_⟩
          refine ⟨_, rfl, _, _, _, _, rfl, rfl, SqL.of hl, atI_nat (j := 1) rfl, _, _, rfl, rfl, _, rfl, _, _, _, 1, rfl, rfl, hl, rfl, ?_⟩
          refine ⟨_, rfl, _, rfl, _, _, _, 2, rfl, rfl, upd_same, rfl, ?_⟩
          refine ⟨_, rfl, _, _, rfl, rfl, _, rfl, ite2 (fun e3 => ?_) (fun e3 => ?_)⟩
          · refine ⟨_, rfl, _, rfl, fun v => ⟨_, rfl, _, _, _, 2, rfl, rfl, upd_same, rfl, ?_⟩⟩
            exact ⟨i + 1, v, k, s5, _, rfl, upd_same, fun o => by rw [upd_upd, upd_upd, upd_upd]⟩
          · exact ⟨i + 1, ns[i], k, s5, _, rfl, upd_same, fun o => by rw [upd_upd, upd_upd]⟩
        · exact ⟨i, c, k, s5, _, rfl, hl, fun _ => rfl⟩
      · exact iteF ⟨i, c, k, s5, _, rfl, hl, fun _ => rfl⟩
    · rintro σ H' ⟨i, c, k, s5, o1, rfl, hl', hu⟩
      refine ⟨_, rfl, _, _, _, _, rfl, rfl, SqL.of hl', atI_nat (j := 3) rfl, _, _, rfl, rfl, _, rfl, _, _, _, 3, rfl, rfl, hl', rfl, ?_⟩
      refine ⟨_, rfl, _, _, _, _, rfl, rfl, SqL.of upd_same, atI_nat (j := 2) rfl, _, _, rfl, rfl, _, rfl, ite2 (fun e1 => ?_) (fun e1 => ?_)⟩
      · refine ⟨_, rfl, _, _, _, _, rfl, rfl, SqL.of upd_same, atI_nat (j := 4) rfl, _, _, rfl, rfl, .inr ⟨by decide, by decide⟩, _, rfl, _, _, _, _, rfl, rfl, SqL.of upd_same, atI_nat (j := 3) rfl, _, _, rfl, rfl, .inr ⟨by decide, by decide⟩, _, _, rfl, rfl, _, _, rfl, rfl, .inl ⟨_, rfl, _, _, rfl, rfl, (by show (0 : Int) < 2147483647; decide), ?_⟩⟩
        refine ⟨_, rfl, _, _, rfl, rfl, .inr ⟨by decide, by decide⟩, _, rfl, _, _, _, _, rfl, rfl, SqL.of upd_same, atI_nat (j := 3) rfl, _, _, rfl, rfl, .inl ⟨_, rfl, _, _, rfl, rfl, (by show (0 : Int) < 2147483629; decide), ?_⟩⟩
        refine ⟨_, rfl, _, _, rfl, rfl, ⟨by decide, by decide⟩, _, rfl, _, _, rfl, rfl, n0, ?_⟩
        show Q _ _
        rw [hu]
        exact q _ _ (Int.emod_nonneg _ (by omega)) (Int.emod_lt_of_pos _ n0) (pk i c (k + 1) s5)
      · refine ⟨_, rfl, _, _, _, _, rfl, rfl, SqL.of upd_same, atI_nat (j := 2) rfl, .inl ⟨_, rfl, _, rfl, _, _, rfl, rfl, n0, ?_⟩⟩
        refine ⟨_, rfl, _, _, _, _, rfl, rfl, SqL.of upd_same, atI_nat (j := 2) rfl, _, rfl, _, _, rfl, rfl, ⟨n0, n9⟩, _, rfl, _, _, _, 2, rfl, rfl, upd_same, rfl, _, rfl, ?_⟩
        show Q _ _
        rw [upd_upd, hu]
        exact q _ _ (Int.emod_nonneg _ (by omega)) (Int.emod_lt_of_pos _ n0) (pk i (c / n) (k + 1) s5)
/-- the same, the heap behind it a letter -/
def spDrawX : Sp := fun vs H Q _ => ∃ (p a : Addr) (n : Int), vs = [.ref p, .int n] ∧ 0 < n ∧ n ≤ 2 ^ 70 ∧ PoolOk p a H ∧ ∀ (v : Nat) (H' : Hp), (v : Int) < n → Px p a H H' → (∀ b, b ≠ p → H' b = H b) → Q (.int v) H'
theorem log2_small {n : Int} (h0 : 0 < n) (h : n ≤ 2 ^ 70) : n.natAbs.log2 < 9000 := by
  have h1 : n.natAbs < 2 ^ 71 := by omega
  have := PySem.Flt.log2_lt_of (by decide : 0 < 71) h1
  omega
theorem drawX (C : Has P w K mg base 2 "_law_draw" ["pool", "many"] spDraw) : Has P w K mg base 2 "_law_draw" ["pool", "many"] spDrawX :=
  C.imp fun vs H Q E h => by
    obtain ⟨p, a, n, rfl, h0, h1, hp, q⟩ := h
    refine ⟨p, a, n, rfl, h0, log2_small h0 h1, hp, fun v o v0 v1 hq => ?_⟩
    have e : v = ((v.toNat : Nat) : Int) := by omega
    rw [e]
    exact q v.toNat _ (by omega) (Px.draw hp hq) fun b hb => upd_ne hb
end
end G
namespace G
open PySem PySem.Spec PyProof.Rows L2 Evl
/-! ## data -/
inductive D where
  | non | bl (b : Bool) | int (i : Int) | str (s : Str) | tup (l : List D) | lst (l : List D)
def okD : Nat → D → Prop
  | 0, .tup _ => False
  | 0, .lst _ => False
  | n + 1, .tup l => l.length < 2 ^ 61 ∧ ∀ d ∈ l, okD n d
  | n + 1, .lst l => l.length < 2 ^ 61 ∧ ∀ d ∈ l, okD n d
  | _, _ => True
inductive Rep (H : Hp) : V → D → Prop where
  | non : Rep H .non .non
  | bl (b : Bool) : Rep H (.bl b) (.bl b)
  | int (i : Int) : Rep H (.int i) (.int i)
  | str (s : Str) : Rep H (.str s) (.str s)
  | tup {a : Addr} {xs : List V} {ds : List D} (h : H a = some (.tup xs)) (hl : xs.length = ds.length) (hr : ∀ (i : Nat) (x : V) (d : D), xs[i]? = some x → ds[i]? = some d → Rep H x d) : Rep H (.ref a) (.tup ds)
  | lst {a : Addr} {xs : List V} {ds : List D} (h : H a = some (.lst xs)) (hl : xs.length = ds.length) (hr : ∀ (i : Nat) (x : V) (d : D), xs[i]? = some x → ds[i]? = some d → Rep H x d) : Rep H (.ref a) (.lst ds)
theorem Rep.ex {H H' : Hp} (e : Ex H H') {x : V} {d : D} (r : Rep H x d) : Rep H' x d := by
  induction r with
  | non => exact .non
  | bl b => exact .bl b
  | int i => exact .int i
  | str s => exact .str s
  | tup h hl _ ih => exact .tup (e _ _ h) hl ih
  | lst h hl _ ih => exact .lst (e _ _ h) hl ih
theorem okD.mono : ∀ {n m : Nat} {d : D}, n ≤ m → okD n d → okD m d
  | 0, 0, d, _, h => h
  | 0, m + 1, .non, _, _ => trivial
  | 0, m + 1, .bl _, _, _ => trivial
  | 0, m + 1, .int _, _, _ => trivial
  | 0, m + 1, .str _, _, _ => trivial
  | 0, m + 1, .tup _, _, h => h.elim
  | 0, m + 1, .lst _, _, h => h.elim
  | n + 1, m + 1, .non, _, _ => trivial
  | n + 1, m + 1, .bl _, _, _ => trivial
  | n + 1, m + 1, .int _, _, _ => trivial
  | n + 1, m + 1, .str _, _, _ => trivial
  | n + 1, m + 1, .tup l, le, h => ⟨h.1, fun d hd => okD.mono (Nat.le_of_succ_le_succ le) (h.2 d hd)⟩
  | n + 1, m + 1, .lst l, le, h => ⟨h.1, fun d hd => okD.mono (Nat.le_of_succ_le_succ le) (h.2 d hd)⟩
structure TxtS (mg : Str → Option Value) : Prop where
  isinstance : mg "isinstance" = none
  tuple : mg "tuple" = none
  list : mg "list" = none
  len : mg "len" = none
  range : mg "range" = none
  bool : mg "bool" = none
  int : mg "int" = none
  str : mg "str" = none
section
variable {P : Program} {w : World} {K : PySem.W.Frag} {mg : Str → Option Value} {base : Heap}
/-- equal data: the answer is True -/
def spSame : Nat → Sp
  | 0 => fun _ _ _ _ => False
  | n + 1 => fun vs H Q _ => ∃ (x y : V) (d : D), vs = [x, y] ∧ Rep H x d ∧ Rep H y d ∧ okD n d ∧ Q (.bl true) H
theorem sc_law_same : FnScope ["actual", "due", "k"] ["actual", "due"] (defScope s_law_same) := ⟨rfl, rfl, rfl, by decide +kernel, rfl, by decide +kernel, by decide +kernel⟩
theorem fn_law_same {f : Addr} {fd : FuncData} (F : Fun K "_law_same" "_law_same" s_law_same f fd) (g_law_same : mg "_law_same" = some (.ref f)) (b_law_same : Binds K fd ["actual", "due"] []) (T : TxtS mg) : ∀ n, FnOk P w K mg base CX0 n f fd ["actual", "due"] (spSame n)
  | 0 => ⟨fun _ _ _ _ h => h.elim, fun _ _ _ _ _ _ _ _ _ _ _ _ _ h => h.elim⟩
  | n + 1 => by
    have G_law_same := fn_law_same F g_law_same b_law_same T n
    have k_law_same := F.kp
    refine F.ok sc_law_same (fun vs H Q E h => ?_) (fun cdv A outer s H vs Q E hr h => ?_)
    · obtain ⟨x, y, d, rfl, _⟩ := h
      rfl
    · obtain ⟨x, y, d, rfl, rx, ry, hd, q⟩ := h
      refine ⟨_, (pss_cons (ps_if (PW.pt (pw_or (pt_val (pe_callB call_isi (by rfl) T.isinstance (by decide +kernel) (pa_cons (pv 1) (pa_cons (pe_bltn (v := .ty "tuple") (by rfl) T.tuple (by decide +kernel) rfl) pa_nil)))) (pw_or1 (pt_val (pe_callB call_isi (by rfl) T.isinstance (by decide +kernel) (pa_cons (pv 1) (pa_cons (pe_bltn (v := .ty "list") (by rfl) T.list (by decide +kernel) rfl) pa_nil)))))))
      (pss_cons (ps_if (PW.pt (pw_or (pt_cmpR op_ne (pe_callB call_isi (by rfl) T.isinstance (by decide +kernel) (pa_cons (pv 1) (pa_cons (pe_bltn (v := .ty "tuple") (by rfl) T.tuple (by decide +kernel) rfl) pa_nil))) (pe_callB call_isi (by rfl) T.isinstance (by decide +kernel) (pa_cons (pv 0) (pa_cons (pe_bltn (v := .ty "tuple") (by rfl) T.tuple (by decide +kernel) rfl) pa_nil))) (nomark _)) (pw_or1 (pt_cmpR op_ne (pe_callB call_isi (by rfl) T.isinstance (by decide +kernel) (pa_cons (pv 1) (pa_cons (pe_bltn (v := .ty "list") (by rfl) T.list (by decide +kernel) rfl) pa_nil))) (pe_callB call_isi (by rfl) T.isinstance (by decide +kernel) (pa_cons (pv 0) (pa_cons (pe_bltn (v := .ty "list") (by rfl) T.list (by decide +kernel) rfl) pa_nil))) (nomark _)))))
        (pss_one (ps_ret pe_bl))
        pss_nil)
      (pss_cons (ps_if (pt_cmpR op_ne (pe_callB call_len_seq (by rfl) T.len (by decide +kernel) (pa_cons (pv 0) pa_nil)) (pe_callB call_len_seq (by rfl) T.len (by decide +kernel) (pa_cons (pv 1) pa_nil)) (nomark _))
        (pss_one (ps_ret pe_bl))
        pss_nil)
      (pss_cons (ps_for PassesOwn.never rfl (pi_range1 rfl T.range (pa_cons (pe_callB call_len_seq (by rfl) T.len (by decide +kernel) (pa_cons (pv 1) pa_nil)) pa_nil)) (pg_name (i := 2) sc_law_same.nd rfl (.inl rfl))
        (pss_one (ps_if (pt_not (pt_val (pe_call G_law_same hr (by rfl) g_law_same k_law_same b_law_same .nil pass0 (pa_cons (pe_ix ix_seq (pv 0) (pv 2) (fun _ _ => rfl)) (pa_cons (pe_ix ix_seq (pv 1) (pv 2) (fun _ _ => rfl)) pa_nil)))))
          (pss_one (ps_ret pe_bl))
          pss_nil)))
      (pss_one (ps_ret pe_bl)))))
      pss_nil)
    (pss_cons (ps_if (pt_cmpR op_isN (pv 1) pe_non (nomark _))
      (pss_one (ps_ret (pe_cmpR op_isN (pv 0) pe_non (nomark _))))
      pss_nil)
    (pss_cons (ps_if (pt_val (pe_callB call_isi (by rfl) T.isinstance (by decide +kernel) (pa_cons (pv 1) (pa_cons (pe_bltn (v := .ty "bool") (by rfl) T.bool (by decide +kernel) rfl) pa_nil))))
      (pss_one (ps_ret (pe_and (pe_callB call_isi (by rfl) T.isinstance (by decide +kernel) (pa_cons (pv 0) (pa_cons (pe_bltn (v := .ty "bool") (by rfl) T.bool (by decide +kernel) rfl) pa_nil))) (pe_one (pe_cmpR op_eq (pv 0) (pv 1) (nomark _))))))
      pss_nil)
    (pss_cons (ps_if (pt_val (pe_callB call_isi (by rfl) T.isinstance (by decide +kernel) (pa_cons (pv 1) (pa_cons (pe_bltn (v := .ty "int") (by rfl) T.int (by decide +kernel) rfl) pa_nil))))
      (pss_one (ps_ret (pe_and (pe_callB call_isi (by rfl) T.isinstance (by decide +kernel) (pa_cons (pv 0) (pa_cons (pe_bltn (v := .ty "int") (by rfl) T.int (by decide +kernel) rfl) pa_nil))) (pe_and (pe_not (pe_callB call_isi (by rfl) T.isinstance (by decide +kernel) (pa_cons (pv 0) (pa_cons (pe_bltn (v := .ty "bool") (by rfl) T.bool (by decide +kernel) rfl) pa_nil)))) (pe_one (pe_cmpR op_eq (pv 0) (pv 1) (nomark _)))))))
      pss_nil)
    (pss_one (ps_ret (pe_and (pe_callB call_isi (by rfl) T.isinstance (by decide +kernel) (pa_cons (pv 0) (pa_cons (pe_bltn (v := .ty "str") (by rfl) T.str (by decide +kernel) rfl) pa_nil))) (pe_one (pe_cmpR op_eq (pv 0) (pv 1) (nomark _)))))))))), ?_⟩
      cases rx with
      | non =>
        cases ry
        refine ⟨_, rfl, _, _, _, _, _, rfl, .ty "tuple", .base .non, kit_ty (a := "NoneType") (r := false) (by decide +kernel), _, rfl, iteF ⟨_, rfl, _, _, _, _, _, rfl, .ty "list", .base .non, kit_ty (a := "NoneType") (r := false) (by decide +kernel), _, rfl, iteF ⟨_, rfl, rfl, _, rfl, iteT ⟨_, rfl, rfl, ?_⟩⟩⟩⟩
        exact q
      | bl b =>
        cases ry
        refine ⟨_, rfl, _, _, _, _, _, rfl, .ty "tuple", .base (.bl _), kit_ty (a := "bool") (r := false) (by decide +kernel), _, rfl, iteF ⟨_, rfl, _, _, _, _, _, rfl, .ty "list", .base (.bl _), kit_ty (a := "bool") (r := false) (by decide +kernel), _, rfl, iteF ⟨_, rfl, rfl, _, rfl, iteF ⟨_, rfl, _, _, _, _, _, rfl, .ty "bool", .base (.bl _), kit_ty (a := "bool") (r := true) (by decide +kernel), _, rfl, iteT ⟨_, rfl, _, _, _, _, _, rfl, .ty "bool", .base (.bl _), kit_ty (a := "bool") (r := true) (by decide +kernel), _, rfl, iteT ⟨_, rfl, _, rfl, rfl, ?_⟩⟩⟩⟩⟩⟩
        rw [decide_eq_true rfl]
        exact q
      | int b =>
        cases ry
        refine ⟨_, rfl, _, _, _, _, _, rfl, .ty "tuple", .base (.int _), kit_ty (a := "int") (r := false) (by decide +kernel), _, rfl, iteF ⟨_, rfl, _, _, _, _, _, rfl, .ty "list", .base (.int _), kit_ty (a := "int") (r := false) (by decide +kernel), _, rfl, iteF ⟨_, rfl, rfl, _, rfl, iteF ⟨_, rfl, _, _, _, _, _, rfl, .ty "bool", .base (.int _), kit_ty (a := "int") (r := false) (by decide +kernel), _, rfl, iteF ⟨_, rfl, _, _, _, _, _, rfl, .ty "int", .base (.int _), kit_ty (a := "int") (r := true) (by decide +kernel), _, rfl, iteT ⟨_, rfl, _, _, _, _, _, rfl, .ty "int", .base (.int _), kit_ty (a := "int") (r := true) (by decide +kernel), _, rfl, iteT ⟨_, rfl, _, _, _, _, _, rfl, .ty "bool", .base (.int _), kit_ty (a := "int") (r := false) (by decide +kernel), _, rfl, _, rfl, iteT ⟨_, rfl, _, rfl, rfl, ?_⟩⟩⟩⟩⟩⟩⟩⟩
        rw [decide_eq_true rfl]
        exact q
      | str b =>
        cases ry
        refine ⟨_, rfl, _, _, _, _, _, rfl, .ty "tuple", .base (.str _), kit_ty (a := "str") (r := false) (by decide +kernel), _, rfl, iteF ⟨_, rfl, _, _, _, _, _, rfl, .ty "list", .base (.str _), kit_ty (a := "str") (r := false) (by decide +kernel), _, rfl, iteF ⟨_, rfl, rfl, _, rfl, iteF ⟨_, rfl, _, _, _, _, _, rfl, .ty "bool", .base (.str _), kit_ty (a := "str") (r := false) (by decide +kernel), _, rfl, iteF ⟨_, rfl, _, _, _, _, _, rfl, .ty "int", .base (.str _), kit_ty (a := "str") (r := false) (by decide +kernel), _, rfl, iteF ⟨_, rfl, _, _, _, _, _, rfl, .ty "str", .base (.str _), kit_ty (a := "str") (r := true) (by decide +kernel), _, rfl, iteT ⟨_, rfl, _, rfl, rfl, ?_⟩⟩⟩⟩⟩⟩⟩
        rw [decide_eq_true rfl]
        exact q
      | @tup a xs ds hx lx rx =>
        cases ry with
        | @tup b ys _ hy ly ry =>
          cases n with
          | zero => exact hd.elim
          | succ m =>
            obtain ⟨hlen, hall⟩ := hd
            refine ⟨_, rfl, _, _, _, _, _, rfl, .ty "tuple", .base (.tup hy), kit_ty (a := "tuple") (r := true) (by decide +kernel), _, rfl, iteT (iteT ⟨_, rfl, _, _, _, _, _, rfl, .ty "tuple", .base (.tup hy), kit_ty (a := "tuple") (r := true) (by decide +kernel), _, rfl, _, _, _, _, _, rfl, .ty "tuple", .base (.tup hx), kit_ty (a := "tuple") (r := true) (by decide +kernel), rfl, _, rfl, iteF ⟨_, rfl, _, _, _, _, _, rfl, .ty "list", .base (.tup hy), kit_ty (a := "tuple") (r := false) (by decide +kernel), _, rfl, _, _, _, _, _, rfl, .ty "list", .base (.tup hx), kit_ty (a := "tuple") (r := false) (by decide +kernel), rfl, _, rfl, iteF ⟨_, rfl, _, _, rfl, .inr (SqT.of hx), _, rfl, _, _, rfl, .inr (SqT.of hy), rfl, _, rfl, ?_⟩⟩⟩)⟩
            have el : decide (V.int (xs.length : Int) = V.int (ys.length : Int)) = true := decide_eq_true (by rw [lx, ly])
            rw [el]
            refine ⟨_, rfl, _, _, rfl, .inr (SqT.of hy), _, rfl, by omega, by omega, for_range (n := (ys.length : Int).toNat) (fun _ σ H' => H' = H ∧ ∃ z : Option V, σ = [some (.ref a), some (.ref b), z]) ⟨rfl, _, rfl⟩ ?_ ?_⟩
            · rintro i σ H' hi ⟨rfl, z, rfl⟩
              have hi' : i < ds.length := by omega
              have e0 : (0 : Int) + (i : Int) = (i : Int) := Int.zero_add _
              have g1 : xs[i]? = some xs[i] := List.getElem?_eq_getElem (by omega)
              have g2 : ys[i]? = some ys[i] := List.getElem?_eq_getElem (by omega)
              have g3 : ds[i]? = some ds[i] := List.getElem?_eq_getElem hi'
              rw [e0]
              refine ⟨_, rfl, _, rfl, .inr (.inl ⟨_, _, _, _, rfl, rfl, SqT.of hx, atI_nat g1, _, rfl, _, rfl, .inr (.inl ⟨_, _, _, _, rfl, rfl, SqT.of hy, atI_nat g2, ?_⟩)⟩)⟩
              exact ⟨_, _, ds[i], rfl, rx i _ _ g1 g3, ry i _ _ g2 g3, hall _ (List.getElem_mem hi'), _, rfl, rfl, _, rfl⟩
            · rintro σ H' ⟨rfl, z, rfl⟩
              exact q
      | @lst a xs ds hx lx rx =>
        cases ry with
        | @lst b ys _ hy ly ry =>
          cases n with
          | zero => exact hd.elim
          | succ m =>
            obtain ⟨hlen, hall⟩ := hd
            refine ⟨_, rfl, _, _, _, _, _, rfl, .ty "tuple", .base (.lst hy), kit_ty (a := "list") (r := false) (by decide +kernel), _, rfl, iteF ⟨_, rfl, _, _, _, _, _, rfl, .ty "list", .base (.lst hy), kit_ty (a := "list") (r := true) (by decide +kernel), _, rfl, iteT ⟨_, rfl, _, _, _, _, _, rfl, .ty "tuple", .base (.lst hy), kit_ty (a := "list") (r := false) (by decide +kernel), _, rfl, _, _, _, _, _, rfl, .ty "tuple", .base (.lst hx), kit_ty (a := "list") (r := false) (by decide +kernel), rfl, _, rfl, iteF ⟨_, rfl, _, _, _, _, _, rfl, .ty "list", .base (.lst hy), kit_ty (a := "list") (r := true) (by decide +kernel), _, rfl, _, _, _, _, _, rfl, .ty "list", .base (.lst hx), kit_ty (a := "list") (r := true) (by decide +kernel), rfl, _, rfl, iteF ⟨_, rfl, _, _, rfl, .inl (SqL.of hx), _, rfl, _, _, rfl, .inl (SqL.of hy), rfl, _, rfl, ?_⟩⟩⟩⟩⟩
            have el : decide (V.int (xs.length : Int) = V.int (ys.length : Int)) = true := decide_eq_true (by rw [lx, ly])
            rw [el]
            refine ⟨_, rfl, _, _, rfl, .inl (SqL.of hy), _, rfl, by omega, by omega, for_range (n := (ys.length : Int).toNat) (fun _ σ H' => H' = H ∧ ∃ z : Option V, σ = [some (.ref a), some (.ref b), z]) ⟨rfl, _, rfl⟩ ?_ ?_⟩
            · rintro i σ H' hi ⟨rfl, z, rfl⟩
              have hi' : i < ds.length := by omega
              have e0 : (0 : Int) + (i : Int) = (i : Int) := Int.zero_add _
              have g1 : xs[i]? = some xs[i] := List.getElem?_eq_getElem (by omega)
              have g2 : ys[i]? = some ys[i] := List.getElem?_eq_getElem (by omega)
              have g3 : ds[i]? = some ds[i] := List.getElem?_eq_getElem hi'
              rw [e0]
              refine ⟨_, rfl, _, rfl, .inl ⟨_, _, _, _, rfl, rfl, SqL.of hx, atI_nat g1, _, rfl, _, rfl, .inl ⟨_, _, _, _, rfl, rfl, SqL.of hy, atI_nat g2, ?_⟩⟩⟩
              exact ⟨_, _, ds[i], rfl, rx i _ _ g1 g3, ry i _ _ g2 g3, hall _ (List.getElem_mem hi'), _, rfl, rfl, _, rfl⟩
            · rintro σ H' ⟨rfl, z, rfl⟩
              exact q
theorem ok_law_same (D : Dfd K mg "_law_same" s_law_same ["actual", "due"]) (T : TxtS mg) (n : Nat) : Has P w K mg base n "_law_same" ["actual", "due"] (spSame n) := by
  obtain ⟨f, fd, F, g, b⟩ := D
  exact ⟨f, fd, fn_law_same F g b T n, g, F.kp, b⟩
end
/-! ## data made of flat lists -/
theorem rep_map {H : Hp} {α : Type} {f : α → V} {g : α → D} {l : List α} (h : ∀ x, Rep H (f x) (g x)) : (l.map f).length = (l.map g).length ∧ ∀ (i : Nat) (x : V) (d : D), (l.map f)[i]? = some x → (l.map g)[i]? = some d → Rep H x d := by
  refine ⟨by rw [List.length_map, List.length_map], fun i x d hx hd => ?_⟩
  rw [List.getElem?_map] at hx hd
  cases e : l[i]? with
  | none => rw [e] at hx; cases hx
  | some y =>
    rw [e] at hx hd
    have e1 : f y = x := Option.some.inj hx
    have e2 : g y = d := Option.some.inj hd
    rw [← e1, ← e2]
    exact h y
theorem rep_ints {H : Hp} {a : Addr} {l : List Int} (h : H a = some (.lst (l.map V.int))) : Rep H (.ref a) (.lst (l.map D.int)) :=
  let r := rep_map (H := H) (f := V.int) (g := D.int) (l := l) fun i => .int i
  .lst h r.1 r.2
theorem rep_bls {H : Hp} {a : Addr} {l : List Bool} (h : H a = some (.tup (l.map V.bl))) : Rep H (.ref a) (.tup (l.map D.bl)) :=
  let r := rep_map (H := H) (f := V.bl) (g := D.bl) (l := l) fun i => .bl i
  .tup h r.1 r.2
theorem okD_ints {l : List Int} (h : l.length < 2 ^ 61) : okD 1 (.lst (l.map D.int)) := ⟨by rw [List.length_map]; exact h, fun d hd => by obtain ⟨_, _, rfl⟩ := List.mem_map.mp hd; trivial⟩
end G
namespace G
open PySem PySem.Spec PyProof.Rows L2 Evl
section
variable {P : Program} {w : World} {K : PySem.W.Frag} {mg : Str → Option Value} {base : Heap}
theorem cutV_mem {xs : List V} {lo hi : Option Int} {i : Nat} {x : V} (h : (cutV xs lo hi)[i]? = some x) : x ∈ xs := by
  unfold cutV at h
  exact List.mem_of_mem_drop (List.mem_of_mem_take (List.mem_of_getElem? h))
theorem int_of {ns : List Int} {x : V} (h : x ∈ ns.map V.int) : ∃ z, x = .int z := by
  obtain ⟨z, _, e⟩ := List.mem_map.mp h
  exact ⟨z, e.symm⟩
def spPool (K : PySem.W.Frag) : Sp := fun vs H Q _ => ∃ (s : Addr) (ns : List Int), vs = [.ref s] ∧ SqL K H s (ns.map V.int) ∧ ns.length ≤ 1000 ∧ ∀ (p a : Addr) (H' : Hp), PoolOk p a H' → Ex H H' → H p = none → Q (.ref p) H'
theorem sc_law_pool : FnScope ["script", "salt", "cell"] ["script"] (defScope s_law_pool) := ⟨rfl, rfl, rfl, by decide +kernel, rfl, by decide +kernel, by decide +kernel⟩
theorem ok_law_pool (D : Dfd K mg "_law_pool" s_law_pool ["script"]) (T : TxtL mg) : Has P w K mg base 1 "_law_pool" ["script"] (spPool K) := by
  refine D.has fun f fd F => F.ok sc_law_pool (fun vs H Q E h => ?_) (fun cdv A outer s H vs Q E hr h => ?_)
  · obtain ⟨c, _, rfl, _⟩ := h
    rfl
  · obtain ⟨sa, ns, rfl, hs, hn, q⟩ := h
    refine ⟨_, (pss_cons (ps_set (i := 1) sc_law_pool.nd rfl (.inl rfl) pe_int)
      (pss_cons (ps_for PassesOwn.never rfl (pi_list (pe_slice sl_list (pv 0) po_none (po_some pe_int))) (pg_name (i := 2) sc_law_pool.nd rfl (.inl rfl))
        (pss_one (ps_set (i := 1) sc_law_pool.nd rfl (.inl rfl) (pe_op op_mod (pe_callTy call_int1 (by rfl) T.int (by decide +kernel) (pa_cons (pe_op op_add (pe_op op_mul (pv 1) pe_int) (pv 2)) pa_nil)) pe_int))))
      (pss_one (ps_ret (pe_lst (pa_cons (pe_callTy call_list_of (by rfl) T.list (by decide +kernel) (pa_cons (pv 0) pa_nil)) (pa_cons pe_int (pa_cons pe_int (pa_cons pe_int (pa_cons (pv 1) pa_nil)))))))))), ?_⟩
    refine ⟨_, rfl, _, rfl, sa, _, rfl, hs, fun c nc => ⟨c, rfl, ⟨_, SqL.of upd_same⟩, for_list (K := K) (a := c) (xs := cutV (ns.map V.int) none (some 63)) (fun _ σ H' => H' = upd H c (.lst (cutV (ns.map V.int) none (some 63))) ∧ ∃ (x : Int) (z : Option V), σ = [some (.ref sa), some (.int x), z]) ⟨rfl, _, _, rfl⟩ ?_ ?_ ?_⟩⟩
    · rintro i σ H' _ ⟨rfl, _⟩
      exact SqL.of upd_same
    · rintro i x σ H' hi ⟨rfl, y, z, rfl⟩
      obtain ⟨m, rfl⟩ := int_of (cutV_mem hi)
      exact ⟨_, rfl, _, _, rfl, rfl, .inr ⟨by decide, by decide⟩, _, rfl, _, _, rfl, rfl, .inl ⟨_, rfl, _, _, rfl, rfl, (by show (0 : Int) < 1000003; decide), rfl, _, _, rfl⟩⟩
    · rintro σ H' ⟨rfl, y, z, rfl⟩
      have e1 : Ex H (upd H c (.lst (cutV (ns.map V.int) none (some 63)))) := Ex.new nc
      refine ⟨_, rfl, _, _, rfl, .inl (ex_l e1 hs), fun l nl => ⟨_, rfl, (by show 5 ≤ sizeLine; decide), fun p np => ?_⟩⟩
      have e2 := e1.trans (Ex.new (o := .lst (ns.map V.int)) nl)
      have npl : l ≠ p := ne_of_none upd_same np
      exact q p l _ ⟨ns, 0, 0, 0, y, upd_same, by rw [hid_ne npl, upd_ne npl]; exact upd_same, hn⟩ (e2.trans (Ex.new np)) (fresh_back e2 np)
end
end G
namespace G
open PySem PySem.Spec PyProof.Rows L2 Evl
def bitsOf (x m : Nat) : List Bool := (List.range m).map fun k => x.testBit k
theorem bitsOf_len (x m : Nat) : (bitsOf x m).length = m := by unfold bitsOf; rw [List.length_map, List.length_range]
theorem bitsOf_succ (x m : Nat) : bitsOf x (m + 1) = bitsOf x m ++ [x.testBit m] := by unfold bitsOf; rw [List.range_succ, List.map_append]; rfl
theorem bit_at (x i : Nat) : decide (V.int (((x / 2 ^ i : Nat) : Int) % 2) = V.int 1) = x.testBit i := by
  rw [Nat.testBit_eq_decide_div_mod_eq, Bool.eq_iff_iff, decide_eq_true_iff, decide_eq_true_iff, V.int.injEq]
  omega
theorem half_at (x i : Nat) : ((x / 2 ^ i : Nat) : Int) / 2 = ((x / 2 ^ (i + 1) : Nat) : Int) := by
  rw [Nat.pow_succ, ← Nat.div_div_eq_div_mul]
  omega
section
variable {P : Program} {w : World} {K : PySem.W.Frag} {mg : Str → Option Value} {base : Heap}
def spBits : Sp := fun vs H Q _ => ∃ (x m : Nat), vs = [.int x, .int m] ∧ m ≤ 1000 ∧ ∀ (t : Addr) (H' : Hp), H t = none → Ex H H' → H' t = some (.tup ((bitsOf x m).map V.bl)) → Q (.ref t) H'
theorem sc_law_bits : FnScope ["index", "many", "out", "k"] ["index", "many"] (defScope s_law_bits) := ⟨rfl, rfl, rfl, by decide +kernel, rfl, by decide +kernel, by decide +kernel⟩
theorem ok_law_bits (D : Dfd K mg "_law_bits" s_law_bits ["index", "many"]) (T : TxtS mg) : Has P w K mg base 1 "_law_bits" ["index", "many"] spBits := by
  refine D.has fun f fd F => F.ok sc_law_bits (fun vs H Q E h => ?_) (fun cdv A outer s H vs Q E hr h => ?_)
  · obtain ⟨c, _, rfl, _⟩ := h
    rfl
  · obtain ⟨x, m, rfl, hm, q⟩ := h
    refine ⟨_, (pss_cons (ps_set (i := 2) sc_law_bits.nd rfl (.inl rfl) (pe_lst pa_nil))
    (pss_cons (ps_for PassesOwn.never rfl (pi_range1 rfl T.range (pa_cons (pv 1) pa_nil)) (pg_name (i := 3) sc_law_bits.nd rfl (.inl rfl))
      (pss_cons (ps_expr (pe_bm PySem.F.plainAttrs_list PySem.F.slot_list_append PySem.F.type_list_append mt_append (pv 2) (pa_cons (pe_cmpR op_eq (pe_op op_mod (pe_callTy call_int1 (by rfl) T.int (by decide +kernel) (pa_cons (pv 0) pa_nil)) pe_int) pe_int (nomark _)) pa_nil)))
      (pss_one (ps_set (i := 0) sc_law_bits.nd rfl (.inl rfl) (pe_op op_fdiv (pv 0) pe_int)))))
    (pss_one (ps_ret (pe_callTy call_tuple_of (by rfl) T.tuple (by decide +kernel) (pa_cons (pv 2) pa_nil)))))), ?_⟩
    refine ⟨Nat.zero_le _, fun o no => ⟨_, rfl, _, rfl, by omega, by omega, for_range (n := ((m : Int)).toNat) (fun i σ H' => H' = upd H o (.lst ((bitsOf x i).map V.bl)) ∧ ∃ z : Option V, σ = [some (.int ((x / 2 ^ i : Nat) : Int)), some (.int m), some (.ref o), z]) ⟨rfl, _, by rw [Nat.pow_zero, Nat.div_one]; rfl⟩ ?_ ?_⟩⟩
    · rintro i σ H' hi ⟨rfl, z, rfl⟩
      refine ⟨_, rfl, .inl ⟨rfl, _, SqL.of upd_same⟩, _, rfl, .inl ⟨_, rfl, _, _, rfl, rfl, (by show (0 : Int) < 2; decide), rfl, o, _, _, rfl, rfl, upd_same, ?_, _, rfl, _, _, rfl, rfl, ⟨by decide, by decide⟩, ?_, some (.int (0 + (i : Int))), ?_⟩⟩
      · exact sz_lt (by rw [List.length_map, bitsOf_len]; omega)
      · rw [upd_upd, bit_at, bitsOf_succ, List.map_append]; rfl
      · rw [← half_at]; rfl
    · rintro σ H' ⟨rfl, z, rfl⟩
      refine ⟨_, rfl, _, _, rfl, .inl ⟨SqL.of upd_same, fun t nt => ?_⟩⟩
      have e1 : Ex H (upd H o (.lst ((bitsOf x ((m : Int)).toNat).map V.bl))) := Ex.new no
      exact q t _ (fresh_back e1 nt) (e1.trans (Ex.new nt)) upd_same
end
end G
namespace G
open PySem PySem.Spec PyProof.Rows L2 Evl
theorem pow7 : ∀ {m : Nat}, m ≤ 6 → ([.int 1, .int 2, .int 4, .int 8, .int 16, .int 32, .int 64] : List V)[m]? = some (.int ((2 ^ m : Nat) : Int))
  | 0, _ => rfl | 1, _ => rfl | 2, _ => rfl | 3, _ => rfl | 4, _ => rfl | 5, _ => rfl | 6, _ => rfl
  | n + 7, h => by omega
theorem pow6 : ∀ {m : Nat}, m ≤ 5 → ([.int 1, .int 2, .int 4, .int 8, .int 16, .int 32] : List V)[m]? = some (.int ((2 ^ m : Nat) : Int))
  | 0, _ => rfl | 1, _ => rfl | 2, _ => rfl | 3, _ => rfl | 4, _ => rfl | 5, _ => rfl
  | n + 6, h => by omega
theorem pow_le64 {m : Nat} (h : m ≤ 6) : 2 ^ m ≤ 64 := Nat.le_trans (Nat.pow_le_pow_right (by decide) h) (by decide)
theorem pow_pos2 (m : Nat) : 0 < 2 ^ m := Nat.pow_pos (by decide)
theorem divW_small {i : Int} {j : Nat} (h : 0 < j) (h9 : j ≤ 1000) : CDivW i (j : Int) := wide_div (b := 20) (by omega) (by
  rw [Int.natAbs_natCast]
  exact Nat.lt_of_le_of_lt h9 (by decide)) (by decide) (by decide)
section
variable {P : Program} {w : World} {K : PySem.W.Frag} {mg : Str → Option Value} {base : Heap}
/-- a table of m inputs -/
def spTable : Sp := fun vs H Q _ => ∃ (p a : Addr) (m : Nat), vs = [.ref p, .int m] ∧ m ≤ 6 ∧ PoolOk p a H ∧ ∀ (t : Addr) (bs : List Bool) (H' : Hp), bs.length = 2 ^ m → Px p a H H' → H t = none → H' t = some (.tup (bs.map V.bl)) → Q (.ref t) H'
theorem sc_law_table : FnScope ["pool", "many", "size", "kind", "value", "low", "place", "number", "bit", "k"] ["pool", "many"] (defScope s_law_table) := ⟨rfl, rfl, rfl, by decide +kernel, rfl, by decide +kernel, by decide +kernel⟩
theorem ok_law_table (D : Dfd K mg "_law_table" s_law_table ["pool", "many"]) (T : TxtS mg) (C : Has P w K mg base 2 "_law_draw" ["pool", "many"] spDrawX) (C2 : Has P w K mg base 1 "_law_bits" ["index", "many"] spBits) : Has P w K mg base 3 "_law_table" ["pool", "many"] spTable := by
  obtain ⟨f_law_draw, d_law_draw, G_law_draw, g_law_draw, k_law_draw, b_law_draw⟩ := C
  obtain ⟨f_law_bits, d_law_bits, G_law_bits, g_law_bits, k_law_bits, b_law_bits⟩ := C2
  refine D.has fun f fd F => F.ok sc_law_table (fun vs H Q E h => ?_) (fun cdv A outer s H vs Q E hr h => ?_)
  · obtain ⟨c, _, _, rfl, _⟩ := h
    rfl
  · obtain ⟨p, a, m, rfl, hm, hp, q⟩ := h
    have h64 := pow_le64 hm
    have hpos := pow_pos2 m
    refine ⟨_, (pss_cons (ps_set (i := 2) sc_law_table.nd rfl (.inl rfl) (pe_ix ix_list (pe_lst (pa_cons pe_int (pa_cons pe_int (pa_cons pe_int (pa_cons pe_int (pa_cons pe_int (pa_cons pe_int (pa_cons pe_int pa_nil)))))))) (pv 1) (fun _ _ => rfl)))
    (pss_cons (ps_set (i := 3) sc_law_table.nd rfl (.inl rfl) (pe_call G_law_draw hr (by rfl) g_law_draw k_law_draw b_law_draw .nil pass0 (pa_cons (pv 0) (pa_cons pe_int pa_nil))))
    (pss_cons (ps_if (pt_cmpR op_eq (pv 3) pe_int (nomark _))
      (pss_cons (ps_set (i := 4) sc_law_table.nd rfl (.inr rfl) (pe_cmpR op_eq (pe_call G_law_draw hr (by rfl) g_law_draw k_law_draw b_law_draw .nil pass0 (pa_cons (pv 0) (pa_cons pe_int pa_nil))) pe_int (nomark _)))
      (pss_one (ps_ret (pe_callTy call_tuple_of (by rfl) T.tuple (by decide +kernel) (pa_cons (pe_lc (own := [("k", 9)]) (g := gName 9) (tt := tYes) rfl sc_law_table.nd (pi_range1 rfl T.range (pa_cons (pv 2) pa_nil)) (blkOk_by (N := ["pool", "many", "size", "kind", "value", "low", "place", "number", "bit", "k"]) (sc := defScope s_law_table) (own := [("k", 9)]) (by decide +kernel)) (fun _ _ _ _ _ => (pg_name (i := 9) sc_law_table.nd rfl (.inl rfl))) (fun _ _ _ _ _ => pts_nil) (fun _ _ _ _ _ => (pv 4))) pa_nil)))))
      pss_nil)
    (pss_cut (ps_if (PW.pt (pw_and (pt_cmpR op_eq (pv 3) pe_int (nomark _)) (pw_and1 (pt_cmpR op_gt (pv 1) pe_int (nomark _)))))
      (pss_cons (ps_set (i := 5) sc_law_table.nd rfl (.inr rfl) (pe_ix ix_list (pe_lst (pa_cons pe_int (pa_cons pe_int (pa_cons pe_int (pa_cons pe_int (pa_cons pe_int (pa_cons pe_int pa_nil))))))) (pe_call G_law_draw hr (by rfl) g_law_draw k_law_draw b_law_draw .nil pass0 (pa_cons (pv 0) (pa_cons (pv 1) pa_nil))) (fun _ _ => rfl)))
      (pss_one (ps_ret (pe_callTy call_tuple_of (by rfl) T.tuple (by decide +kernel) (pa_cons (pe_lc (own := [("k", 9)]) (g := gName 9) (tt := tYes) rfl sc_law_table.nd (pi_range1 rfl T.range (pa_cons (pv 2) pa_nil)) (blkOk_by (N := ["pool", "many", "size", "kind", "value", "low", "place", "number", "bit", "k"]) (sc := defScope s_law_table) (own := [("k", 9)]) (by decide +kernel)) (fun _ _ _ _ _ => (pg_name (i := 9) sc_law_table.nd rfl (.inl rfl))) (fun _ _ _ _ _ => pts_nil) (fun _ _ _ _ _ => (pe_cmpR op_eq (pe_op op_mod (pe_callTy call_int1 (by rfl) T.int (by decide +kernel) (pa_cons (pe_op op_fdivW (pv 9) (pv 5)) pa_nil)) pe_int) pe_int (nomark _)))) pa_nil)))))
      pss_nil)
    (pss_cons (ps_if (pt_cmpR op_eq (pv 3) pe_int (nomark _))
      (pss_cons (ps_set (i := 6) sc_law_table.nd rfl (.inr rfl) (pe_call G_law_draw hr (by rfl) g_law_draw k_law_draw b_law_draw .nil pass0 (pa_cons (pv 0) (pa_cons (pv 2) pa_nil))))
      (pss_one (ps_ret (pe_callTy call_tuple_of (by rfl) T.tuple (by decide +kernel) (pa_cons (pe_lc (own := [("k", 9)]) (g := gName 9) (tt := tYes) rfl sc_law_table.nd (pi_range1 rfl T.range (pa_cons (pv 2) pa_nil)) (blkOk_by (N := ["pool", "many", "size", "kind", "value", "low", "place", "number", "bit", "k"]) (sc := defScope s_law_table) (own := [("k", 9)]) (by decide +kernel)) (fun _ _ _ _ _ => (pg_name (i := 9) sc_law_table.nd rfl (.inl rfl))) (fun _ _ _ _ _ => pts_nil) (fun _ _ _ _ _ => (pe_cmpR op_eq (pv 9) (pv 6) (nomark _)))) pa_nil)))))
      pss_nil)
    (pss_cons (ps_set (i := 7) sc_law_table.nd rfl (.inl rfl) (pe_call G_law_draw hr (by rfl) g_law_draw k_law_draw b_law_draw .nil pass0 (pa_cons (pv 0) (pa_cons (pe_op op_pow pe_int pe_int) pa_nil))))
    (pss_one (ps_ret (pe_callTy call_tuple_of (by rfl) T.tuple (by decide +kernel) (pa_cons (pe_lc (own := [("bit", 8)]) (g := gName 8) (tt := tYes) rfl sc_law_table.nd (pi_tup (pe_call G_law_bits (hr.mono (by decide)) (by rfl) g_law_bits k_law_bits b_law_bits .nil pass0 (pa_cons (pv 7) (pa_cons (pv 2) pa_nil)))) (blkOk_by (N := ["pool", "many", "size", "kind", "value", "low", "place", "number", "bit", "k"]) (sc := defScope s_law_table) (own := [("bit", 8)]) (by decide +kernel)) (fun _ _ _ _ _ => (pg_name (i := 8) sc_law_table.nd rfl (.inl rfl))) (fun _ _ _ _ _ => pts_nil) (fun _ _ _ _ _ => (pv 8))) pa_nil)))))))))), ?_⟩
    refine ⟨(by show 7 ≤ sizeLine; decide), fun l nl => ⟨_, rfl, _, _, _, _, rfl, rfl, SqL.of upd_same, atI_nat (pow7 hm), ?_⟩⟩
    have X1 : Px p a H (upd H l (.lst [.int 1, .int 2, .int 4, .int 8, .int 16, .int 32, .int 64])) := (Px.refl hp).new nl
    refine ⟨_, rfl, p, a, 6, rfl, by decide, by decide, X1.pool, fun kind H2 hk X2 _ => ?_⟩
    have Y2 := X1.trans X2
    refine ⟨_, rfl, rfl, _, rfl, ite2 (fun e => ?_) (fun e => ?_)⟩
    · refine ⟨_, rfl, p, a, 2, rfl, by decide, by decide, Y2.pool, fun v H3 hv X3 _ => ⟨rfl, ?_⟩⟩
      have Y3 := Y2.trans X3
      refine ⟨_, rfl, _, rfl, by omega, by omega, fun L nL => lcRv (fun _ => .bl (decide (V.int v = V.int 1))) (by omega) (fun _ => rfl) (fun i H4 _ _ Q q => ⟨_, rfl, q⟩) ⟨_, _, rfl, .inl ⟨SqL.of upd_same, fun t nt => ?_⟩⟩⟩
      exact q t ((List.range ((2 ^ m : Nat) : Int).toNat).map fun _ => decide (V.int v = V.int 1)) _ (by rw [List.length_map, List.length_range]; omega) ((Y3.new nL).new nt) ((Y3.new nL).free nt) (by rw [upd_same, List.map_map]; rfl)
    · refine ⟨fun σ H' => σ = [some (.ref p), some (.int m), some (.int ((2 ^ m : Nat) : Int)), some (.int kind), none, none, none, none, none, none] ∧ H' = H2, ?_, ?_⟩
      · refine ⟨_, rfl, rfl, _, rfl, ite2 (fun e1 => ?_) (fun e1 => iteF ⟨rfl, rfl⟩)⟩
        refine ⟨_, rfl, _, _, rfl, rfl, _, rfl, ite2 (fun e2 => ?_) (fun e2 => ⟨rfl, rfl⟩)⟩
        have hm0 : 0 < m := by have := of_decide_eq_true e2; omega
        refine ⟨(by show 6 ≤ sizeLine; decide), fun l2 nl2 => ⟨_, rfl, _, rfl, p, a, m, rfl, by omega, by omega, (Y2.new nl2).pool, fun v H3 hv X3 hk3 => ?_⟩⟩
        have Y3 := (Y2.new nl2).trans X3
        have h2 : H3 l2 = some (.lst [.int 1, .int 2, .int 4, .int 8, .int 16, .int 32]) := by rw [hk3 _ (Y2.pool.ne nl2)]; exact upd_same
        refine ⟨_, _, _, _, rfl, rfl, SqL.of h2, atI_nat (pow6 (by omega)), ?_⟩
        refine ⟨_, rfl, _, rfl, by omega, by omega, fun L nL => lcRv (fun (i : Nat) => .bl (decide (V.int ((0 + (i : Int)) / ((2 ^ v : Nat) : Int) % 2) = V.int 1))) (by omega) (fun _ => rfl) (fun i H4 _ _ Q q => ⟨_, rfl, _, rfl, _, _, rfl, rfl, divW_small (pow_pos2 v) (Nat.le_trans (pow_le64 (by omega)) (by decide)), .inl ⟨_, rfl, _, _, rfl, rfl, (by show (0 : Int) < 2; decide), rfl, q⟩⟩) ⟨_, _, rfl, .inl ⟨SqL.of upd_same, fun t nt => ?_⟩⟩⟩
        exact q t ((List.range ((2 ^ m : Nat) : Int).toNat).map fun (i : Nat) => decide (V.int ((0 + (i : Int)) / ((2 ^ v : Nat) : Int) % 2) = V.int 1)) _ (by rw [List.length_map, List.length_range]; omega) ((Y3.new nL).new nt) ((Y3.new nL).free nt) (by rw [upd_same, List.map_map]; rfl)
      · rintro σ H' ⟨rfl, rfl⟩
        refine ⟨_, rfl, rfl, _, rfl, ite2 (fun e1 => ?_) (fun e1 => ?_)⟩
        · refine ⟨_, rfl, _, rfl, p, a, ((2 ^ m : Nat) : Int), rfl, by omega, by omega, Y2.pool, fun v H3 hv X3 _ => ?_⟩
          have Y3 := Y2.trans X3
          refine ⟨_, rfl, _, rfl, by omega, by omega, fun L nL => lcRv (fun (i : Nat) => .bl (decide (V.int (0 + (i : Int)) = V.int v))) (by omega) (fun _ => rfl) (fun i H4 _ _ Q q => ⟨_, rfl, _, rfl, rfl, q⟩) ⟨_, _, rfl, .inl ⟨SqL.of upd_same, fun t nt => ?_⟩⟩⟩
          exact q t ((List.range ((2 ^ m : Nat) : Int).toNat).map fun (i : Nat) => decide (V.int (0 + (i : Int)) = V.int v)) _ (by rw [List.length_map, List.length_range]; omega) ((Y3.new nL).new nt) ((Y3.new nL).free nt) (by rw [upd_same, List.map_map]; rfl)
        · refine ⟨_, rfl, _, _, rfl, rfl, ⟨by decide, by decide, by decide⟩, p, a, _, rfl, by decide, by decide, Y2.pool, fun v H3 hv X3 _ => ?_⟩
          have Y3 := Y2.trans X3
          refine ⟨_, rfl, _, rfl, v, 2 ^ m, rfl, by omega, fun t1 H4 n1 E1 h1 => ⟨t1, rfl, ⟨_, SqT.of h1⟩, fun L nL => lcTm (xs := (bitsOf v (2 ^ m)).map V.bl) id (SqT.of h1) nL (by rw [List.length_map, bitsOf_len]; omega) (fun _ => rfl) (fun i x H4 _ _ Q q => ⟨_, rfl, q⟩) ⟨_, _, rfl, .inl ⟨SqL.of upd_same, fun t nt => ?_⟩⟩⟩⟩
          have Y4 := Y3.more E1
          exact q t (bitsOf v (2 ^ m)) _ (bitsOf_len _ _) ((Y4.new nL).new nt) ((Y4.new nL).free nt) (by rw [upd_same, List.map_id])
end
end G
namespace G
open PySem PySem.Spec PyProof.Rows L2 Evl
/-! ## tuples never change -/
def TEx (H H' : Hp) : Prop := ∀ (b : Addr) (xs : List V), H b = some (.tup xs) → H' b = some (.tup xs)
theorem TEx.refl (H : Hp) : TEx H H := fun _ _ h => h
theorem TEx.trans {H H1 H2 : Hp} (a : TEx H H1) (b : TEx H1 H2) : TEx H H2 := fun c xs h => b c xs (a c xs h)
theorem TEx.of {H H' : Hp} (e : Ex H H') : TEx H H' := fun b xs h => e b _ h
theorem TEx.px {p a : Addr} {H H' : Hp} (x : Px p a H H') : TEx H H' := fun b xs h => by
  obtain ⟨_, _, _, _, _, e, _⟩ := x.was
  exact x.at_ (b := b) (o := .tup xs) (by rw [hid_ne (ne_of h e (by intro z; cases z))]; exact h)
theorem TEx.new {H : Hp} {b : Addr} {o : HO} (n : H b = none) : TEx H (upd H b o) := .of (Ex.new n)
theorem TEx.mut {H : Hp} {b : Addr} {l : List V} {o : HO} (h : H b = some (.lst l)) : TEx H (upd H b o) := fun c xs hc => by
  rw [upd_ne (ne_of hc h (by intro z; cases z))]; exact hc
/-! ## circuits -/
structure GateD where
  name : Str
  tab : List Bool
  pins : List Str
  rng : List (Int × Int)
structure RegD where
  name : Str
  net : Str
  edge : Int × Int
  out : Int × Int
  setup : Int
  hold : Int
  start : Bool
structure CircD where
  ins : List Str
  gates : List GateD
  regs : List RegD
  outs : List (Str × Str)
def IntsAt (H : Hp) (a : Addr) (p : Int × Int) : Prop := H a = some (.tup [.int p.1, .int p.2])
def GateAt (H : Hp) (a : Addr) (g : GateD) : Prop := ∃ (t pt rt : Addr) (ra : List Addr), H a = some (.tup [.str g.name, .ref t, .ref pt, .ref rt]) ∧ H t = some (.tup (g.tab.map V.bl)) ∧ H pt = some (.tup (g.pins.map V.str)) ∧ H rt = some (.tup (ra.map V.ref)) ∧ All2 (IntsAt H) ra g.rng
def RegAt (H : Hp) (a : Addr) (r : RegD) : Prop := ∃ ea oa : Addr, H a = some (.tup [.str r.name, .str r.net, .ref ea, .ref oa, .int r.setup, .int r.hold, .bl r.start]) ∧ IntsAt H ea r.edge ∧ IntsAt H oa r.out
def OutAt (H : Hp) (a : Addr) (o : Str × Str) : Prop := H a = some (.tup [.str o.1, .str o.2])
structure CircAt (H : Hp) (c : Addr) (d : CircD) (it gt rt ot : Addr) (ga ra oa : List Addr) : Prop where
  top : H c = some (.tup [.ref it, .ref gt, .ref rt, .ref ot])
  ins : H it = some (.tup (d.ins.map V.str))
  gts : H gt = some (.tup (ga.map V.ref))
  rgs : H rt = some (.tup (ra.map V.ref))
  ots : H ot = some (.tup (oa.map V.ref))
  gates : All2 (GateAt H) ga d.gates
  regs : All2 (RegAt H) ra d.regs
  outs : All2 (OutAt H) oa d.outs
section
variable {H H' : Hp} {a c it gt rt ot : Addr} {g : GateD} {r : RegD} {d : CircD} {ga ra oa : List Addr}
theorem IntsAt.te {p : Int × Int} (e : TEx H H') (h : IntsAt H a p) : IntsAt H' a p := e _ _ h
theorem GateAt.te (e : TEx H H') (h : GateAt H a g) : GateAt H' a g := by
  obtain ⟨t, pt, rt, ra, h1, h2, h3, h4, h5⟩ := h
  exact ⟨t, pt, rt, ra, e _ _ h1, e _ _ h2, e _ _ h3, e _ _ h4, h5.imp fun _ _ z => z.te e⟩
theorem RegAt.te (e : TEx H H') (h : RegAt H a r) : RegAt H' a r := by
  obtain ⟨ea, oa, h1, h2, h3⟩ := h
  exact ⟨ea, oa, e _ _ h1, h2.te e, h3.te e⟩
theorem CircAt.te (e : TEx H H') (h : CircAt H c d it gt rt ot ga ra oa) : CircAt H' c d it gt rt ot ga ra oa :=
  ⟨e _ _ h.top, e _ _ h.ins, e _ _ h.gts, e _ _ h.rgs, e _ _ h.ots, h.gates.imp fun _ _ z => z.te e, h.regs.imp fun _ _ z => z.te e, h.outs.imp fun _ _ z => e _ _ z⟩
end
/-! ### the names that are given -/
def nm (c : Str) (k : Nat) : Str := c ++ Str.ofString (toString ((k : Nat) : Int))
structure RegWf (r : RegD) : Prop where
  e0 : 0 ≤ r.edge.1 ∧ r.edge.1 ≤ 2
  e1 : r.edge.1 ≤ r.edge.2 ∧ r.edge.2 ≤ r.edge.1 + 2
  o0 : 0 ≤ r.out.1 ∧ r.out.1 ≤ 3
  o1 : r.out.1 + 1 ≤ r.out.2 ∧ r.out.2 ≤ r.out.1 + 4
  su : 0 ≤ r.setup ∧ r.setup ≤ 3
  ho : 0 ≤ r.hold ∧ r.hold < r.out.2
structure GateWf (ns : List Str) (k : Nat) (g : GateD) : Prop where
  name : g.name = nm "g" k
  few : g.pins.length ≤ 3
  pins : ∀ x ∈ g.pins, x ∈ ns
  tab : g.tab.length = 2 ^ g.pins.length
  many : g.rng.length = g.pins.length
  rng : ∀ r ∈ g.rng, 0 ≤ r.1 ∧ r.1 ≤ 4 ∧ r.1 + 2 ≤ r.2 ∧ r.2 ≤ r.1 + 6
/-- the gates in the order of their making: each reads what stood before it -/
structure CircWf (most : Nat) (d : CircD) (G : List GateD) : Prop where
  ins : ∃ n, 1 ≤ n ∧ n ≤ 3 ∧ d.ins = (List.range n).map (nm "i")
  regs : ∃ n, n ≤ 3 ∧ d.regs.map (·.name) = (List.range n).map (nm "r")
  few : G.length ≤ most
  gates : ∀ k g, G[k]? = some g → GateWf (d.ins ++ d.regs.map (·.name) ++ (List.range k).map (nm "g")) k g
  perm : d.gates.Perm G
  rwf : ∀ r ∈ d.regs, RegWf r ∧ r.net ∈ d.ins ++ d.regs.map (·.name) ++ (List.range G.length).map (nm "g")
  outs : ∃ n, n ≤ 3 ∧ d.outs.map (·.1) = (List.range n).map (nm "p")
  onet : ∀ o ∈ d.outs, o.2 ∈ d.ins ++ d.regs.map (·.name) ++ (List.range G.length).map (nm "g")
section
variable {P : Program} {w : World} {K : PySem.W.Frag} {mg : Str → Option Value} {base : Heap}
def spReg : Sp := fun vs H Q _ => ∃ (p a : Addr) (n net : Str), vs = [.ref p, .str n, .str net] ∧ PoolOk p a H ∧ ∀ (x : Addr) (r : RegD) (H' : Hp), Px p a H H' → H x = none → RegAt H' x r → r.name = n → r.net = net → RegWf r → Q (.ref x) H'
theorem sc_law_register : FnScope ["pool", "name", "net", "edge", "out", "high", "wide"] ["pool", "name", "net"] (defScope s_law_register) := ⟨rfl, rfl, rfl, by decide +kernel, rfl, by decide +kernel, by decide +kernel⟩
theorem ok_law_register (D : Dfd K mg "_law_register" s_law_register ["pool", "name", "net"]) (C : Has P w K mg base 2 "_law_draw" ["pool", "many"] spDrawX) : Has P w K mg base 3 "_law_register" ["pool", "name", "net"] spReg := by
  obtain ⟨f_law_draw, d_law_draw, G_law_draw, g_law_draw, k_law_draw, b_law_draw⟩ := C
  refine D.has fun f fd F => F.ok sc_law_register (fun vs H Q E h => ?_) (fun cdv A outer s H vs Q E hr h => ?_)
  · obtain ⟨p, a, n, net, rfl, _⟩ := h
    rfl
  · obtain ⟨p, a, n, net, rfl, hp, q⟩ := h
    refine ⟨_, (pss_cons (ps_set (i := 3) sc_law_register.nd rfl (.inl rfl) (pe_call G_law_draw (hr.mono (by omega)) (by rfl) g_law_draw k_law_draw b_law_draw .nil pass0 (pa_cons (pv 0) (pa_cons pe_int pa_nil))))
    (pss_cons (ps_set (i := 4) sc_law_register.nd rfl (.inl rfl) (pe_call G_law_draw (hr.mono (by omega)) (by rfl) g_law_draw k_law_draw b_law_draw .nil pass0 (pa_cons (pv 0) (pa_cons pe_int pa_nil))))
    (pss_cons (ps_set (i := 5) sc_law_register.nd rfl (.inl rfl) (pe_op op_add (pe_op op_add (pv 4) pe_int) (pe_call G_law_draw (hr.mono (by omega)) (by rfl) g_law_draw k_law_draw b_law_draw .nil pass0 (pa_cons (pv 0) (pa_cons pe_int pa_nil)))))
    (pss_cons (ps_set (i := 6) sc_law_register.nd rfl (.inl rfl) (pe_op op_add (pv 3) (pe_call G_law_draw (hr.mono (by omega)) (by rfl) g_law_draw k_law_draw b_law_draw .nil pass0 (pa_cons (pv 0) (pa_cons pe_int pa_nil)))))
    (pss_one (ps_ret (pe_tup (pa_cons (pv 1) (pa_cons (pv 2) (pa_cons (pe_tup (pa_cons (pv 3) (pa_cons (pv 6) pa_nil))) (pa_cons (pe_tup (pa_cons (pv 4) (pa_cons (pv 5) pa_nil))) (pa_cons (pe_call G_law_draw (hr.mono (by omega)) (by rfl) g_law_draw k_law_draw b_law_draw .nil pass0 (pa_cons (pv 0) (pa_cons pe_int pa_nil))) (pa_cons (pe_call G_law_draw (hr.mono (by omega)) (by rfl) g_law_draw k_law_draw b_law_draw .nil pass0 (pa_cons (pv 0) (pa_cons (pv 5) pa_nil))) (pa_cons (pe_cmpR op_eq (pe_call G_law_draw (hr.mono (by omega)) (by rfl) g_law_draw k_law_draw b_law_draw .nil pass0 (pa_cons (pv 0) (pa_cons pe_int pa_nil))) pe_int (nomark _)) pa_nil)))))))))))))), ?_⟩
    refine ⟨_, rfl, p, a, 3, rfl, by decide, by decide, hp, fun v1 H1 h1 X1 _ => ?_⟩
    refine ⟨_, rfl, p, a, 4, rfl, by decide, by decide, X1.pool, fun v2 H2 h2 X2 _ => ?_⟩
    refine ⟨_, rfl, _, _, rfl, rfl, _, rfl, p, a, 4, rfl, by decide, by decide, X2.pool, fun v3 H3 h3 X3 _ => ⟨_, _, rfl, rfl, ?_⟩⟩
    refine ⟨_, rfl, _, rfl, p, a, 3, rfl, by decide, by decide, X3.pool, fun v4 H4 h4 X4 _ => ⟨_, _, rfl, rfl, ?_⟩⟩
    have Y4 := X1.trans (X2.trans (X3.trans X4))
    refine ⟨_, rfl, _, rfl, _, rfl, _, rfl, (by show 2 ≤ sizeLine; decide), fun e1 n1 => ⟨_, rfl, _, rfl, (by show 2 ≤ sizeLine; decide), fun e2 n2 => ?_⟩⟩
    have Y5 := (Y4.new (o := .tup [.int v1, .int ((v1 : Int) + v4)]) n1).new (o := .tup [.int v2, .int ((v2 : Int) + 1 + v3)]) n2
    have t1 : upd (upd H4 e1 (.tup [.int v1, .int ((v1 : Int) + v4)])) e2 (.tup [.int v2, .int ((v2 : Int) + 1 + v3)]) e1 = some (.tup [.int v1, .int ((v1 : Int) + v4)]) := by rw [upd_ne (ne_of_none upd_same n2)]; exact upd_same
    have t2 : upd (upd H4 e1 (.tup [.int v1, .int ((v1 : Int) + v4)])) e2 (.tup [.int v2, .int ((v2 : Int) + 1 + v3)]) e2 = some (.tup [.int v2, .int ((v2 : Int) + 1 + v3)]) := upd_same
    generalize upd (upd H4 e1 (.tup [.int v1, .int ((v1 : Int) + v4)])) e2 (.tup [.int v2, .int ((v2 : Int) + 1 + v3)]) = H5 at *
    refine ⟨_, rfl, p, a, 4, rfl, by decide, by decide, Y5.pool, fun v5 H6 h5 X6 _ => ?_⟩
    refine ⟨_, rfl, _, rfl, p, a, (v2 : Int) + 1 + v3, rfl, by omega, by omega, X6.pool, fun v6 H7 h6 X7 _ => ?_⟩
    refine ⟨_, rfl, p, a, 2, rfl, by decide, by decide, X7.pool, fun v7 H8 h7 X8 _ => ⟨rfl, (by show 7 ≤ sizeLine; decide), fun x nx => ?_⟩⟩
    have Y8 := X6.trans (X7.trans X8)
    have T8 := (TEx.px Y8).trans (TEx.new (o := .tup [.str n, .str net, .ref e1, .ref e2, .int v5, .int v6, .bl (decide (V.int v7 = V.int 1))]) nx)
    exact q x ⟨n, net, (v1, (v1 : Int) + v4), (v2, (v2 : Int) + 1 + v3), v5, v6, decide (V.int v7 = V.int 1)⟩ _ ((Y5.trans Y8).new nx) ((Y5.trans Y8).free nx) ⟨e1, e2, upd_same, T8 _ _ t1, T8 _ _ t2⟩ rfl rfl
      ⟨by constructor <;> simp <;> omega, by constructor <;> simp <;> omega, by constructor <;> simp <;> omega, by constructor <;> simp <;> omega, by constructor <;> simp <;> omega, by constructor <;> simp <;> omega⟩
theorem nm_small : ∀ c ∈ (["i", "r", "g", "p"] : List Str), ∀ k, k < 20 → c.length + (Str.ofString (toString ((k : Nat) : Int))).length ≤ 1000 ∧ ((k : Nat) : Int).natAbs.log2 < 1920 := by decide +kernel
/-- 'x' + str(k), read -/
theorem nm_read {c : Str} {k : Nat} (hc : c ∈ (["i", "r", "g", "p"] : List Str)) (hk : k < 20) : ((k : Nat) : Int).natAbs.log2 < 1920 ∧ c.length + (Str.ofString (toString ((k : Nat) : Int))).length ≤ sizeLine :=
  ⟨(nm_small c hc k hk).2, sz_of (Nat.le_trans (nm_small c hc k hk).1 (by decide))⟩
theorem keep1 {p M x : Addr} {H : Hp} {o o' : HO} (e : hid p H x = some o) (hx : x ≠ M) (hM : M ≠ p) : hid p (upd H M o') x = some o := by
  rw [hid_upd_ne hM, upd_ne hx]; exact e
theorem hid_new {p M : Addr} {H : Hp} {o : HO} (hM : M ≠ p) : hid p (upd H M o) M = some o := by
  rw [hid_ne hM]; exact upd_same
theorem erase_perm {α : Type} : ∀ (l : List α) (v : Nat) (h : v < l.length), (l[v] :: l.eraseIdx v).Perm l
  | [], v, h => absurd h (Nat.not_lt_zero _)
  | a :: r, 0, _ => .refl _
  | a :: r, v + 1, h => by
    have h' : v < r.length := Nat.lt_of_succ_lt_succ h
    have ih := erase_perm r v h'
    show (r[v] :: a :: r.eraseIdx v).Perm (a :: r)
    exact (List.Perm.swap ..).trans (ih.cons a)
def spShuf : Sp := fun vs H Q _ => ∃ (p a l : Addr) (xs : List V), vs = [.ref p, .ref l] ∧ PoolOk p a H ∧ hid p H l = some (.lst xs) ∧ xs.length ≤ 200 ∧ ∀ (o : Addr) (ys : List V) (H' : Hp), Px p a H H' → H o = none → H' o = some (.lst ys) → ys.Perm xs → Q (.ref o) H'
theorem sc_law_shuffled : FnScope ["pool", "rows", "left", "out", "k"] ["pool", "rows"] (defScope s_law_shuffled) := ⟨rfl, rfl, rfl, by decide +kernel, rfl, by decide +kernel, by decide +kernel⟩
theorem ok_law_shuffled (D : Dfd K mg "_law_shuffled" s_law_shuffled ["pool", "rows"]) (T : TxtS mg) (C : Has P w K mg base 2 "_law_draw" ["pool", "many"] spDrawX) : Has P w K mg base 3 "_law_shuffled" ["pool", "rows"] spShuf := by
  obtain ⟨f_law_draw, d_law_draw, G_law_draw, g_law_draw, k_law_draw, b_law_draw⟩ := C
  refine D.has fun f fd F => F.ok sc_law_shuffled (fun vs H Q E h => ?_) (fun cdv A outer s H vs Q E hr h => ?_)
  · obtain ⟨p, a, l, xs, rfl, _⟩ := h
    rfl
  · obtain ⟨p, a, l, xs, rfl, hp, hl, hn, q⟩ := h
    refine ⟨_, (pss_cons (ps_set (i := 2) sc_law_shuffled.nd rfl (.inl rfl) (pe_callTy call_list_of (by rfl) T.list (by decide +kernel) (pa_cons (pv 1) pa_nil)))
    (pss_cons (ps_set (i := 3) sc_law_shuffled.nd rfl (.inl rfl) (pe_lst pa_nil))
    (pss_cons (ps_for PassesOwn.never rfl (pi_range1 rfl T.range (pa_cons (pe_callB call_len_seq (by rfl) T.len (by decide +kernel) (pa_cons (pv 1) pa_nil)) pa_nil)) (pg_name (i := 4) sc_law_shuffled.nd rfl (.inl rfl))
      (pss_one (ps_expr (pe_bm PySem.F.plainAttrs_list PySem.F.slot_list_append PySem.F.type_list_append mt_append (pv 3) (pa_cons (pe_bm PySem.F.plainAttrs_list PySem.F.slot_list_pop PySem.F.type_list_pop mt_popAt (pv 2) (pa_cons (pe_call G_law_draw (hr.mono (by omega)) (by rfl) g_law_draw k_law_draw b_law_draw .nil pass0 (pa_cons (pv 0) (pa_cons (pe_callB call_len_seq (by rfl) T.len (by decide +kernel) (pa_cons (pv 2) pa_nil)) pa_nil))) pa_nil)) pa_nil)))))
    (pss_one (ps_ret (pv 3)))))), ?_⟩
    refine ⟨_, rfl, _, _, rfl, .inl (SqL.of (hid_get hl)), fun lf nlf => ⟨Nat.zero_le _, fun o no => ?_⟩⟩
    have X0 := ((Px.refl hp).new (o := .lst xs) nlf).new (o := .lst []) no
    have plf := hp.ne nlf
    have nlo : lf ≠ o := ne_of_none upd_same no
    have nHo : H o = none := by
      have z := no
      rw [upd_ne nlo.symm] at z; exact z
    have po := hp.ne nHo
    have h1 : hid p (upd (upd H lf (.lst xs)) o (.lst [])) lf = some (.lst xs) := keep1 (hid_new plf) nlo po
    have h2 : hid p (upd (upd H lf (.lst xs)) o (.lst [])) o = some (.lst []) := hid_new po
    generalize upd (upd H lf (.lst xs)) o (.lst []) = H0 at *
    refine ⟨_, rfl, _, _, rfl, .inl (SqL.of (X0.at_ hl)), _, rfl, by omega, by omega, for_range (n := ((xs.length : Nat) : Int).toNat)
      (fun i σ H' => Px p a H H' ∧ ∃ (ls os : List V) (z : Option V), hid p H' lf = some (.lst ls) ∧ hid p H' o = some (.lst os) ∧ (os ++ ls).Perm xs ∧ os.length = i ∧ σ = [some (.ref p), some (.ref l), some (.ref lf), some (.ref o), z])
      ⟨X0, xs, [], _, h1, h2, .refl _, rfl, rfl⟩ ?_ ?_⟩
    · rintro i σ H1 hi ⟨X1, ls, os, z, hls, hos, hperm, hoi, rfl⟩
      rw [Int.toNat_natCast] at hi
      have hlen := hperm.length_eq
      rw [List.length_append] at hlen
      have hpos : 0 < ls.length := by omega
      refine ⟨_, rfl, .inl ⟨rfl, _, SqL.of (hid_get hos)⟩, _, rfl, .inl ⟨rfl, _, SqL.of (hid_get hls)⟩, _, rfl, _, rfl, _, _, rfl, .inl (SqL.of (hid_get hls)), p, a, ls.length, rfl, by omega, by omega, X1.pool, fun v H2 hv X2 _ => ?_⟩
      have hv' : v < ls.length := by omega
      have hls2 := X2.get hls
      have hos2 := X2.get hos
      refine ⟨lf, ls, (v : Int), v, ls[v], rfl, rfl, hid_get hls2, by omega, by omega, ?_, List.getElem?_eq_getElem hv', ?_⟩
      · have := PyProof.Rows.seqIndex_at (i := (v : Int)) (n := ls.length) (by omega) (by omega)
        rw [Int.toNat_natCast] at this
        exact this
      · have hos3 : hid p (upd H2 lf (.lst (ls.eraseIdx v))) o = some (.lst os) := keep1 hos2 nlo.symm plf
        have X3 := (X1.trans X2).mut (o := .lst (ls.eraseIdx v)) nlf
        have hls3 : hid p (upd H2 lf (.lst (ls.eraseIdx v))) lf = some (.lst (ls.eraseIdx v)) := hid_new plf
        generalize upd H2 lf (.lst (ls.eraseIdx v)) = H3 at *
        refine ⟨o, os, ls[v], rfl, rfl, hid_get hos3, sz_lt (by omega), X3.mut nHo, ls.eraseIdx v, os ++ [ls[v]], _, keep1 hls3 nlo po, hid_new po, ?_, by rw [List.length_append, hoi]; rfl, rfl⟩
        refine List.Perm.trans ?_ hperm
        rw [List.append_assoc]
        exact List.Perm.append_left _ (erase_perm ls v hv')
    · rintro σ H1 ⟨X1, ls, os, z, hls, hos, hperm, hoi, rfl⟩
      rw [Int.toNat_natCast] at hoi
      have hlen := hperm.length_eq
      rw [List.length_append] at hlen
      have : ls = [] := List.length_eq_zero_iff.mp (by omega)
      rw [this, List.append_nil] at hperm
      exact ⟨_, rfl, q o os H1 X1 nHo (hid_get hos) hperm⟩
theorem nmi_str : ("i" : Str) ∈ (["i", "r", "g", "p"] : List Str) := by decide
theorem nmr_str : ("r" : Str) ∈ (["i", "r", "g", "p"] : List Str) := by decide
theorem nmg_str : ("g" : Str) ∈ (["i", "r", "g", "p"] : List Str) := by decide
theorem nmp_str : ("p" : Str) ∈ (["i", "r", "g", "p"] : List Str) := by decide
theorem strV_at {us : List Str} {i : Nat} (h : i < us.length) : (us.map V.str)[i]? = some (.str us[i]) := by rw [List.getElem?_map, List.getElem?_eq_getElem h]; rfl
theorem nms_snoc (c : Str) (k : Nat) : (List.range (k + 1)).map (nm c) = (List.range k).map (nm c) ++ [nm c k] := by rw [List.range_succ, List.map_append]; rfl
theorem All2.te {R : Hp → Addr → β → Prop} {as : List Addr} {bs : List β} {H H' : Hp} (f : ∀ a b, R H a b → R H' a b) (h : All2 (R H) as bs) : All2 (R H') as bs := h.imp f
/-- what a permutation of references refers to -/
theorem perm_refs {R : Addr → GateD → Prop} {as : List Addr} {G : List GateD} (h : All2 R as G) {vs : List V} (p : vs.Perm (as.map V.ref)) : ∃ (bs : List Addr) (F : List GateD), vs = bs.map V.ref ∧ All2 R bs F ∧ F.Perm G := by
  have z : ∀ {xs ys : List V}, xs.Perm ys → ∀ (as : List Addr) (G : List GateD), ys = as.map V.ref → All2 R as G → ∃ (bs : List Addr) (F : List GateD), xs = bs.map V.ref ∧ All2 R bs F ∧ F.Perm G := by
    intro xs ys pp
    induction pp with
    | nil =>
      intro as G e h
      have : as = [] := by
        cases as with
        | nil => rfl
        | cons _ _ => cases e
      subst this
      have : G = [] := List.length_eq_zero_iff.mp h.1.symm
      subst this
      exact ⟨[], [], rfl, .nil, .refl _⟩
    | @cons x l1 l2 _ ih =>
      intro as G e h
      cases as with
      | nil => cases e
      | cons a as =>
        cases G with
        | nil => exact nomatch h.1
        | cons g G =>
          obtain ⟨e1, e2⟩ := List.cons.inj e
          have h2 : All2 R as G := ⟨Nat.succ.inj h.1, fun i x y q1 q2 => h.2 (i + 1) x y q1 q2⟩
          obtain ⟨bs, F, f1, f2, f3⟩ := ih as G e2 h2
          exact ⟨a :: bs, g :: F, by rw [e1, f1]; rfl, .cons (h.2 0 a g rfl rfl) f2, f3.cons g⟩
    | @swap x y l =>
      intro as G e h
      match as, G, h with
      | [], _, _ => cases e
      | [_], _, _ => cases e
      | _ :: _ :: _, [], h => exact nomatch h.1
      | _ :: _ :: _, [_], h => exact nomatch Nat.succ.inj h.1
      | a :: b :: as, g :: k :: G, h =>
        obtain ⟨e1, e2⟩ := List.cons.inj e
        obtain ⟨e3, e4⟩ := List.cons.inj e2
        have h2 : All2 R as G := ⟨Nat.succ.inj (Nat.succ.inj h.1), fun i x y q1 q2 => h.2 (i + 2) x y q1 q2⟩
        exact ⟨b :: a :: as, k :: g :: G, by rw [e1, e3, e4]; rfl, .cons (h.2 1 b k rfl rfl) (.cons (h.2 0 a g rfl rfl) h2), .swap ..⟩
    | trans _ _ ih1 ih2 =>
      intro as G e h
      obtain ⟨bs, F, f1, f2, f3⟩ := ih2 as G e h
      obtain ⟨cs, F2, g1, g2, g3⟩ := ih1 bs F f1 f2
      exact ⟨cs, F2, g1, g2, g3.trans f3⟩
  exact z p as G rfl h
def spCirc : Sp := fun vs H Q _ => ∃ (p a : Addr) (most : Nat), vs = [.ref p, .int most] ∧ most ≤ 15 ∧ PoolOk p a H ∧ ∀ (c : Addr) (d : CircD) (G : List GateD) (it gt rt ot : Addr) (ga ra oa : List Addr) (H' : Hp), Px p a H H' → CircAt H' c d it gt rt ot ga ra oa → CircWf most d G → Q (.ref c) H'
theorem sc_law_circuit : FnScope ["pool", "most", "k", "inputs", "stored", "nets", "gates", "pins", "ranges", "pin", "low", "regs", "outputs", "name", "j"] ["pool", "most"] (defScope s_law_circuit) := ⟨rfl, rfl, rfl, by decide +kernel, rfl, by decide +kernel, by decide +kernel⟩
theorem ok_law_circuit (D : Dfd K mg "_law_circuit" s_law_circuit ["pool", "most"]) (T : TxtS mg) (C1 : Has P w K mg base 2 "_law_draw" ["pool", "many"] spDrawX) (C2 : Has P w K mg base 3 "_law_table" ["pool", "many"] spTable) (C3 : Has P w K mg base 3 "_law_register" ["pool", "name", "net"] spReg)
    (C4 : Has P w K mg base 3 "_law_shuffled" ["pool", "rows"] spShuf) : Has P w K mg base 4 "_law_circuit" ["pool", "most"] spCirc := by
  obtain ⟨f_law_draw, d_law_draw, G_law_draw, g_law_draw, k_law_draw, b_law_draw⟩ := C1
  obtain ⟨f_law_table, d_law_table, G_law_table, g_law_table, k_law_table, b_law_table⟩ := C2
  obtain ⟨f_law_register, d_law_register, G_law_register, g_law_register, k_law_register, b_law_register⟩ := C3
  obtain ⟨f_law_shuffled, d_law_shuffled, G_law_shuffled, g_law_shuffled, k_law_shuffled, b_law_shuffled⟩ := C4
  refine D.has fun f fd F => F.ok sc_law_circuit (fun vs H Q E h => ?_) (fun cdv A outer s H vs Q E hr h => ?_)
  · obtain ⟨p, a, most, rfl, _⟩ := h
    rfl
  · obtain ⟨p, a, most, rfl, hmost, hp, q⟩ := h
    refine ⟨_, (pss_cons (ps_setLc (i := 3) (own := [("k", 2)]) (g := gName 2) (tt := tYes) rfl sc_law_circuit.nd rfl rfl (sw_true rfl rfl rfl (by decide +kernel)) (pi_range1 rfl T.range (pa_cons (pe_op op_add pe_int (pe_call G_law_draw (hr.mono (by omega)) (by rfl) g_law_draw k_law_draw b_law_draw .nil pass0 (pa_cons (pv 0) (pa_cons pe_int pa_nil)))) pa_nil)) (blkOk_by (N := ["pool", "most", "k", "inputs", "stored", "nets", "gates", "pins", "ranges", "pin", "low", "regs", "outputs", "name", "j"]) (sc := defScope s_law_circuit) (own := [("k", 2)]) (by decide +kernel)) (fun _ _ _ _ _ => (pg_name (i := 2) sc_law_circuit.nd rfl (.inl rfl))) (fun _ _ _ _ _ => pts_nil) (fun _ _ _ _ _ => (pe_op op_add_str pe_str (pe_callTy call_str_int (by rfl) T.str (by decide +kernel) (pa_cons (pv 2) pa_nil)))))
    (pss_cons (ps_setLc (i := 4) (own := [("k", 2)]) (g := gName 2) (tt := tYes) rfl sc_law_circuit.nd rfl rfl (sw_true rfl rfl rfl (by decide +kernel)) (pi_range1 rfl T.range (pa_cons (pe_call G_law_draw (hr.mono (by omega)) (by rfl) g_law_draw k_law_draw b_law_draw .nil pass0 (pa_cons (pv 0) (pa_cons pe_int pa_nil))) pa_nil)) (blkOk_by (N := ["pool", "most", "k", "inputs", "stored", "nets", "gates", "pins", "ranges", "pin", "low", "regs", "outputs", "name", "j"]) (sc := defScope s_law_circuit) (own := [("k", 2)]) (by decide +kernel)) (fun _ _ _ _ _ => (pg_name (i := 2) sc_law_circuit.nd rfl (.inl rfl))) (fun _ _ _ _ _ => pts_nil) (fun _ _ _ _ _ => (pe_op op_add_str pe_str (pe_callTy call_str_int (by rfl) T.str (by decide +kernel) (pa_cons (pv 2) pa_nil)))))
    (pss_cons (ps_set (i := 5) sc_law_circuit.nd rfl (.inr rfl) (pe_op op_cat (pv 3) (pv 4)))
    (pss_cons (ps_set (i := 6) sc_law_circuit.nd rfl (.inl rfl) (pe_lst pa_nil))
    (pss_cons (ps_for PassesOwn.never rfl (pi_range1 rfl T.range (pa_cons (pe_call G_law_draw (hr.mono (by omega)) (by rfl) g_law_draw k_law_draw b_law_draw .nil pass0 (pa_cons (pv 0) (pa_cons (pe_op op_add (pv 1) pe_int) pa_nil))) pa_nil)) (pg_name (i := 2) sc_law_circuit.nd rfl (.inl rfl))
      (pss_cons (ps_set (i := 7) sc_law_circuit.nd rfl (.inl rfl) (pe_callTy call_tuple_of (by rfl) T.tuple (by decide +kernel) (pa_cons (pe_lc (own := [("j", 14)]) (g := gName 14) (tt := tYes) rfl sc_law_circuit.nd (pi_range1 rfl T.range (pa_cons (pe_ix ix_list (pe_lst (pa_cons pe_int (pa_cons pe_int (pa_cons pe_int (pa_cons pe_int (pa_cons pe_int (pa_cons pe_int pa_nil))))))) (pe_call G_law_draw (hr.mono (by omega)) (by rfl) g_law_draw k_law_draw b_law_draw .nil pass0 (pa_cons (pv 0) (pa_cons pe_int pa_nil))) (fun _ _ => rfl)) pa_nil)) (blkOk_by (N := ["pool", "most", "k", "inputs", "stored", "nets", "gates", "pins", "ranges", "pin", "low", "regs", "outputs", "name", "j"]) (sc := defScope s_law_circuit) (own := [("j", 14)]) (by decide +kernel)) (fun _ _ _ _ _ => (pg_name (i := 14) sc_law_circuit.nd rfl (.inl rfl))) (fun _ _ _ _ _ => pts_nil) (fun _ _ _ _ _ => (pe_ix (kIxL (K := K) rfl) (pv 5) (pe_call G_law_draw (hr.mono (by omega)) (by rfl) g_law_draw k_law_draw b_law_draw .nil pass0 (pa_cons (pv 0) (pa_cons (pe_callB (kLen (K := K) rfl) (by rfl) T.len (by decide +kernel) (pa_cons (pv 5) pa_nil)) pa_nil))) (fun _ _ => rfl)))) pa_nil)))
      (pss_cons (ps_set (i := 8) sc_law_circuit.nd rfl (.inl rfl) (pe_lst pa_nil))
      (pss_cons (ps_for PassesOwn.never rfl (pi_tup (pv 7)) (pg_name (i := 9) sc_law_circuit.nd rfl (.inl rfl))
        (pss_cons (ps_set (i := 10) sc_law_circuit.nd rfl (.inl rfl) (pe_call G_law_draw (hr.mono (by omega)) (by rfl) g_law_draw k_law_draw b_law_draw .nil pass0 (pa_cons (pv 0) (pa_cons pe_int pa_nil))))
        (pss_one (ps_expr (pe_bm PySem.F.plainAttrs_list PySem.F.slot_list_append PySem.F.type_list_append mt_append (pv 8) (pa_cons (pe_tup (pa_cons (pv 10) (pa_cons (pe_op op_add (pe_op op_add (pv 10) pe_int) (pe_call G_law_draw (hr.mono (by omega)) (by rfl) g_law_draw k_law_draw b_law_draw .nil pass0 (pa_cons (pv 0) (pa_cons pe_int pa_nil)))) pa_nil))) pa_nil))))))
      (pss_cons (ps_expr (pe_bm PySem.F.plainAttrs_list PySem.F.slot_list_append PySem.F.type_list_append mt_append (pv 6) (pa_cons (pe_tup (pa_cons (pe_op op_add_str pe_str (pe_callTy call_str_int (by rfl) T.str (by decide +kernel) (pa_cons (pv 2) pa_nil))) (pa_cons (pe_call G_law_table (hr.mono (by omega)) (by rfl) g_law_table k_law_table b_law_table .nil pass0 (pa_cons (pv 0) (pa_cons (pe_callB call_len_seq (by rfl) T.len (by decide +kernel) (pa_cons (pv 7) pa_nil)) pa_nil))) (pa_cons (pv 7) (pa_cons (pe_callTy call_tuple_of (by rfl) T.tuple (by decide +kernel) (pa_cons (pv 8) pa_nil)) pa_nil))))) pa_nil)))
      (pss_one (ps_expr (pe_bm PySem.F.plainAttrs_list PySem.F.slot_list_append PySem.F.type_list_append mt_append (pv 5) (pa_cons (pe_op op_add_str pe_str (pe_callTy call_str_int (by rfl) T.str (by decide +kernel) (pa_cons (pv 2) pa_nil))) pa_nil)))))))))
    (pss_cons (ps_setLc (i := 11) (own := [("name", 13)]) (g := gName 13) (tt := tYes) rfl sc_law_circuit.nd rfl rfl (sw_true rfl rfl rfl (by decide +kernel)) (pi_list (pv 4)) (blkOk_by (N := ["pool", "most", "k", "inputs", "stored", "nets", "gates", "pins", "ranges", "pin", "low", "regs", "outputs", "name", "j"]) (sc := defScope s_law_circuit) (own := [("name", 13)]) (by decide +kernel)) (fun _ _ _ _ _ => (pg_name (i := 13) sc_law_circuit.nd rfl (.inl rfl))) (fun _ _ _ _ _ => pts_nil) (fun _ _ _ _ _ => (pe_call G_law_register (hr.mono (by omega)) (by rfl) g_law_register k_law_register b_law_register .nil pass0 (pa_cons (pv 0) (pa_cons (pv 13) (pa_cons (pe_ix (kIxL (K := K) rfl) (pv 5) (pe_call G_law_draw (hr.mono (by omega)) (by rfl) g_law_draw k_law_draw b_law_draw .nil pass0 (pa_cons (pv 0) (pa_cons (pe_callB (kLen (K := K) rfl) (by rfl) T.len (by decide +kernel) (pa_cons (pv 5) pa_nil)) pa_nil))) (fun _ _ => rfl)) pa_nil))))))
    (pss_cons (ps_setLc (i := 12) (own := [("k", 2)]) (g := gName 2) (tt := tYes) rfl sc_law_circuit.nd rfl rfl (sw_true rfl rfl rfl (by decide +kernel)) (pi_range1 rfl T.range (pa_cons (pe_call G_law_draw (hr.mono (by omega)) (by rfl) g_law_draw k_law_draw b_law_draw .nil pass0 (pa_cons (pv 0) (pa_cons pe_int pa_nil))) pa_nil)) (blkOk_by (N := ["pool", "most", "k", "inputs", "stored", "nets", "gates", "pins", "ranges", "pin", "low", "regs", "outputs", "name", "j"]) (sc := defScope s_law_circuit) (own := [("k", 2)]) (by decide +kernel)) (fun _ _ _ _ _ => (pg_name (i := 2) sc_law_circuit.nd rfl (.inl rfl))) (fun _ _ _ _ _ => pts_nil) (fun _ _ _ _ _ => (pe_tup (pa_cons (pe_op op_add_str pe_str (pe_callTy call_str_int (by rfl) T.str (by decide +kernel) (pa_cons (pv 2) pa_nil))) (pa_cons (pe_ix (kIxL (K := K) rfl) (pv 5) (pe_call G_law_draw (hr.mono (by omega)) (by rfl) g_law_draw k_law_draw b_law_draw .nil pass0 (pa_cons (pv 0) (pa_cons (pe_callB (kLen (K := K) rfl) (by rfl) T.len (by decide +kernel) (pa_cons (pv 5) pa_nil)) pa_nil))) (fun _ _ => rfl)) pa_nil)))))
    (pss_one (ps_ret (pe_tup (pa_cons (pe_callTy call_tuple_of (by rfl) T.tuple (by decide +kernel) (pa_cons (pv 3) pa_nil)) (pa_cons (pe_callTy call_tuple_of (by rfl) T.tuple (by decide +kernel) (pa_cons (pe_call G_law_shuffled (hr.mono (by omega)) (by rfl) g_law_shuffled k_law_shuffled b_law_shuffled .nil pass0 (pa_cons (pv 0) (pa_cons (pv 6) pa_nil))) pa_nil)) (pa_cons (pe_callTy call_tuple_of (by rfl) T.tuple (by decide +kernel) (pa_cons (pv 11) pa_nil)) (pa_cons (pe_callTy call_tuple_of (by rfl) T.tuple (by decide +kernel) (pa_cons (pv 12) pa_nil)) pa_nil)))))))))))))), ?_⟩
    -- inputs
    refine ⟨_, rfl, p, a, 3, rfl, by decide, by decide, hp, fun na H1 hna X1 _ => ⟨_, _, rfl, rfl, _, rfl, by omega, by omega, fun L3 nL3 => lcRv (fun k => .str (nm "i" k)) (by omega) (fun _ => rfl) (fun k H2 hk _ Q q => ?_) ?_⟩⟩
    · rw [Int.zero_add]
      have := nm_read nmi_str (k := k) (by omega)
      exact ⟨_, rfl, _, rfl, this.1, _, _, rfl, rfl, this.2, q⟩
    have e1 : ((1 : Int) + (na : Int)).toNat = na + 1 := by omega
    rw [e1] at *
    have X3 := X1.new (o := .lst ((List.range (na + 1)).map fun k => V.str (nm "i" k))) nL3
    have h3 : hid p (upd H1 L3 (.lst ((List.range (na + 1)).map fun k => V.str (nm "i" k)))) L3 = some (.lst (((List.range (na + 1)).map (nm "i")).map V.str)) := by
      rw [hid_new (X1.pool.ne nL3), List.map_map]; rfl
    generalize upd H1 L3 (.lst ((List.range (na + 1)).map fun k => V.str (nm "i" k))) = H2 at *
    -- stored
    refine ⟨_, rfl, p, a, 4, rfl, by decide, by decide, X3.pool, fun nb H3 hnb X4 _ => ⟨_, rfl, by omega, by omega, fun L4 nL4 => lcRv (fun k => .str (nm "r" k)) (by omega) (fun _ => rfl) (fun k H2 hk _ Q q => ?_) ?_⟩⟩
    · rw [Int.zero_add]
      have := nm_read nmr_str (k := k) (by omega)
      exact ⟨_, rfl, _, rfl, this.1, _, _, rfl, rfl, this.2, q⟩
    rw [Int.toNat_natCast] at *
    have n34 : L3 ≠ L4 := ne_of_none (hid_get (X4.get h3)) nL4
    have X5 := (X3.trans X4).new (o := .lst ((List.range nb).map fun k => V.str (nm "r" k))) nL4
    have h4 : hid p (upd H3 L4 (.lst ((List.range nb).map fun k => V.str (nm "r" k)))) L4 = some (.lst (((List.range nb).map (nm "r")).map V.str)) := by
      rw [hid_new (X4.pool.ne nL4), List.map_map]; rfl
    have h35 : hid p (upd H3 L4 (.lst ((List.range nb).map fun k => V.str (nm "r" k)))) L3 = some (.lst (((List.range (na + 1)).map (nm "i")).map V.str)) := keep1 (X4.get h3) n34 (X4.pool.ne nL4)
    generalize upd H3 L4 (.lst ((List.range nb).map fun k => V.str (nm "r" k))) = H4 at *
    generalize eIns : (List.range (na + 1)).map (nm "i") = ins at *
    generalize eRgs : (List.range nb).map (nm "r") = rgs at *
    have lIns : ins.length ≤ 3 := by rw [← eIns, List.length_map, List.length_range]; omega
    have lIns0 : 0 < ins.length := by rw [← eIns, List.length_map, List.length_range]; omega
    have lRgs : rgs.length ≤ 3 := by rw [← eRgs, List.length_map, List.length_range]; omega
    -- nets, gates
    refine ⟨_, rfl, _, rfl, L3, L4, _, _, rfl, rfl, hid_get h35, hid_get h4, sz_of (by rw [List.length_map, List.length_map]; omega), fun L5 nL5 => ⟨Nat.zero_le _, fun L6 nL6 => ?_⟩⟩
    rw [← List.map_append] at *
    have n35 : L3 ≠ L5 := ne_of_none (hid_get h35) nL5
    have n45 : L4 ≠ L5 := ne_of_none (hid_get h4) nL5
    have p5 := X5.pool.ne nL5
    have Y5 := X5.new (o := .lst ((ins ++ rgs).map V.str)) nL5
    have g3 : hid p (upd H4 L5 (.lst ((ins ++ rgs).map V.str))) L3 = some (.lst (ins.map V.str)) := keep1 h35 n35 p5
    have g4 : hid p (upd H4 L5 (.lst ((ins ++ rgs).map V.str))) L4 = some (.lst (rgs.map V.str)) := keep1 h4 n45 p5
    have g5 : hid p (upd H4 L5 (.lst ((ins ++ rgs).map V.str))) L5 = some (.lst ((ins ++ rgs).map V.str)) := hid_new p5
    have f5 : H L5 = none := X5.free nL5
    generalize upd H4 L5 (.lst ((ins ++ rgs).map V.str)) = H5 at *
    have n36 : L3 ≠ L6 := ne_of_none (hid_get g3) nL6
    have n46 : L4 ≠ L6 := ne_of_none (hid_get g4) nL6
    have n56 : L5 ≠ L6 := ne_of_none (hid_get g5) nL6
    have p6 := Y5.pool.ne nL6
    have f6 : H L6 = none := Y5.free nL6
    have Y6 := Y5.new (o := .lst []) nL6
    have k3 : hid p (upd H5 L6 (.lst [])) L3 = some (.lst (ins.map V.str)) := keep1 g3 n36 p6
    have k4 : hid p (upd H5 L6 (.lst [])) L4 = some (.lst (rgs.map V.str)) := keep1 g4 n46 p6
    have k5 : hid p (upd H5 L6 (.lst [])) L5 = some (.lst ((ins ++ rgs).map V.str)) := keep1 g5 n56 p6
    have k6 : hid p (upd H5 L6 (.lst [])) L6 = some (.lst []) := hid_new p6
    generalize upd H5 L6 (.lst []) = H6 at *
    refine ⟨_, rfl, _, rfl, _, _, rfl, rfl, p, a, (most : Int) + 1, rfl, by omega, by omega, Y6.pool, fun ng H7 hng X7 _ => ⟨ng, rfl, by omega, by omega, for_range (n := ((ng : Nat) : Int).toNat)
      (fun i σ H' => Px p a H H' ∧ hid p H' L3 = some (.lst (ins.map V.str)) ∧ hid p H' L4 = some (.lst (rgs.map V.str)) ∧ hid p H' L5 = some (.lst ((ins ++ rgs ++ (List.range i).map (nm "g")).map V.str)) ∧
        ∃ (ga : List Addr) (G : List GateD), hid p H' L6 = some (.lst (ga.map V.ref)) ∧ All2 (GateAt H') ga G ∧ G.length = i ∧ (∀ k g, G[k]? = some g → GateWf (ins ++ rgs ++ (List.range k).map (nm "g")) k g) ∧
        ∃ (x2 x7 x8 x9 x10 : Option V), σ = [some (.ref p), some (.int most), x2, some (.ref L3), some (.ref L4), some (.ref L5), some (.ref L6), x7, x8, x9, x10, none, none, none, none])
      ⟨Y6.trans X7, X7.get k3, X7.get k4, ?_, [], [], X7.get k6, .nil, rfl, (fun _ _ h => nomatch h), _, _, _, _, _, rfl⟩ ?_ ?_⟩⟩
    · rw [List.range_zero, List.map_nil, List.append_nil]; exact X7.get k5
    · rintro i σ H8 hi ⟨X8, q3, q4, q5, ga, G, q6, hG, hGi, hGw, x2, x7, x8, x9, x10, rfl⟩
      rw [Int.toNat_natCast] at hi
      have hi15 : i < 15 := by omega
      have lN : (ins ++ rgs ++ (List.range i).map (nm "g")).length ≤ 21 := by
        rw [List.length_append, List.length_append, List.length_map, List.length_range]; omega
      have lN0 : 0 < (ins ++ rgs ++ (List.range i).map (nm "g")).length := by
        rw [List.length_append, List.length_append]; omega
      have ei : (0 : Int) + (i : Int) = (i : Int) := Int.zero_add _
      rw [ei]
      generalize eN : ins ++ rgs ++ (List.range i).map (nm "g") = N at *
      -- pins
      refine ⟨(by show 6 ≤ sizeLine; decide), fun l nl => ⟨_, rfl, p, a, 6, rfl, by decide, by decide, (X8.new nl).pool, fun v H9 hv X9 kp => ?_⟩⟩
      have hl9 : H9 l = some (.lst [.int 1, .int 2, .int 2, .int 3, .int 0, .int 1]) := by rw [kp _ (X8.pool.ne nl)]; exact upd_same
      obtain ⟨m, hm3, hm⟩ : ∃ m : Nat, m ≤ 3 ∧ ([.int 1, .int 2, .int 2, .int 3, .int 0, .int 1] : List V)[v]? = some (.int m) := by
        match v, hv with
        | 0, _ => exact ⟨1, by decide, rfl⟩
        | 1, _ => exact ⟨2, by decide, rfl⟩
        | 2, _ => exact ⟨2, by decide, rfl⟩
        | 3, _ => exact ⟨3, by decide, rfl⟩
        | 4, _ => exact ⟨0, by decide, rfl⟩
        | 5, _ => exact ⟨1, by decide, rfl⟩
        | n + 6, h => exact absurd h (by omega)
      have Z9 := ((Px.refl X8.pool).new nl).trans X9
      refine ⟨_, _, _, _, rfl, rfl, SqL.of hl9, atI_nat hm, _, rfl, by omega, by omega, fun L7 nL7 => lc_range (lo := 0) (n := ((m : Nat) : Int).toNat)
        (fun j H' => Px p a H8 H' ∧ ∃ ps : List Str, ps.length = j ∧ (∀ x ∈ ps, x ∈ N) ∧ hid p H' L7 = some (.lst (ps.map V.str))) ⟨Z9.new nL7, [], rfl, (fun _ h => nomatch h), hid_new (X9.pool.ne nL7)⟩ ?_ ?_⟩
      · rintro j H10 hj ⟨X10, ps, hpj, hpN, hps⟩
        have f7 : H8 L7 = none := Z9.free nL7
        refine ⟨rfl, tYes_in ⟨_, rfl, _, rfl, _, rfl, _, _, rfl, .inl (SqL.of (X10.at_ q5)), p, a, N.length, by rw [List.length_map]; rfl, by omega, by omega, X10.pool, fun u H11 hu X11 _ => ?_⟩⟩
        have hu' : u < N.length := by omega
        have Z11 := X10.trans X11
        refine ⟨_, _, _, _, rfl, rfl, SqL.of (Z11.at_ q5), atI_nat (strV_at hu'), _, hid_get (X11.get hps), sz_lt (by rw [List.length_map]; omega), Z11.mut f7, ps ++ [N[u]], ?_, ?_, ?_⟩
        · rw [List.length_append, hpj]; rfl
        · intro x hx
          rcases List.mem_append.mp hx with z | z
          · exact hpN x z
          · rw [List.mem_singleton.mp z]; exact List.getElem_mem hu'
        · rw [hid_new (X8.pool.ne f7), List.map_append]; rfl
      · rintro H10 ⟨X10, ps, hpj, hpN, hps⟩
        rw [Int.toNat_natCast] at hpj
        refine ⟨_, _, rfl, .inl ⟨SqL.of (hid_get hps), fun pt npt => ?_⟩⟩
        have Z10 := X10.new (o := .tup (ps.map V.str)) npt
        have hpt : upd H10 pt (.tup (ps.map V.str)) pt = some (.tup (ps.map V.str)) := upd_same
        generalize upd H10 pt (.tup (ps.map V.str)) = H11 at *
        -- ranges
        refine ⟨Nat.zero_le _, fun L8 nL8 => ?_⟩
        have Z11 := Z10.new (o := .lst []) nL8
        have hpt2 : upd H11 L8 (.lst []) pt = some (.tup (ps.map V.str)) := Ex.new nL8 _ _ hpt
        have h8 : hid p (upd H11 L8 (.lst [])) L8 = some (.lst []) := hid_new (Z10.pool.ne nL8)
        have f8 : H8 L8 = none := Z10.free nL8
        have p8 := X8.pool.ne f8
        generalize upd H11 L8 (.lst []) = H12 at *
        refine ⟨_, rfl, pt, rfl, ⟨_, SqT.of hpt2⟩, for_tup (K := K) (a := pt) (xs := ps.map V.str)
          (fun j σ H' => Px p a H8 H' ∧ TEx H12 H' ∧ ∃ (ra : List Addr) (R : List (Int × Int)) (x9 x10 : Option V), hid p H' L8 = some (.lst (ra.map V.ref)) ∧ All2 (IntsAt H') ra R ∧ R.length = j ∧ (∀ r ∈ R, 0 ≤ r.1 ∧ r.1 ≤ 4 ∧ r.1 + 2 ≤ r.2 ∧ r.2 ≤ r.1 + 6) ∧
            σ = [some (.ref p), some (.int most), some (.int (i : Int)), some (.ref L3), some (.ref L4), some (.ref L5), some (.ref L6), some (.ref pt), some (.ref L8), x9, x10, none, none, none, none])
          ⟨Z11, .refl _, [], [], _, _, h8, .nil, rfl, (fun _ h => nomatch h), rfl⟩ (fun j σ H' _ g => SqT.of (g.2.1 _ _ hpt2)) ?_ ?_⟩
        · rintro j x σ H13 hx ⟨X13, T13, ra, R, x9, x10, hra, hR, hRj, hRw, rfl⟩
          have hj3 : j < 3 := by have := (List.getElem?_eq_some_iff.mp hx).1; rw [List.length_map] at this; omega
          refine ⟨_, rfl, p, a, 5, rfl, by decide, by decide, X13.pool, fun lo H14 hlo X14 _ => ?_⟩
          refine ⟨_, rfl, .inl ⟨rfl, _, SqL.of (hid_get (X14.get hra))⟩, _, rfl, _, rfl, _, _, rfl, rfl, _, rfl, p, a, 5, rfl, by decide, by decide, X14.pool, fun u H15 hu X15 _ => ⟨_, _, rfl, rfl, (by show 2 ≤ sizeLine; decide), fun e ne => ?_⟩⟩
          have X16 := (X14.trans X15).new (o := .tup [.int lo, .int ((lo : Int) + 2 + u)]) ne
          have hra16 := X16.get hra
          have T16 := TEx.px X16
          have he : upd H15 e (.tup [.int lo, .int ((lo : Int) + 2 + u)]) e = some (.tup [.int lo, .int ((lo : Int) + 2 + u)]) := upd_same
          generalize upd H15 e (.tup [.int lo, .int ((lo : Int) + 2 + u)]) = H16 at *
          refine ⟨L8, ra.map V.ref, .ref e, rfl, rfl, hid_get hra16, sz_lt (by rw [List.length_map, hR.1]; omega), (X13.trans X16).mut f8, T13.trans (T16.trans (TEx.mut (hid_get hra16))), ra ++ [e], R ++ [((lo : Int), (lo : Int) + 2 + u)], _, _, ?_, ?_, ?_, ?_, rfl⟩
          · rw [hid_new p8, List.map_append]; rfl
          · exact (hR.imp fun _ _ z => (z.te T16).te (TEx.mut (hid_get hra16))).snoc (TEx.mut (hid_get hra16) _ _ he)
          · rw [List.length_append, hRj]; rfl
          · intro r hr
            rcases List.mem_append.mp hr with z | z
            · exact hRw r z
            · rw [List.mem_singleton.mp z]
              refine ⟨?_, ?_, ?_, ?_⟩ <;> simp <;> omega
        · rintro σ H13 ⟨X13, T13, ra, R, x9, x10, hra, hR, hRj, hRw, rfl⟩
          have hs := nm_read nmg_str (k := i) (by omega)
          rw [List.length_map] at hRj
          refine ⟨_, rfl, .inl ⟨rfl, _, SqL.of (X13.at_ q6)⟩, _, rfl, _, rfl, hs.1, _, _, rfl, rfl, hs.2, ?_⟩
          refine ⟨_, rfl, _, rfl, _, _, rfl, .inr (SqT.of (T13 _ _ hpt2)), p, a, ps.length, by rw [List.length_map]; rfl, by omega, X13.pool, fun t bs H14 hbl X14 nt ht => ?_⟩
          have T14 := TEx.px X14
          refine ⟨_, rfl, _, rfl, _, _, rfl, .inl ⟨SqL.of (hid_get (X14.get hra)), fun rt nrt => ?_⟩⟩
          have X15 := X14.new (o := .tup (ra.map V.ref)) nrt
          have T15 := TEx.px X15
          have hrt : upd H14 rt (.tup (ra.map V.ref)) rt = some (.tup (ra.map V.ref)) := upd_same
          have ht15 : upd H14 rt (.tup (ra.map V.ref)) t = some (.tup (bs.map V.bl)) := Ex.new nrt _ _ ht
          generalize upd H14 rt (.tup (ra.map V.ref)) = H15 at *
          refine ⟨(by show 4 ≤ sizeLine; decide), fun g ngg => ?_⟩
          have X16 := X15.new (o := .tup [.str (("g" : Str) ++ Str.ofString (toString ((i : Nat) : Int))), .ref t, .ref pt, .ref rt]) ngg
          have T16 : TEx H13 (upd H15 g (.tup [.str (("g" : Str) ++ Str.ofString (toString ((i : Nat) : Int))), .ref t, .ref pt, .ref rt])) := TEx.px X16
          have hg16 : upd H15 g (.tup [.str (("g" : Str) ++ Str.ofString (toString ((i : Nat) : Int))), .ref t, .ref pt, .ref rt]) g = some (.tup [.str (("g" : Str) ++ Str.ofString (toString ((i : Nat) : Int))), .ref t, .ref pt, .ref rt]) := upd_same
          have ht16 := Ex.new (o := .tup [.str (("g" : Str) ++ Str.ofString (toString ((i : Nat) : Int))), .ref t, .ref pt, .ref rt]) ngg _ _ ht15
          have hrt16 := Ex.new (o := .tup [.str (("g" : Str) ++ Str.ofString (toString ((i : Nat) : Int))), .ref t, .ref pt, .ref rt]) ngg _ _ hrt
          have Z16 := X13.trans X16
          generalize upd H15 g (.tup [.str (("g" : Str) ++ Str.ofString (toString ((i : Nat) : Int))), .ref t, .ref pt, .ref rt]) = H16 at *
          have hG16 : GateAt H16 g ⟨nm "g" i, bs, ps, R⟩ := ⟨t, pt, rt, ra, hg16, ht16, (T13.trans T16) _ _ hpt2, hrt16, hR.imp fun _ _ z => z.te T16⟩
          have q6' := Z16.get q6
          have p6' := hid_neq q6'
          have p5' := hid_neq q5
          have T17 : TEx H16 (upd H16 L6 (.lst (ga.map V.ref ++ [.ref g]))) := TEx.mut (hid_get q6')
          have hGs : All2 (GateAt H16) ga G := hG.imp fun _ _ z => z.te (TEx.px Z16)
          refine ⟨L6, ga.map V.ref, .ref g, rfl, rfl, hid_get q6', sz_lt (by rw [List.length_map, hG.1]; omega), ?_⟩
          have r3 := keep1 (o' := .lst (ga.map V.ref ++ [.ref g])) (Z16.get q3) n36 p6'
          have r4 := keep1 (o' := .lst (ga.map V.ref ++ [.ref g])) (Z16.get q4) n46 p6'
          have r5 := keep1 (o' := .lst (ga.map V.ref ++ [.ref g])) (Z16.get q5) n56 p6'
          have r6 : hid p (upd H16 L6 (.lst (ga.map V.ref ++ [.ref g]))) L6 = some (.lst ((ga ++ [g]).map V.ref)) := by rw [hid_new p6', List.map_append]; rfl
          have X17 := ((X8.trans Z16)).mut (o := .lst (ga.map V.ref ++ [.ref g])) f6
          have hG17 : All2 (GateAt (upd H16 L6 (.lst (ga.map V.ref ++ [.ref g])))) (ga ++ [g]) (G ++ [⟨nm "g" i, bs, ps, R⟩]) := (hGs.imp fun _ _ z => z.te T17).snoc (hG16.te T17)
          generalize upd H16 L6 (.lst (ga.map V.ref ++ [.ref g])) = H17 at *
          refine ⟨_, rfl, .inl ⟨rfl, _, SqL.of (hid_get r5)⟩, _, rfl, _, rfl, hs.1, _, _, rfl, rfl, hs.2, L5, N.map V.str, .str (nm "g" i), rfl, rfl, hid_get r5, sz_lt (by rw [List.length_map]; omega), ?_⟩
          have T18 : TEx H17 (upd H17 L5 (.lst (N.map V.str ++ [.str (nm "g" i)]))) := TEx.mut (hid_get r5)
          refine ⟨X17.mut f5, keep1 r3 n35 p5', keep1 r4 n45 p5', ?_, ga ++ [g], G ++ [⟨nm "g" i, bs, ps, R⟩], keep1 r6 n56.symm p5', hG17.imp fun _ _ z => z.te T18, ?_, ?_, _, _, _, _, _, rfl⟩
          · rw [hid_new p5', nms_snoc, ← List.append_assoc, eN, List.map_append]; rfl
          · rw [List.length_append, hGi]; rfl
          · intro k g' hk
            by_cases hkl : k < G.length
            · rw [List.getElem?_append_left hkl] at hk; exact hGw k g' hk
            · rw [List.getElem?_append_right (by omega)] at hk
              have hk0 : k - G.length = 0 := by
                cases e : k - G.length with
                | zero => rfl
                | succ n => rw [e] at hk; exact nomatch hk
              rw [hk0] at hk
              have : k = i := by omega
              subst this
              cases hk
              exact ⟨rfl, by show ps.length ≤ 3; omega, by rw [eN]; exact hpN, hbl, hRj, hRw⟩
    · rintro σ H8 ⟨X8, q3, q4, q5, ga, G, q6, hG, hGi, hGw, x2, x7, x8, x9, x10, rfl⟩
      rw [Int.toNat_natCast] at hGi q5
      have lN : (ins ++ rgs ++ (List.range ng).map (nm "g")).length ≤ 21 := by
        rw [List.length_append, List.length_append, List.length_map, List.length_range]; omega
      have lN0 : 0 < (ins ++ rgs ++ (List.range ng).map (nm "g")).length := by
        rw [List.length_append, List.length_append]; omega
      generalize eN : ins ++ rgs ++ (List.range ng).map (nm "g") = N at *
      -- regs
      refine ⟨_, rfl, L4, rfl, ⟨_, SqL.of (hid_get q4)⟩, fun L11 nL11 => wk_list (K := K) (a := L4) (xs := rgs.map V.str)
        (fun j H' => Px p a H8 H' ∧ ∃ (ra : List Addr) (R : List RegD), hid p H' L11 = some (.lst (ra.map V.ref)) ∧ All2 (RegAt H') ra R ∧ R.map (·.name) = rgs.take j ∧ ∀ r ∈ R, RegWf r ∧ r.net ∈ N)
        ⟨(Px.refl X8.pool).new nL11, [], [], hid_new (X8.pool.ne nL11), .nil, (by rw [List.take_zero]; rfl), (fun _ h => nomatch h)⟩ (fun j H' _ g => SqL.of (g.1.at_ q4)) ?_ ?_⟩
      · rintro j x H9 hx ⟨X9, ra, R, hra, hR, hRn, hRw⟩
        have hj : j < rgs.length := by have := (List.getElem?_eq_some_iff.mp hx).1; rw [List.length_map] at this; exact this
        obtain rfl : x = .str rgs[j] := by rw [strV_at hj] at hx; exact (Option.some.inj hx).symm
        refine ⟨rfl, tYes_in ⟨_, rfl, _, rfl, _, rfl, _, rfl, _, rfl, _, _, rfl, .inl (SqL.of (X9.at_ q5)), p, a, N.length, by rw [List.length_map]; rfl, by omega, by omega, X9.pool, fun u H10 hu X10 _ => ?_⟩⟩
        have hu' : u < N.length := by omega
        refine ⟨_, _, _, _, rfl, rfl, SqL.of ((X9.trans X10).at_ q5), atI_nat (strV_at hu'), p, a, rgs[j], N[u], rfl, X10.pool, fun y r H11 X11 ny hr hn1 hn2 hw => ?_⟩
        have Z := X10.trans X11
        have hra' := Z.get hra
        refine ⟨_, hid_get hra', sz_lt (by rw [List.length_map, hR.1]; have := congrArg List.length hRn; rw [List.length_map, List.length_take] at this; omega), (X9.trans Z).mut nL11, ra ++ [y], R ++ [r], ?_, ?_, ?_, ?_⟩
        · rw [hid_new (X8.pool.ne nL11), List.map_append]; rfl
        · exact ((hR.imp fun _ _ z => z.te (TEx.px Z)).snoc hr).imp fun _ _ z => z.te (TEx.mut (hid_get hra'))
        · rw [List.map_append, hRn, List.take_add_one, List.getElem?_eq_getElem hj, ← hn1]; rfl
        · intro r' hr'
          rcases List.mem_append.mp hr' with z | z
          · exact hRw r' z
          · rw [List.mem_singleton.mp z]; exact ⟨hw, by rw [hn2]; exact List.getElem_mem hu'⟩
      rintro H9 ⟨X9, ra, R, hra, hR, hRn, hRw⟩
      rw [List.length_map, List.take_length] at hRn
      -- outputs
      refine ⟨_, rfl, p, a, 4, rfl, by decide, by decide, X9.pool, fun nq H10 hnq X10 _ => ⟨_, rfl, by omega, by omega, fun L12 nL12 => lc_range (lo := 0) (n := ((nq : Nat) : Int).toNat)
        (fun j H' => Px p a H10 H' ∧ ∃ (oa : List Addr) (O : List (Str × Str)), hid p H' L12 = some (.lst (oa.map V.ref)) ∧ All2 (OutAt H') oa O ∧ O.map (·.1) = (List.range j).map (nm "p") ∧ ∀ o ∈ O, o.2 ∈ N)
        ⟨(Px.refl X10.pool).new nL12, [], [], hid_new (X10.pool.ne nL12), .nil, rfl, (fun _ h => nomatch h)⟩ ?_ ?_⟩⟩
      · rintro j H11 hj ⟨X11, oa, O, hoa, hO, hOn, hOw⟩
        have hs := nm_read nmp_str (k := j) (by omega)
        have ej : (0 : Int) + (j : Int) = (j : Int) := Int.zero_add _
        rw [ej]
        have Z11 := (X9.trans X10).trans X11
        refine ⟨rfl, tYes_in ⟨_, rfl, _, rfl, hs.1, _, _, rfl, rfl, hs.2, _, rfl, _, rfl, _, rfl, _, _, rfl, .inl (SqL.of (Z11.at_ q5)), p, a, N.length, by rw [List.length_map]; rfl, by omega, by omega, X11.pool, fun u H12 hu X12 _ => ?_⟩⟩
        have hu' : u < N.length := by omega
        refine ⟨_, _, _, _, rfl, rfl, SqL.of ((Z11.trans X12).at_ q5), atI_nat (strV_at hu'), (by show 2 ≤ sizeLine; decide), fun e ne => ?_⟩
        have Z := X12.new (o := .tup [.str (("p" : Str) ++ Str.ofString (toString ((j : Nat) : Int))), .str N[u]]) ne
        have hoa' := Z.get hoa
        refine ⟨_, hid_get hoa', sz_lt (by rw [List.length_map, hO.1]; have := congrArg List.length hOn; rw [List.length_map, List.length_map, List.length_range] at this; omega), (X11.trans Z).mut nL12, oa ++ [e], O ++ [(nm "p" j, N[u])], ?_, ?_, ?_, ?_⟩
        · rw [hid_new (X10.pool.ne nL12), List.map_append]; rfl
        · exact ((hO.imp fun _ _ z => TEx.px Z _ _ z).snoc (show OutAt _ e (nm "p" j, N[u]) from upd_same)).imp fun _ _ z => TEx.mut (hid_get hoa') _ _ z
        · rw [List.map_append, hOn, nms_snoc]; rfl
        · intro o ho
          rcases List.mem_append.mp ho with z | z
          · exact hOw o z
          · rw [List.mem_singleton.mp z]; exact List.getElem_mem hu'
      rintro H11 ⟨X11, oa, O, hoa, hO, hOn, hOw⟩
      rw [Int.toNat_natCast] at hOn
      have Z11 := X9.trans (X10.trans X11)
      have T11 : TEx H9 H11 := TEx.px (X10.trans X11)
      refine ⟨_, rfl, _, _, rfl, .inl ⟨SqL.of (Z11.at_ q3), fun it nit => ?_⟩⟩
      have X12 := (Px.refl X11.pool).new (o := .tup (ins.map V.str)) nit
      have hit : upd H11 it (.tup (ins.map V.str)) it = some (.tup (ins.map V.str)) := upd_same
      generalize upd H11 it (.tup (ins.map V.str)) = H12 at *
      have hga12 := (Z11.trans X12).get q6
      refine ⟨_, rfl, _, rfl, p, a, L6, ga.map V.ref, rfl, X12.pool, hga12, by rw [List.length_map, hG.1]; omega, fun o ys H13 X13 no ho hperm => ?_⟩
      obtain ⟨gb, GB, rfl, hGB, hGp⟩ := perm_refs (hG.imp fun _ _ z => z.te (TEx.px (Z11.trans (X12.trans X13)))) hperm
      refine ⟨_, _, rfl, .inl ⟨SqL.of ho, fun gt ngt => ?_⟩⟩
      have X14 := X13.new (o := .tup (gb.map V.ref)) ngt
      have hgt : upd H13 gt (.tup (gb.map V.ref)) gt = some (.tup (gb.map V.ref)) := upd_same
      have T14 : TEx H13 (upd H13 gt (.tup (gb.map V.ref))) := TEx.new ngt
      generalize upd H13 gt (.tup (gb.map V.ref)) = H14 at *
      have Y14 := X12.trans X14
      refine ⟨_, rfl, _, _, rfl, .inl ⟨SqL.of (hid_get (Y14.get ((X10.trans X11).get hra))), fun rt nrt => ?_⟩⟩
      have X15 := Y14.new (o := .tup (ra.map V.ref)) nrt
      have hrt : upd H14 rt (.tup (ra.map V.ref)) rt = some (.tup (ra.map V.ref)) := upd_same
      have T15 : TEx H14 (upd H14 rt (.tup (ra.map V.ref))) := TEx.new nrt
      generalize upd H14 rt (.tup (ra.map V.ref)) = H15 at *
      refine ⟨_, rfl, _, _, rfl, .inl ⟨SqL.of (hid_get (X15.get hoa)), fun ot not => ?_⟩⟩
      have X16 := X15.new (o := .tup (oa.map V.ref)) not
      have hot : upd H15 ot (.tup (oa.map V.ref)) ot = some (.tup (oa.map V.ref)) := upd_same
      have T16 : TEx H15 (upd H15 ot (.tup (oa.map V.ref))) := TEx.new not
      generalize upd H15 ot (.tup (oa.map V.ref)) = H16 at *
      refine ⟨(by show 4 ≤ sizeLine; decide), fun c nc => ?_⟩
      have T17 : TEx H16 (upd H16 c (.tup [.ref it, .ref gt, .ref rt, .ref ot])) := TEx.new nc
      have T1114 := TEx.px Y14
      have T1117 := TEx.px X16
      refine q c ⟨ins, GB, R, O⟩ G it gt rt ot gb ra oa _ ((X8.trans (Z11.trans X16)).new nc) ⟨upd_same, ?_, ?_, ?_, ?_, ?_, ?_, ?_⟩ ⟨?_, ?_, ?_, ?_, ?_, ?_, ?_, ?_⟩
      · exact T17 _ _ (T16 _ _ (T15 _ _ (T14 _ _ (TEx.px X13 _ _ hit))))
      · exact T17 _ _ (T16 _ _ (T15 _ _ hgt))
      · exact T17 _ _ (T16 _ _ hrt)
      · exact T17 _ _ hot
      · exact hGB.imp fun _ _ z => z.te (T14.trans (T15.trans (T16.trans T17)))
      · exact hR.imp fun _ _ z => z.te (T11.trans (T1117.trans T17))
      · exact hO.imp fun _ _ z => (T1117.trans T17) _ _ z
      · exact ⟨na + 1, by omega, by omega, eIns.symm⟩
      · exact ⟨nb, by omega, hRn.trans eRgs.symm⟩
      · show G.length ≤ most
        omega
      · intro k g hk
        have := hGw k g hk
        show GateWf (ins ++ R.map (·.name) ++ _) k g
        rw [hRn]; exact this
      · exact hGp
      · intro r hr
        show RegWf r ∧ r.net ∈ ins ++ R.map (·.name) ++ (List.range G.length).map (nm "g")
        rw [hRn, hGi, eN]; exact hRw r hr
      · exact ⟨nq, by omega, hOn⟩
      · intro o ho
        show o.2 ∈ ins ++ R.map (·.name) ++ (List.range G.length).map (nm "g")
        rw [hRn, hGi, eN]; exact hOw o ho
end
end G
namespace G
open PySem PySem.Spec PyProof.Rows L2
/-! ## an order in which each comes behind what it needs: the mathematics -/
theorem nodup_len : ∀ (n : Nat) (l : List Nat), l.Nodup → (∀ k ∈ l, k < n) → l.length ≤ n
  | 0, l, _, h => by
    cases l with
    | nil => exact Nat.le_refl _
    | cons x l => exact absurd (h x (List.mem_cons_self ..)) (Nat.not_lt_zero _)
  | n + 1, l, nd, h => by
    have h1 := nodup_len n (l.filter (· ≠ n)) (nd.filter _) fun k hk => by
      obtain ⟨a, b⟩ := List.mem_filter.mp hk
      have := h k a
      have : k ≠ n := of_decide_eq_true b
      omega
    by_cases hn : n ∈ l
    · have h2 : (l.filter (· ≠ n)).length + 1 = l.length := by
        have e : l.filter (· ≠ n) = l.erase n := by
          rw [nd.erase_eq_filter n]
          refine List.filter_congr fun x _ => ?_
          by_cases h : x = n
          · rw [decide_eq_false fun z => z h, h]; simp
          · rw [decide_eq_true h]; simp [h]
        rw [e, List.length_erase_of_mem hn]
        have := List.length_pos_of_mem hn
        omega
      omega
    · have e : l.filter (· ≠ n) = l := List.filter_eq_self.mpr fun k hk => decide_eq_true fun z => hn (z ▸ hk)
      rw [e] at h1
      omega
def leftN (N : List (List Nat)) (ord : List Nat) (k : Nat) : Nat := ((N.getD k []).filter fun o => decide (o ∉ ord)).length
theorem left_snoc {N : List (List Nat)} {ord : List Nat} {k f : Nat} (h : k ∉ ord) : leftN N ord f = leftN N (ord ++ [k]) f + (N.getD f []).count k := by
  unfold leftN
  generalize N.getD f [] = l
  induction l with
  | nil => rfl
  | cons x l ih =>
    rw [List.filter_cons, List.filter_cons, List.count_cons]
    by_cases e : x = k
    · subst e
      have h1 : decide (x ∉ ord) = true := decide_eq_true h
      have h2 : decide (x ∉ ord ++ [x]) = false := decide_eq_false fun z => z (List.mem_append_right _ (List.mem_singleton.mpr rfl))
      rw [h1, h2, if_pos rfl, if_neg Bool.false_ne_true, if_pos (beq_self_eq_true x), List.length_cons, ih]
      omega
    · have h3 : (x == k) = false := by
        cases hh : x == k with
        | false => rfl
        | true => exact absurd (eq_of_beq hh) e
      rw [h3, if_neg Bool.false_ne_true, Nat.add_zero]
      have h4 : (x ∉ ord ++ [k]) ↔ x ∉ ord := by
        rw [List.mem_append, List.mem_singleton]
        exact ⟨fun z y => z (.inl y), fun z y => y.elim z e⟩
      by_cases h5 : x ∉ ord
      · rw [decide_eq_true h5, decide_eq_true (h4.mpr h5), if_pos rfl, if_pos rfl, List.length_cons, List.length_cons, ih]
        omega
      · rw [decide_eq_false h5, decide_eq_false fun z => h5 (h4.mp z), if_neg Bool.false_ne_true, if_neg Bool.false_ne_true]
        exact ih
theorem left_zero {N : List (List Nat)} {ord : List Nat} {k : Nat} : leftN N ord k = 0 ↔ ∀ o ∈ N.getD k [], o ∈ ord := by
  unfold leftN
  rw [List.length_eq_zero_iff, List.filter_eq_nil_iff]
  constructor
  · intro h o ho
    have := h o ho
    exact Decidable.byContradiction fun z => this (decide_eq_true z)
  · intro h o ho z
    exact (of_decide_eq_true z) (h o ho)
/-- what stands before a pop: the order, what is ready, what is missing -/
structure KInv (N : List (List Nat)) (ord : List Nat) (rd : List Int) (ms : List Int) : Prop where
  len : ms.length = N.length
  nd : ord.Nodup
  ndr : rd.Nodup
  apart : ∀ k : Nat, k ∈ ord → (k : Int) ∉ rd
  lt : ∀ k ∈ ord, k < N.length
  ltr : ∀ z ∈ rd, ∃ k : Nat, z = k ∧ k < N.length ∧ leftN N ord k = 0
  cnt : ∀ k, k < N.length → ms.getD k 0 = (leftN N ord k : Int)
  rdy : ∀ k, k < N.length → leftN N ord k = 0 → k ∈ ord ∨ (k : Int) ∈ rd
  closed : ∀ (i k : Nat), ord[i]? = some k → ∀ o ∈ N.getD k [], o ∈ ord.take i
/-- .. while the followers of the one that was taken are told -/
structure KMid (N : List (List Nat)) (ord : List Nat) (k : Nat) (fol : List Nat) (j : Nat) (rd : List Int) (ms : List Int) : Prop where
  len : ms.length = N.length
  ndr : rd.Nodup
  apart : ∀ k' : Nat, k' ∈ ord ++ [k] → (k' : Int) ∉ rd
  ltr : ∀ z ∈ rd, ∃ f : Nat, z = f ∧ f < N.length ∧ leftN N ord f = (fol.take j).count f
  cnt : ∀ f, f < N.length → ms.getD f 0 = (leftN N ord f : Int) - ((fol.take j).count f : Nat)
  rdy : ∀ f, f < N.length → leftN N ord f = (fol.take j).count f → f ∈ ord ++ [k] ∨ (f : Int) ∈ rd
def FolOk (N : List (List Nat)) (k : Nat) (fol : List Nat) : Prop := (∀ f ∈ fol, f < N.length) ∧ ∀ f, f < N.length → fol.count f = (N.getD f []).count k
theorem KInv.pop {N : List (List Nat)} {ord : List Nat} {rd rd' ms : List Int} {k : Nat} {fol : List Nat} (I : KInv N ord rd ms) (hp : ((k : Int) :: rd').Perm rd) : KMid N ord k fol 0 rd' ms ∧ k < N.length ∧ k ∉ ord ∧ leftN N ord k = 0 := by
  have nd := hp.nodup_iff.mpr I.ndr
  obtain ⟨n1, n2⟩ := List.nodup_cons.mp nd
  have hk : (k : Int) ∈ rd := hp.mem_iff.mp (List.mem_cons_self ..)
  obtain ⟨k', e, hk1, hk2⟩ := I.ltr _ hk
  obtain rfl : k' = k := by omega
  refine ⟨⟨I.len, n2, fun k2 h2 h3 => ?_, fun z hz => ?_, fun f hf => ?_, fun f hf h0 => ?_⟩, hk1, fun z => I.apart _ z hk, hk2⟩
  · rcases List.mem_append.mp h2 with z | z
    · exact I.apart k2 z (hp.mem_iff.mp (List.mem_cons_of_mem _ h3))
    · rw [List.mem_singleton.mp z] at h3
      exact n1 h3
  · obtain ⟨f, e, h1, h2⟩ := I.ltr z (hp.mem_iff.mp (List.mem_cons_of_mem _ hz))
    exact ⟨f, e, h1, by rw [h2]; rfl⟩
  · rw [I.cnt f hf]
    show _ = _ - ((([] : List Nat).count f : Nat) : Int)
    rw [List.count_nil]
    omega
  · rcases I.rdy f hf (by rw [h0]; rfl) with z | z
    · exact .inl (List.mem_append_left _ z)
    · rcases List.mem_cons.mp (hp.mem_iff.mpr z) with y | y
      · exact .inl (List.mem_append_right _ (List.mem_singleton.mpr (by omega)))
      · exact .inr y
theorem closed_left {N : List (List Nat)} {ord : List Nat} (h : ∀ (i k : Nat), ord[i]? = some k → ∀ o ∈ N.getD k [], o ∈ ord.take i) {f : Nat} (hf : f ∈ ord) : leftN N ord f = 0 := by
  obtain ⟨i, hi, e⟩ := List.getElem_of_mem hf
  exact left_zero.mpr fun o ho => List.mem_of_mem_take (h i f (List.getElem?_eq_some_iff.mpr ⟨hi, e⟩) o ho)
theorem getD_setI {l : List Int} {p k : Nat} {v : Int} (hp : p < l.length) : (l.set p v).getD k 0 = if k = p then v else l.getD k 0 := by
  rw [List.getD_eq_getElem?_getD, List.getD_eq_getElem?_getD, List.getElem?_set]
  by_cases e : p = k
  · subst e
    rw [if_pos rfl, if_pos hp, if_pos rfl]; rfl
  · rw [if_neg e, if_neg (Ne.symm e)]
theorem KMid.step {N : List (List Nat)} {ord : List Nat} {k : Nat} {fol : List Nat} {j f : Nat} {rd ms : List Int} (cl : ∀ (i k : Nat), ord[i]? = some k → ∀ o ∈ N.getD k [], o ∈ ord.take i) (hk : k ∉ ord) (hk0 : leftN N ord k = 0) (F : FolOk N k fol) (M : KMid N ord k fol j rd ms) (hf : fol[j]? = some f) :
    f < N.length ∧ (ms.getD f 0 - 1 ≠ 0 → KMid N ord k fol (j + 1) rd (ms.set f (ms.getD f 0 - 1))) ∧ (ms.getD f 0 - 1 = 0 → ∀ rd', rd'.Perm ((f : Int) :: rd) → KMid N ord k fol (j + 1) rd' (ms.set f (ms.getD f 0 - 1))) := by
  have hmem := List.mem_of_getElem? hf
  have hfl := F.1 f hmem
  have etk : ∀ g, (fol.take (j + 1)).count g = (fol.take j).count g + if g = f then 1 else 0 := fun g => by
    rw [take_snoc1 hf, List.count_append]
    by_cases e : g = f
    · subst e; rw [if_pos rfl, List.count_singleton_self]
    · rw [if_neg e, List.count_eq_zero.mpr fun z => e (List.mem_singleton.mp z)]
  have ebound : (fol.take j).count f + 1 ≤ leftN N ord f := by
    have h1 := etk f
    rw [if_pos rfl] at h1
    have h2 : (fol.take (j + 1)).count f ≤ fol.count f := (List.take_sublist _ _).count_le f
    have h3 := F.2 f hfl
    have h4 := left_snoc (N := N) (f := f) hk
    omega
  have hms := M.cnt f hfl
  have hml : f < ms.length := by rw [M.len]; exact hfl
  have hfo : f ∉ ord ++ [k] := fun z => by
    rcases List.mem_append.mp z with y | y
    · have := closed_left cl y; omega
    · rw [List.mem_singleton.mp y] at ebound; omega
  have hfr : (f : Int) ∉ rd := fun z => by
    obtain ⟨g, e, _, h2⟩ := M.ltr _ z
    obtain rfl : g = f := by omega
    omega
  refine ⟨hfl, fun hne => ⟨by rw [List.length_set]; exact M.len, M.ndr, M.apart, fun z hz => ?_, fun g hg => ?_, fun g hg h0 => ?_⟩, fun heq rd' hp => ⟨by rw [List.length_set]; exact M.len, hp.nodup_iff.mpr (List.nodup_cons.mpr ⟨hfr, M.ndr⟩), fun k' h1 h2 => ?_, fun z hz => ?_, fun g hg => ?_, fun g hg h0 => ?_⟩⟩
  · obtain ⟨g, e, h1, h2⟩ := M.ltr z hz
    refine ⟨g, e, h1, ?_⟩
    rw [etk, if_neg fun y => hfr (by rw [← y, ← e]; exact hz)]
    exact h2
  · rw [getD_setI hml, etk]
    by_cases e : g = f
    · subst e; rw [if_pos rfl, if_pos rfl, hms]; omega
    · rw [if_neg e, if_neg e, M.cnt g hg]; omega
  · rw [etk] at h0
    by_cases e : g = f
    · subst e
      rw [if_pos rfl] at h0
      omega
    · rw [if_neg e] at h0
      exact M.rdy g hg h0
  · rcases List.mem_cons.mp (hp.mem_iff.mp h2) with y | y
    · have : k' = f := by omega
      exact hfo (this ▸ h1)
    · exact M.apart k' h1 y
  · rcases List.mem_cons.mp (hp.mem_iff.mp hz) with y | y
    · refine ⟨f, y, hfl, ?_⟩
      rw [etk, if_pos rfl]
      omega
    · obtain ⟨g, e, h1, h2⟩ := M.ltr z y
      refine ⟨g, e, h1, ?_⟩
      rw [etk, if_neg fun y' => hfr (by rw [← y', ← e]; exact y)]
      exact h2
  · rw [getD_setI hml, etk]
    by_cases e : g = f
    · subst e; rw [if_pos rfl, if_pos rfl, hms]; omega
    · rw [if_neg e, if_neg e, M.cnt g hg]; omega
  · rw [etk] at h0
    by_cases e : g = f
    · exact .inr (hp.mem_iff.mpr (by rw [e]; exact List.mem_cons_self ..))
    · rw [if_neg e] at h0
      exact (M.rdy g hg h0).imp id fun y => hp.mem_iff.mpr (List.mem_cons_of_mem _ y)
theorem KMid.done {N : List (List Nat)} {ord : List Nat} {k : Nat} {fol : List Nat} {rd rd0 ms0 ms : List Int} (I : KInv N ord rd0 ms0) (hk : k ∉ ord) (hkl : k < N.length) (hk0 : leftN N ord k = 0) (F : FolOk N k fol) (M : KMid N ord k fol fol.length rd ms) : KInv N (ord ++ [k]) rd ms := by
  have e : ∀ f, f < N.length → (leftN N ord f : Nat) = leftN N (ord ++ [k]) f + (fol.take fol.length).count f := fun f hf => by
    rw [List.take_length, F.2 f hf]
    exact left_snoc hk
  refine ⟨M.len, List.nodup_append.mpr ⟨I.nd, (by simp : [k].Nodup), fun a ha b hb => fun z => hk (by rw [← List.mem_singleton.mp hb, ← z]; exact ha)⟩, M.ndr, M.apart, fun f hf => ?_, fun z hz => ?_, fun f hf => ?_, fun f hf h0 => ?_, fun i f hi o ho => ?_⟩
  · rcases List.mem_append.mp hf with z | z
    · exact I.lt f z
    · rw [List.mem_singleton.mp z]; exact hkl
  · obtain ⟨f, e1, h1, h2⟩ := M.ltr z hz
    have := e f h1
    exact ⟨f, e1, h1, by omega⟩
  · have := e f hf
    rw [M.cnt f hf]; omega
  · have := e f hf
    exact M.rdy f hf (by omega)
  · by_cases hi' : i < ord.length
    · rw [List.getElem?_append_left hi'] at hi
      have := I.closed i f hi o ho
      rw [List.take_append_of_le_length (Nat.le_of_lt hi')]
      exact this
    · have hil := (List.getElem?_eq_some_iff.mp hi).1
      rw [List.length_append] at hil
      have : i < ord.length + 1 := hil
      have ei : i = ord.length := by omega
      subst ei
      rw [List.getElem?_append_right (Nat.le_refl _), Nat.sub_self] at hi
      cases hi
      rw [List.take_append_of_le_length (Nat.le_refl _), List.take_length]
      exact left_zero.mp hk0 o ho
/-- an order of all, each behind what it needs -/
structure Topo (N : List (List Nat)) (ord : List Nat) : Prop where
  nd : ord.Nodup
  lt : ∀ k ∈ ord, k < N.length
  all : ∀ k, k < N.length → k ∈ ord
  closed : ∀ (i k : Nat), ord[i]? = some k → ∀ o ∈ N.getD k [], o ∈ ord.take i
theorem KInv.topo {N : List (List Nat)} {ord : List Nat} {ms : List Int} (I : KInv N ord [] ms) (rank : Nat → Nat) (hr : ∀ k o, k < N.length → o ∈ N.getD k [] → o < N.length ∧ rank o < rank k) : Topo N ord := by
  refine ⟨I.nd, I.lt, ?_, I.closed⟩
  have : ∀ r k, rank k = r → k < N.length → k ∈ ord := by
    intro r
    induction r using Nat.strongRecOn with
    | _ r ih =>
      intro k hk hkl
      have h0 : leftN N ord k = 0 := left_zero.mpr fun o ho => by
        obtain ⟨h1, h2⟩ := hr k o hkl ho
        exact ih (rank o) (by omega) o rfl h1
      rcases I.rdy k hkl h0 with z | z
      · exact z
      · cases z
  exact fun k hk => this _ k rfl hk
end G
namespace G
open PySem PySem.Spec PyProof.Rows L2 Evl TL
/-! ## xs[i] += v -/
theorem get_list {X : Cx} : PGet X (rIxL X.K) := by
  intro pins s σ H o i v u Q I ro ri h
  obtain ⟨p, xs, i, z, rfl, rfl, hq, he, q⟩ := h
  cases ro
  obtain ⟨t, rfl⟩ := ri
  obtain ⟨its, r, pl, hz⟩ := I.list hq
  obtain ⟨j, h1, h2, h3, h4, h5⟩ := atI_get he
  obtain ⟨w, ew, rw'⟩ := r.get h2
  have hl := r.length
  have hn := line63
  have fin : EP X pins σ Q w s := ⟨z, H, I, rw', q⟩
  by_cases h0 : 0 ≤ i
  · have hj : i.toNat = j := by
      rw [seqIndex_of h0 h5] at h1
      exact Option.some.inj h1
    exact wpAny_getItem_list pl.isList h0 (by omega) (by rw [hj]; simpa using ew) fin
  · have hj : (i + (its.toArray.size : Int)).toNat = j := by
      rw [seqIndex_neg (by omega) h4] at h1
      rw [List.size_toArray, ← hl]
      exact Option.some.inj h1
    exact wpAny_getItem_list_neg pl.isList (by omega) (by rw [List.size_toArray] <;> omega) (by omega) (by rw [hj]; simpa using ew) fin
def natsV (l : List Nat) : List V := l.map fun n : Nat => V.int (n : Int)
theorem nats_get {l : List Nat} {j : Nat} {y : V} (h : (natsV l)[j]? = some y) : ∃ k, l[j]? = some k ∧ y = .int (k : Int) := by
  unfold natsV at h
  rw [List.getElem?_map] at h
  cases e : l[j]? with
  | none => rw [e] at h; cases h
  | some k => rw [e] at h; cases h; exact ⟨k, rfl, rfl⟩
theorem nats_len (l : List Nat) : (natsV l).length = l.length := List.length_map _
theorem nats_snoc (l : List Nat) (k : Nat) : natsV (l ++ [k]) = natsV l ++ [.int (k : Int)] := by unfold natsV; rw [List.map_append]; rfl
theorem at_int {l : List Int} {k : Int} {j : Nat} (h : k = (j : Int)) (hj : j < l.length) : atI (l.map V.int) k = some (.int (l.getD j 0)) := by
  subst h
  refine atI_nat ?_
  rw [List.getElem?_map, List.getD_eq_getElem?_getD, List.getElem?_eq_getElem hj]; rfl
/-- lists of lists, each its own object, new since H0 -/
structure Fols (H0 H : Hp) (L : Addr) (fa : List Addr) (F : List (List Nat)) : Prop where
  top : H L = some (.lst (fa.map V.ref))
  newL : H0 L = none
  nd : fa.Nodup
  new : ∀ b ∈ fa, H0 b = none
  ne : L ∉ fa
  at_ : All2 (fun b l => H b = some (.lst (natsV l))) fa F
theorem Fols.keep {H0 H H' : Hp} {L : Addr} {fa : List Addr} {F : List (List Nat)} (h : Fols H0 H L fa F) (k : ∀ b o, (b = L ∨ b ∈ fa) → H b = some o → H' b = some o) : Fols H0 H' L fa F :=
  ⟨k _ _ (.inl rfl) h.top, h.newL, h.nd, h.new, h.ne, h.at_.1, fun i b l hb hl => k _ _ (.inr (List.mem_of_getElem? hb)) (h.at_.2 i b l hb hl)⟩
theorem Fols.ex {H0 H H' : Hp} {L : Addr} {fa : List Addr} {F : List (List Nat)} (h : Fols H0 H L fa F) (e : Ex H H') : Fols H0 H' L fa F := h.keep fun b o _ z => e b o z
theorem Fols.put {H0 H : Hp} {L b : Addr} {fa : List Addr} {F : List (List Nat)} {i : Nat} {l : List Nat} (h : Fols H0 H L fa F) (hb : fa[i]? = some b) : Fols H0 (upd H b (.lst (natsV l))) L fa (F.set i l) := by
  have hm := List.mem_of_getElem? hb
  refine ⟨by rw [upd_ne fun z => h.ne (by rw [z]; exact hm)]; exact h.top, h.newL, h.nd, h.new, h.ne, by rw [List.length_set]; exact h.at_.1, fun j c m hc hm' => ?_⟩
  by_cases e : j = i
  · subst e
    rw [hb] at hc
    cases hc
    have hj : j < F.length := by rw [← h.at_.1]; exact (List.getElem?_eq_some_iff.mp hb).1
    rw [List.getElem?_set_self hj] at hm'
    cases hm'
    exact upd_same
  · rw [List.getElem?_set_ne (Ne.symm e)] at hm'
    have hbc : c ≠ b := fun z => by
      subst z
      have h1 := List.getElem?_eq_some_iff.mp hb
      have h2 := List.getElem?_eq_some_iff.mp hc
      obtain ⟨a1, a2⟩ := h1
      obtain ⟨b1, b2⟩ := h2
      exact e ((List.getElem_inj h.nd).mp (b2.trans a2.symm))
    rw [upd_ne hbc]
    exact h.at_.2 j c m hc hm'
/-- how often f stands among the followers of o, i rows and j of the next told -/
structure CntOk (N F : List (List Nat)) (i j : Nat) : Prop where
  len : F.length = N.length
  cnt : ∀ o, o < N.length → ∀ f, (F.getD o []).count f = if f < i then (N.getD f []).count o else if f = i then ((N.getD i []).take j).count o else 0
  lt : ∀ o, ∀ f ∈ F.getD o [], f < N.length
  few : ∀ o, (F.getD o []).length ≤ 100 * i + j
theorem getD_setL {l : List (List Nat)} {p k : Nat} {v : List Nat} (hp : p < l.length) : (l.set p v).getD k [] = if k = p then v else l.getD k [] := by
  rw [List.getD_eq_getElem?_getD, List.getD_eq_getElem?_getD, List.getElem?_set]
  by_cases e : p = k
  · subst e
    rw [if_pos rfl, if_pos hp, if_pos rfl]; rfl
  · rw [if_neg e, if_neg (Ne.symm e)]
theorem CntOk.step {N F : List (List Nat)} {i j o : Nat} (C : CntOk N F i j) (hi : i < N.length) (ho : (N.getD i [])[j]? = some o) (hol : o < N.length) : CntOk N (F.set o (F.getD o [] ++ [i])) i (j + 1) := by
  have hp : o < F.length := by rw [C.len]; exact hol
  refine ⟨by rw [List.length_set]; exact C.len, fun o' ho' f => ?_, fun o' f hf => ?_, fun o' => ?_⟩
  · rw [getD_setL hp, take_snoc1 ho, List.count_append]
    by_cases e : o' = o
    · subst e
      rw [if_pos rfl, List.count_append, C.cnt o' ho', List.count_singleton_self]
      by_cases h1 : f < i
      · rw [if_pos h1, if_pos h1, List.count_eq_zero (l := [i]) |>.mpr fun z => by have := List.mem_singleton.mp z; omega]; rfl
      · rw [if_neg h1, if_neg h1]
        by_cases h2 : f = i
        · subst h2
          rw [if_pos rfl, if_pos rfl, List.count_singleton_self]
        · rw [if_neg h2, if_neg h2, List.count_eq_zero (l := [i]) |>.mpr fun z => h2 (List.mem_singleton.mp z)]
    · rw [if_neg e, C.cnt o' ho', List.count_eq_zero (l := [o]) |>.mpr fun z => e (List.mem_singleton.mp z)]
      rfl
  · rw [getD_setL hp] at hf
    by_cases e : o' = o
    · rw [if_pos e] at hf
      rcases List.mem_append.mp hf with z | z
      · exact C.lt o f z
      · rw [List.mem_singleton.mp z]; exact hi
    · rw [if_neg e] at hf
      exact C.lt o' f hf
  · rw [getD_setL hp]
    by_cases e : o' = o
    · rw [if_pos e, List.length_append]
      have := C.few o
      show _ + 1 ≤ _
      omega
    · rw [if_neg e]
      have := C.few o'
      omega
theorem CntOk.row {N F : List (List Nat)} {i : Nat} (C : CntOk N F i (N.getD i []).length) (hl : (N.getD i []).length ≤ 100) : CntOk N F (i + 1) 0 := by
  refine ⟨C.len, fun o ho f => ?_, C.lt, fun o => by have := C.few o; omega⟩
  rw [C.cnt o ho, List.take_length, List.take_zero]
  by_cases h1 : f < i
  · rw [if_pos h1, if_pos (by omega)]
  · by_cases h2 : f = i
    · subst h2
      rw [if_neg h1, if_pos rfl, if_pos (by omega)]
    · rw [if_neg h1, if_neg h2, if_neg (by omega)]
      by_cases h3 : f = i + 1
      · rw [if_pos h3]; rfl
      · rw [if_neg h3]
theorem CntOk.fol {N F : List (List Nat)} (C : CntOk N F N.length 0) {k : Nat} (hk : k < N.length) : FolOk N k (F.getD k []) :=
  ⟨C.lt k, fun f hf => by rw [C.cnt k hk, if_pos hf]⟩
theorem nodup_lenI {n : Nat} {l : List Int} (nd : l.Nodup) (h : ∀ z ∈ l, ∃ k : Nat, z = k ∧ k < n) : l.length ≤ n := by
  have e : l = (l.map Int.toNat).map fun k : Nat => (k : Int) := by
    rw [List.map_map]
    conv => lhs; rw [← List.map_id l]
    refine List.map_congr_left fun z hz => ?_
    obtain ⟨k, rfl, _⟩ := h z hz
    rfl
  have nd' : (l.map Int.toNat).Nodup := by
    rw [e] at nd
    exact (List.pairwise_map.mp nd).imp fun hne z => hne (by rw [z])
  have := nodup_len n _ nd' fun k hk => by
    obtain ⟨z, hz, rfl⟩ := List.mem_map.mp hk
    obtain ⟨k', e', hk'⟩ := h z hz
    show z.toNat < n
    omega
  rw [List.length_map] at this
  exact this
/-- each is the least of those that were ready -/
def Gr (N : List (List Nat)) (ord : List Nat) : Prop := ∀ i k, ord[i]? = some k → ∀ f, f < N.length → f ∉ ord.take i → (∀ o ∈ N.getD f [], o ∈ ord.take i) → k ≤ f
theorem Gr.nil (N : List (List Nat)) : Gr N [] := fun i k h => by cases h
theorem Gr.snoc {N : List (List Nat)} {ord : List Nat} {k : Nat} (g : Gr N ord) (h : ∀ f, f < N.length → f ∉ ord → leftN N ord f = 0 → k ≤ f) : Gr N (ord ++ [k]) := fun i k' hi f hf hfo hfn => by
  by_cases hl : i < ord.length
  · rw [List.getElem?_append_left hl] at hi
    rw [List.take_append_of_le_length (by omega)] at hfo hfn
    exact g i k' hi f hf hfo hfn
  · have hil := (List.getElem?_eq_some_iff.mp hi).1
    rw [List.length_append] at hil
    have : i < ord.length + 1 := hil
    have ei : i = ord.length := by omega
    subst ei
    rw [List.getElem?_append_right (Nat.le_refl _), Nat.sub_self] at hi
    cases hi
    rw [List.take_append_of_le_length (Nat.le_refl _), List.take_length] at hfo hfn
    exact h f hf hfo (left_zero.mpr hfn)
/-- the least order, as far as it goes -/
structure LOrd (N : List (List Nat)) (ord : List Nat) : Prop where
  nd : ord.Nodup
  lt : ∀ k ∈ ord, k < N.length
  closed : ∀ (i k : Nat), ord[i]? = some k → ∀ o ∈ N.getD k [], o ∈ ord.take i
  full : ∀ k, k < N.length → (∀ o ∈ N.getD k [], o ∈ ord) → k ∈ ord
  least : Gr N ord
theorem LOrd.of {N : List (List Nat)} {ord : List Nat} {ms : List Int} (I : KInv N ord [] ms) (g : Gr N ord) : LOrd N ord :=
  ⟨I.nd, I.lt, I.closed, (fun k hk h => (I.rdy k hk (left_zero.mpr h)).elim id fun z => nomatch z), g⟩
theorem nd_take {ord : List Nat} (nd : ord.Nodup) {i k : Nat} (h : ord[i]? = some k) : k ∉ ord.take i := fun z => by
  obtain ⟨j, hj, e⟩ := List.getElem_of_mem z
  rw [List.length_take] at hj
  rw [List.getElem_take] at e
  obtain ⟨h1, h2⟩ := List.getElem?_eq_some_iff.mp h
  have := (List.getElem_inj nd).mp (e.trans h2.symm)
  omega
theorem LOrd.take_eq {N : List (List Nat)} {a b : List Nat} (A : LOrd N a) (B : LOrd N b) : ∀ i, i ≤ a.length → i ≤ b.length → a.take i = b.take i
  | 0, _, _ => by rw [List.take_zero, List.take_zero]
  | i + 1, ha, hb => by
    have ih := A.take_eq B i (by omega) (by omega)
    have e1 : a[i]? = some a[i] := List.getElem?_eq_getElem (by omega)
    have e2 : b[i]? = some b[i] := List.getElem?_eq_getElem (by omega)
    have l1 := A.least i _ e1 b[i] (B.lt _ (List.mem_of_getElem? e2)) (by rw [ih]; exact nd_take B.nd e2) (by rw [ih]; exact B.closed i _ e2)
    have l2 := B.least i _ e2 a[i] (A.lt _ (List.mem_of_getElem? e1)) (by rw [← ih]; exact nd_take A.nd e1) (by rw [← ih]; exact A.closed i _ e1)
    rw [List.take_add_one, List.take_add_one, ih, e1, e2, Nat.le_antisymm l1 l2]
theorem LOrd.len_le {N : List (List Nat)} {a b : List Nat} (A : LOrd N a) (B : LOrd N b) : b.length ≤ a.length := by
  rcases Nat.lt_or_ge a.length b.length with h | h
  · exfalso
    have e := A.take_eq B a.length (Nat.le_refl _) (by omega)
    rw [List.take_length] at e
    obtain ⟨z, e2⟩ : ∃ z, b[a.length]? = some z := ⟨_, List.getElem?_eq_getElem h⟩
    have hn := nd_take B.nd e2
    have hc := B.closed _ _ e2
    rw [← e] at hn hc
    exact hn (A.full _ (B.lt _ (List.mem_of_getElem? e2)) hc)
  · exact h
theorem LOrd.one {N : List (List Nat)} {a b : List Nat} (A : LOrd N a) (B : LOrd N b) : a = b := by
  have h1 := A.len_le B
  have h2 := B.len_le A
  have := A.take_eq B a.length (Nat.le_refl _) h2
  rw [List.take_length, List.take_of_length_le h1] at this
  exact this
structure TxtHq (mg : Str → Option Value) : Prop where
  len : mg "len" = none
  enumerate : mg "enumerate" = none
  pop : mg "heappop" = some (.builtin "_heapq.heappop")
  push : mg "heappush" = some (.builtin "_heapq.heappush")
section
variable {P : Program} {w : World} {K : PySem.W.Frag} {mg : Str → Option Value} {base : Heap}
def spLeast : Sp := fun vs H Q _ => ∃ (nl : Addr) (na : List Addr) (N : List (List Nat)), vs = [.ref nl] ∧ H nl = some (.lst (na.map V.ref)) ∧ All2 (fun b l => H b = some (.lst (natsV l))) na N ∧ N.length ≤ 200 ∧ (∀ k, (N.getD k []).length ≤ 100) ∧
  (∀ k o, k < N.length → o ∈ N.getD k [] → o < N.length) ∧ ∀ (q : Addr) (H' : Hp) (ord : List Nat), Ex H H' → H q = none → H' q = some (.lst (natsV ord)) → LOrd N ord → Q (.ref q) H'
theorem sc_least_order : FnScope ["needed", "followers", "k", "others", "other", "missing", "ready", "order", "follower", "_", "many"] ["needed"] (defScope s_least_order) := ⟨rfl, rfl, rfl, by decide +kernel, rfl, by decide +kernel, by decide +kernel⟩
theorem ok_least_order (D : Dfd K mg "least_order" s_least_order ["needed"]) (T : TxtHq mg) : Has P w K mg base 1 "least_order" ["needed"] spLeast := by
  have y_heappop := T.pop
  have y_heappush := T.push
  refine D.has fun f fd F => F.ok sc_least_order (fun vs H Q E h => ?_) (fun cdv A outer s H vs Q E hr h => ?_)
  · obtain ⟨nl, na, N, rfl, _⟩ := h
    rfl
  · obtain ⟨nl, na, N, rfl, hnl, hN, hn, hw, hrk, q⟩ := h
    refine ⟨_, (pss_cons (ps_setLc (i := 1) (own := [("_", 9)]) (g := gName 9) (tt := tYes) rfl sc_least_order.nd rfl rfl (sw_true rfl rfl rfl (by decide +kernel)) (pi_list (pv 0)) (blkOk_by (N := ["needed", "followers", "k", "others", "other", "missing", "ready", "order", "follower", "_", "many"]) (sc := defScope s_least_order) (own := [("_", 9)]) (by decide +kernel)) (fun _ _ _ _ _ => (pg_name (i := 9) sc_least_order.nd rfl (.inl rfl))) (fun _ _ _ _ _ => pts_nil) (fun _ _ _ _ _ => (pe_lst pa_nil)))
    (pss_cons (ps_for PassesOwn.never rfl (pi_enum (by rfl) T.enumerate (pa_cons (pv 0) pa_nil)) (pg_tup rfl (pgs_cons (pg_name (i := 2) sc_least_order.nd rfl (.inl rfl)) (pgs_cons (pg_name (i := 3) sc_least_order.nd rfl (.inl rfl)) pgs_nil)))
      (pss_one (ps_for PassesOwn.never rfl (pi_list (pv 3)) (pg_name (i := 4) sc_least_order.nd rfl (.inl rfl))
        (pss_one (ps_expr (pe_bm PySem.F.plainAttrs_list PySem.F.slot_list_append PySem.F.type_list_append mt_append (pe_ix ix_list (pv 1) (pv 4) (fun _ _ => rfl)) (pa_cons (pv 2) pa_nil)))))))
    (pss_cons (ps_setLc (i := 5) (own := [("others", 3)]) (g := gName 3) (tt := tYes) rfl sc_least_order.nd rfl rfl (sw_true rfl rfl rfl (by decide +kernel)) (pi_list (pv 0)) (blkOk_by (N := ["needed", "followers", "k", "others", "other", "missing", "ready", "order", "follower", "_", "many"]) (sc := defScope s_least_order) (own := [("others", 3)]) (by decide +kernel)) (fun _ _ _ _ _ => (pg_name (i := 3) sc_least_order.nd rfl (.inl rfl))) (fun _ _ _ _ _ => pts_nil) (fun _ _ _ _ _ => (pe_callB (kLen (K := K) rfl) (by rfl) T.len (by decide +kernel) (pa_cons (pv 3) pa_nil))))
    (pss_cons (ps_setLc (i := 6) (own := [("k", 2), ("many", 10)]) (g := gTup K 2 (gCons (gName 2) (gCons (gName 10) gNil))) (tt := _) rfl sc_least_order.nd rfl rfl (sw_true rfl rfl rfl (by decide +kernel)) (pi_enum (by rfl) T.enumerate (pa_cons (pv 5) pa_nil)) (blkOk_by (N := ["needed", "followers", "k", "others", "other", "missing", "ready", "order", "follower", "_", "many"]) (sc := defScope s_least_order) (own := [("k", 2), ("many", 10)]) (by decide +kernel)) (fun _ _ _ _ _ => (pg_tup rfl (pgs_cons (pg_name (i := 2) sc_least_order.nd rfl (.inl rfl)) (pgs_cons (pg_name (i := 10) sc_least_order.nd rfl (.inl rfl)) pgs_nil)))) (fun _ _ _ _ _ => pts_one (pt_cmpR op_eq (pv 10) pe_int (nomark _))) (fun _ _ _ _ _ => (pv 2)))
    (pss_cons (ps_set (i := 7) sc_least_order.nd rfl (.inl rfl) (pe_lst pa_nil))
    (pss_cons (ps_while PassesOwn.never (pt_truth (pv 6) (by intro _; rfl))
      (pss_cons (ps_set (i := 2) sc_least_order.nd rfl (.inl rfl) (pe_callMB (HQ.cr_pop rfl) (by rfl) y_heappop (pa_cons (pv 6) pa_nil)))
      (pss_cons (ps_expr (pe_bm PySem.F.plainAttrs_list PySem.F.slot_list_append PySem.F.type_list_append mt_append (pv 7) (pa_cons (pv 2) pa_nil)))
      (pss_one (ps_for PassesOwn.never rfl (pi_list (pe_ix ix_list (pv 1) (pv 2) (fun _ _ => rfl))) (pg_name (i := 8) sc_least_order.nd rfl (.inl rfl))
        (pss_cons (ps_augS (pv 5) (pv 8) get_list pe_int ip_sub set_list)
        (pss_one (ps_if (pt_cmpR op_eq (pe_ix ix_list (pv 5) (pv 8) (fun _ _ => rfl)) pe_int (nomark _))
          (pss_one (ps_expr (pe_callMB (HQ.cr_push rfl) (by rfl) y_heappush (pa_cons (pv 6) (pa_cons (pv 8) pa_nil)))))
          pss_nil))))))))
    (pss_one (ps_ret (pv 7))))))))), ?_⟩
    have hnn : na.length = N.length := hN.1
    have hal : (na.map V.ref).length = N.length := by rw [List.length_map, hnn]
    -- followers
    refine ⟨_, rfl, nl, rfl, ⟨_, SqL.of hnl⟩, fun FL nFL => wk_list (K := K) (a := nl) (xs := na.map V.ref) (fun j H' => Ex H H' ∧ ∃ fa, Fols H H' FL fa (List.replicate j [])) ⟨Ex.new nFL, [], upd_same, nFL, List.nodup_nil, (fun _ z => nomatch z), (fun z => nomatch z), .nil⟩ (fun j H' _ z => SqL.of (z.1 _ _ hnl)) ?_ ?_⟩
    · rintro j y H1 hy ⟨E1, fa, hF⟩
      have hj : j < N.length := by rw [← hal]; exact (List.getElem?_eq_some_iff.mp hy).1
      refine ⟨rfl, tYes_in ?_⟩
      simp only [wipe, _root_.L2.start, List.map_cons, List.map_nil, List.length_cons, List.length_nil, Nat.reduceAdd, Nat.reduceSub, List.replicate_succ, List.replicate_zero, List.cons_append, List.nil_append, List.set_cons_zero, List.set_cons_succ]
      refine ⟨Nat.zero_le _, fun b nb => ?_⟩
      have nbL : FL ≠ b := ne_of_none hF.top nb
      have hfl : fa.length = j := by rw [hF.at_.1, List.length_replicate]
      have hF1 := hF.ex (Ex.new (o := .lst []) nb)
      have hbf : b ∉ fa := fun z => by
        obtain ⟨i, hi, e⟩ := List.getElem_of_mem z
        obtain ⟨l, _, hb⟩ := hF.at_.at_ (List.getElem?_eq_some_iff.mpr ⟨hi, e⟩)
        rw [nb] at hb; cases hb
      refine ⟨_, hF1.top, sz_lt (by rw [List.length_map]; omega), (E1.trans (Ex.new nb)).mut nFL, fa ++ [b], by rw [upd_same, List.map_append]; rfl, nFL, List.nodup_append.mpr ⟨hF.nd, by simp, fun c hc d hd => fun z => hbf (by rw [← List.mem_singleton.mp hd, ← z]; exact hc)⟩, fun c hc => ?_, fun z => ?_, ?_⟩
      · rcases List.mem_append.mp hc with z | z
        · exact hF.new c z
        · rw [List.mem_singleton.mp z]; exact fresh_back E1 nb
      · rcases List.mem_append.mp z with y | y
        · exact hF.ne y
        · exact nbL (List.mem_singleton.mp y)
      · show All2 _ (fa ++ [b]) (List.replicate (j + 1) [])
        rw [List.replicate_succ']
        have hA : All2 (fun c l => upd (upd H1 b (.lst [])) FL (.lst (fa.map V.ref ++ [.ref b])) c = some (.lst (natsV l))) fa (List.replicate j []) := ⟨hF1.at_.1, fun i c l h1 h2 => by
          show upd (upd H1 b (.lst [])) FL (.lst (fa.map V.ref ++ [.ref b])) c = some (.lst (natsV l))
          rw [upd_ne fun y => hF.ne (by rw [← y]; exact List.mem_of_getElem? h1)]
          exact hF1.at_.2 i c l h1 h2⟩
        exact hA.snoc (by rw [upd_ne (Ne.symm nbL)]; exact upd_same)
    rintro H1 ⟨E1, fa, hF⟩
    rw [hal] at hF
    have hfn : fa.length = N.length := by rw [hF.at_.1, List.length_replicate]
    have C0 : CntOk N (List.replicate N.length []) 0 0 := by
      have g : ∀ o : Nat, (List.replicate N.length ([] : List Nat)).getD o [] = [] := fun o => by
        rw [List.getD_eq_getElem?_getD, List.getElem?_replicate]
        by_cases z : o < N.length
        · rw [if_pos z]; rfl
        · rw [if_neg z]; rfl
      refine ⟨List.length_replicate, fun o _ f => ?_, fun o f hf => ?_, fun o => ?_⟩
      · rw [g, if_neg (Nat.not_lt_zero f), List.take_zero, List.count_nil, List.count_nil]
        by_cases z : f = 0
        · rw [if_pos z]
        · rw [if_neg z]
      · rw [g] at hf; cases hf
      · rw [g]; exact Nat.zero_le _
    have hno : ∀ k b, na[k]? = some b → H b = some (.lst (natsV (N.getD k []))) := fun k b hb => by
      obtain ⟨l, hl, h1⟩ := hN.at_ hb
      rw [List.getD_eq_getElem?_getD, hl]; exact h1
    -- who waits for whom
    refine ⟨_, rfl, nl, _, rfl, SqL.of (E1 _ _ hnl), for_it walk_enum
      (fun i σ H' => Ex H H' ∧ ∃ (F : List (List Nat)) (z2 z3 z4 : Option V), Fols H H' FL fa F ∧ CntOk N F i 0 ∧ σ = [some (.ref nl), some (.ref FL), z2, z3, z4, none, none, none, none, none, none])
      ⟨E1, _, _, _, _, hF, C0, rfl⟩ (fun i σ H' _ g => SqL.of (g.1 _ _ hnl)) ?_ ?_⟩
    · rintro i y σ H2 H3 hi ⟨E2, F, z2, z3, z4, hF2, C2, rfl⟩ ⟨T1, x0, y0, rfl, nT, rfl, hx0, hy0⟩
      rw [hal] at hi
      cases hx0
      obtain ⟨b, hb, rfl⟩ := refs_get hy0
      have E3 : Ex H2 (upd H2 T1 (.tup [.int (i : Nat), .ref b])) := Ex.new nT
      refine ⟨T1, _, rfl, SqT.of upd_same, rfl, _, _, rfl, _, _, rfl, rfl, ?_⟩
      have hF3 := hF2.ex E3
      generalize upd H2 T1 (.tup [.int (i : Nat), .ref b]) = H3 at *
      have E03 := E2.trans E3
      have hb0 := hno i b hb
      simp only [wipe, _root_.L2.start, List.map_cons, List.map_nil, List.length_cons, List.length_nil, Nat.reduceAdd, Nat.reduceSub, List.replicate_succ, List.replicate_zero, List.cons_append, List.nil_append, List.set_cons_zero, List.set_cons_succ]
      refine ⟨_, rfl, b, rfl, ⟨_, SqL.of (E03 _ _ hb0)⟩, for_list (K := K) (a := b) (xs := natsV (N.getD i []))
        (fun j σ H' => Ex H H' ∧ ∃ (F : List (List Nat)) (z4 : Option V), Fols H H' FL fa F ∧ CntOk N F i j ∧ σ = [some (.ref nl), some (.ref FL), some (.int (i : Nat)), some (.ref b), z4, none, none, none, none, none, none])
        ⟨E03, F, z4, hF3, C2, rfl⟩ (fun j σ H' _ g => SqL.of (g.1 _ _ hb0)) ?_ ?_⟩
      · rintro j y σ H4 hy ⟨E4, F, z4, hF4, C4, rfl⟩
        obtain ⟨o, ho, rfl⟩ := nats_get hy
        have hol := hrk i o hi (List.mem_of_getElem? ho)
        have hof : o < fa.length := by omega
        have hfb : fa[o]? = some fa[o] := List.getElem?_eq_getElem hof
        obtain ⟨l, hl, hlb⟩ := hF4.at_.at_ hfb
        have hlF : F.getD o [] = l := by rw [List.getD_eq_getElem?_getD, hl]; rfl
        have hll : l.length ≤ 100 * i + j := by rw [← hlF]; exact C4.few o
        have hj : j < 100 := by
          have := (List.getElem?_eq_some_iff.mp ho).1
          have := hw i
          omega
        refine ⟨_, rfl, _, rfl, FL, _, _, .ref fa[o], rfl, rfl, SqL.of hF4.top, at_of (j := o) rfl (by rw [List.getElem?_map, hfb]; rfl), .inl ⟨rfl, _, SqL.of hlb⟩, _, rfl, fa[o], _, .int (i : Nat), rfl, rfl, hlb, sz_lt (by rw [nats_len]; omega), E4.mut (hF4.new _ (List.mem_of_getElem? hfb)), _, _, ?_, C4.step hi ho hol, rfl⟩
        rw [← nats_snoc, hlF]
        exact hF4.put hfb
      · rintro σ H4 ⟨E4, F, z4, hF4, C4, rfl⟩
        rw [nats_len] at C4
        exact ⟨E4, F, _, _, _, hF4, C4.row (hw i), rfl⟩
    rintro σ H2 ⟨E2, F, z2, z3, z4, hF2, C2, rfl⟩
    rw [hal] at C2
    -- how many are missing
    refine ⟨_, rfl, nl, rfl, ⟨_, SqL.of (E2 _ _ hnl)⟩, fun ML nML => wk_list (K := K) (a := nl) (xs := na.map V.ref) (fun j H' => Ex H2 H' ∧ H' ML = some (.lst (((N.take j).map fun l => (l.length : Int)).map V.int))) ⟨Ex.new nML, upd_same⟩ (fun j H' _ z => SqL.of ((E2.trans z.1) _ _ hnl)) ?_ ?_⟩
    · rintro j y H3 hy ⟨E3, hM⟩
      obtain ⟨b, hb, rfl⟩ := refs_get hy
      obtain ⟨l, hl, hlb⟩ := hN.at_ hb
      have hj : j < N.length := (List.getElem?_eq_some_iff.mp hl).1
      refine ⟨rfl, tYes_in ?_⟩
      simp only [wipe, _root_.L2.start, List.map_cons, List.map_nil, List.length_cons, List.length_nil, Nat.reduceAdd, Nat.reduceSub, List.replicate_succ, List.replicate_zero, List.cons_append, List.nil_append, List.set_cons_zero, List.set_cons_succ]
      refine ⟨_, rfl, b, _, rfl, .inl (SqL.of ((E2.trans E3) _ _ hlb)), _, hM, sz_lt (by rw [List.length_map, List.length_map, List.length_take]; omega), E3.mut nML, ?_⟩
      rw [upd_same, take_snoc1 hl, List.map_append, List.map_append, nats_len]; rfl
    rintro H3 ⟨E3, hM⟩
    rw [hal, List.take_length] at hM
    have F2' : ∀ b, (b = FL ∨ b ∈ fa) → ∃ o, H2 b = some o := fun b hb => by
      rcases hb with z | z
      · exact ⟨_, by rw [z]; exact hF2.top⟩
      · obtain ⟨i, hi, e⟩ := List.getElem_of_mem z
        obtain ⟨l, _, h1⟩ := hF2.at_.at_ (List.getElem?_eq_some_iff.mpr ⟨hi, e⟩)
        exact ⟨_, h1⟩
    have E03 := E2.trans E3
    have hF3 := hF2.ex E3
    -- what is ready
    have hMl : ((N.map fun l => (l.length : Int)).map V.int).length = N.length := by rw [List.length_map, List.length_map]
    refine ⟨_, rfl, ML, _, rfl, SqL.of hM, fun RL nRL => wk_it walk_enum (fun j H' => Ex H3 H' ∧ H' RL = some (.lst (natsV ((List.range j).filter fun k => decide (leftN N [] k = 0))))) ⟨Ex.new nRL, upd_same⟩ (fun j H' _ g => SqL.of (g.1 _ _ hM)) ?_ ?_⟩
    · rintro j x H4 H5 hj ⟨E4, hRL⟩ ⟨T1, x0, y0, rfl, nT, rfl, hx0, hy0⟩
      rw [hMl] at hj
      cases hx0
      have nRT : RL ≠ T1 := ne_of_none hRL nT
      have E5 : Ex H4 (upd H4 T1 (.tup [.int (j : Nat), y0])) := Ex.new nT
      obtain ⟨l, hl⟩ : ∃ l, N[j]? = some l := ⟨N[j], List.getElem?_eq_getElem hj⟩
      obtain rfl : y0 = .int (l.length : Int) := by
        have hy1 : ((N.map fun l => (l.length : Int)).map V.int)[j]? = some y0 := hy0
        rw [List.getElem?_map, List.getElem?_map, hl] at hy1
        cases hy1; rfl
      have hleft : leftN N [] j = l.length := by
        unfold leftN
        rw [List.getD_eq_getElem?_getD, hl]
        show (l.filter _).length = _
        rw [List.filter_eq_self.mpr fun x _ => decide_eq_true (by intro z; cases z)]
      refine ⟨T1, _, rfl, SqT.of upd_same, rfl, _, _, rfl, _, _, rfl, rfl, rfl, ?_⟩
      simp only [wipe, _root_.L2.start, List.map_cons, List.map_nil, List.length_cons, List.length_nil, Nat.reduceAdd, Nat.reduceSub, List.replicate_succ, List.replicate_zero, List.cons_append, List.nil_append, List.set_cons_zero, List.set_cons_succ]
      have hRL5 : upd H4 T1 (.tup [.int (j : Nat), .int (l.length : Int)]) RL = some (.lst (natsV ((List.range j).filter fun k => decide (leftN N [] k = 0)))) := E5 _ _ hRL
      generalize upd H4 T1 (.tup [.int (j : Nat), .int (l.length : Int)]) = H5 at *
      have E35 := E4.trans E5
      have hfl : ((List.range j).filter fun k => decide (leftN N [] k = 0)).length ≤ 200 := by
        have := List.length_filter_le (fun k => decide (leftN N [] k = 0)) (List.range j)
        rw [List.length_range] at this
        omega
      refine ⟨_, rfl, rfl, _, rfl, ite2 (fun c1 => ?_) (fun c1 => ?_)⟩
      · have h0 : leftN N [] j = 0 := by
          have := of_decide_eq_true c1
          have : (l.length : Int) = 0 := by injection this
          omega
        refine ⟨_, rfl, _, hRL5, sz_lt (by rw [nats_len]; omega), E35.mut nRL, ?_⟩
        rw [upd_same, List.range_succ, List.filter_append, ← nats_snoc]
        show _ = some (HO.lst (natsV (_ ++ List.filter _ [j])))
        rw [List.filter_cons, decide_eq_true h0, if_pos rfl]; rfl
      · have h0 : ¬ leftN N [] j = 0 := fun z => c1 (decide_eq_true (by rw [show l.length = 0 by omega]; rfl))
        refine ⟨E35, ?_⟩
        rw [hRL5, List.range_succ, List.filter_append]
        show _ = some (HO.lst (natsV (_ ++ List.filter _ [j])))
        rw [List.filter_cons, decide_eq_false h0, if_neg Bool.false_ne_true]
        show _ = some (HO.lst (natsV (_ ++ [])))
        rw [List.append_nil]
    rintro H4 ⟨E4, hRL⟩
    rw [hMl] at hRL
    refine ⟨Nat.zero_le _, fun OL nOL => ?_⟩
    have I0 : KInv N [] ((List.range N.length).filter (fun k => decide (leftN N [] k = 0)) |>.map fun k : Nat => (k : Int)) (N.map fun l => (l.length : Int)) := by
      have hl : ∀ k, leftN N [] k = (N.getD k []).length := fun k => by
        unfold leftN
        rw [List.filter_eq_self.mpr fun x _ => decide_eq_true (by intro z; cases z)]
      refine ⟨List.length_map _, List.nodup_nil, ?_, (fun _ z => nomatch z), (fun _ z => nomatch z), fun z hz => ?_, fun k hk => ?_, fun k hk h0 => ?_, (fun _ _ z => nomatch z)⟩
      · exact List.Pairwise.map _ (fun a b h z => h (by omega)) (List.nodup_range.filter _)
      · obtain ⟨k, hk, rfl⟩ := List.mem_map.mp hz
        obtain ⟨h1, h2⟩ := List.mem_filter.mp hk
        exact ⟨k, rfl, List.mem_range.mp h1, of_decide_eq_true h2⟩
      · rw [hl, List.getD_eq_getElem?_getD, List.getElem?_map, List.getD_eq_getElem?_getD, List.getElem?_eq_getElem hk]; rfl
      · exact .inr (List.mem_map.mpr ⟨k, List.mem_filter.mpr ⟨List.mem_range.mpr hk, decide_eq_true h0⟩, rfl⟩)
    have eRd : natsV ((List.range N.length).filter fun k => decide (leftN N [] k = 0)) = ((List.range N.length).filter (fun k => decide (leftN N [] k = 0)) |>.map fun k : Nat => (k : Int)).map V.int := by unfold natsV; rw [List.map_map]; rfl
    have Hh0 : HQ.HeapOk ((List.range N.length).filter (fun k => decide (leftN N [] k = 0)) |>.map fun k : Nat => (k : Int)) := HQ.heap_asc (List.Pairwise.map _ (fun a b h => by omega) (List.pairwise_lt_range.filter _))
    rw [eRd] at hRL
    generalize ((List.range N.length).filter (fun k => decide (leftN N [] k = 0)) |>.map fun k : Nat => (k : Int)) = rd0 at *
    generalize (N.map fun l => (l.length : Int)) = ms0 at *
    have E5 : Ex H4 (upd H4 OL (.lst [])) := Ex.new nOL
    have hO : upd H4 OL (.lst []) OL = some (.lst (natsV [])) := upd_same
    have nRO : RL ≠ OL := ne_of_none hRL nOL
    have nMR : ML ≠ RL := ne_of_none hM nRL
    have nMO : ML ≠ OL := ne_of_none (E4 _ _ hM) nOL
    have nfM : ∀ b, (b = FL ∨ b ∈ fa) → b ≠ ML := fun b hb => by
      obtain ⟨o, h⟩ := F2' b hb
      exact ne_of_none h nML
    have nfR : ∀ b, (b = FL ∨ b ∈ fa) → b ≠ RL := fun b hb => by
      obtain ⟨o, h⟩ := F2' b hb
      exact ne_of_none (E3 _ _ h) nRL
    have nfO : ∀ b, (b = FL ∨ b ∈ fa) → b ≠ OL := fun b hb => by
      obtain ⟨o, h⟩ := F2' b hb
      exact ne_of_none ((E3.trans E4) _ _ h) nOL
    have nM0 : H ML = none := fresh_back E2 nML
    have nR0 : H RL = none := fresh_back E03 nRL
    have nO0 : H OL = none := fresh_back (E03.trans E4) nOL
    refine ⟨fun μ σ H' => Ex H H' ∧ ∃ (ord : List Nat) (rd ms : List Int) (y2 y8 : Option V), Fols H H' FL fa F ∧ (KInv N ord rd ms ∧ HQ.HeapOk rd ∧ Gr N ord) ∧ H' RL = some (.lst (rd.map V.int)) ∧ H' ML = some (.lst (ms.map V.int)) ∧ H' OL = some (.lst (natsV ord)) ∧ μ + ord.length = N.length ∧ σ = [some (.ref nl), some (.ref FL), y2, z3, z4, some (.ref ML), some (.ref RL), some (.ref OL), y8, none, none],
      ⟨N.length, E03.trans (E4.trans E5), [], rd0, ms0, _, _, hF3.ex (E4.trans E5), ⟨I0, Hh0, Gr.nil N⟩, E5 _ _ hRL, (E4.trans E5) _ _ hM, hO, rfl, rfl⟩, ?_⟩
    rintro μ σ H6 ⟨E6, ord, rd, ms, y2, y8, hF6, ⟨I6, hh6, gr6⟩, hR6, hM6, hO6, hμ, rfl⟩
    refine ⟨_, rfl, !(rd.map V.int).isEmpty, .inl ⟨_, SqL.of hR6, rfl⟩, ite2 (fun c1 => ?_) (fun c1 => ?_)⟩
    · have hrd : 0 < rd.length := by
        cases rd with
        | nil => cases c1
        | cons x l => exact Nat.succ_pos _
      have hperm := HQ.pop_perm hrd
      obtain ⟨k, ek, hkl, _⟩ := I6.ltr (rd.getD 0 0) (hperm.mem_iff.mp (List.mem_cons_self ..))
      have hlst : ∀ f, f < N.length → f ∉ ord → leftN N ord f = 0 → k ≤ f := fun f hf hfo hfn => by
        rcases I6.rdy f hf hfn with z | z
        · exact absurd z hfo
        · have := HQ.heap_least hh6 _ z
          omega
      rw [ek] at hperm
      obtain ⟨M0, _, hk, hk0⟩ := I6.pop (fol := F.getD k []) hperm
      have hlen1 : ord.length + 1 ≤ N.length := by
        have := nodup_len N.length (ord ++ [k]) (List.nodup_append.mpr ⟨I6.nd, by simp, fun a ha b hb => fun z => hk (by rw [← List.mem_singleton.mp hb, ← z]; exact ha)⟩) fun f hf => by
          rcases List.mem_append.mp hf with z | z
          · exact I6.lt f z
          · rw [List.mem_singleton.mp z]; exact hkl
        rw [List.length_append] at this
        exact this
      refine ⟨fun σ' H' => Ex H H' ∧ ∃ (ord' : List Nat) (rd ms : List Int) (y2 y8 : Option V), Fols H H' FL fa F ∧ (KInv N ord' rd ms ∧ HQ.HeapOk rd ∧ Gr N ord') ∧ H' RL = some (.lst (rd.map V.int)) ∧ H' ML = some (.lst (ms.map V.int)) ∧ H' OL = some (.lst (natsV ord')) ∧ ord'.length = ord.length + 1 ∧ σ' = [some (.ref nl), some (.ref FL), y2, z3, z4, some (.ref ML), some (.ref RL), some (.ref OL), y8, none, none], ?_, ?_⟩
      · rintro σ' H' ⟨b1, ord', rd', ms', y2', y8', b2, b3, b4, b5, b6, b7, rfl⟩
        exact ⟨μ - 1, by omega, b1, ord', rd', ms', y2', y8', b2, b3, b4, b5, b6, by omega, rfl⟩
      have E7 := E6.mut (o := .lst ((HQ.popI rd).map V.int)) nR0
      refine ⟨_, rfl, RL, rd, rfl, hR6, hrd, ?_⟩
      rw [ek]
      have hF7 : Fols H (upd H6 RL (.lst ((HQ.popI rd).map V.int))) FL fa F := hF6.keep fun b o hb z => by rw [upd_ne (nfR b hb)]; exact z
      have hM7 : upd H6 RL (.lst ((HQ.popI rd).map V.int)) ML = some (.lst (ms.map V.int)) := by rw [upd_ne nMR]; exact hM6
      have hO7 : upd H6 RL (.lst ((HQ.popI rd).map V.int)) OL = some (.lst (natsV ord)) := by rw [upd_ne (Ne.symm nRO)]; exact hO6
      have hR7 : upd H6 RL (.lst ((HQ.popI rd).map V.int)) RL = some (.lst ((HQ.popI rd).map V.int)) := upd_same
      generalize upd H6 RL (.lst ((HQ.popI rd).map V.int)) = H7 at *
      refine ⟨_, rfl, .inl ⟨rfl, _, SqL.of hO7⟩, _, rfl, OL, _, .int (k : Nat), rfl, rfl, hO7, sz_lt (by rw [nats_len]; omega), ?_⟩
      rw [← nats_snoc]
      have E8 := E7.mut (o := .lst (natsV (ord ++ [k]))) nO0
      have hF8 : Fols H (upd H7 OL (.lst (natsV (ord ++ [k])))) FL fa F := hF7.keep fun b o hb z => by rw [upd_ne (nfO b hb)]; exact z
      have hM8 : upd H7 OL (.lst (natsV (ord ++ [k]))) ML = some (.lst (ms.map V.int)) := by rw [upd_ne nMO]; exact hM7
      have hR8 : upd H7 OL (.lst (natsV (ord ++ [k]))) RL = some (.lst ((HQ.popI rd).map V.int)) := by rw [upd_ne nRO]; exact hR7
      have hO8 : upd H7 OL (.lst (natsV (ord ++ [k]))) OL = some (.lst (natsV (ord ++ [k]))) := upd_same
      generalize upd H7 OL (.lst (natsV (ord ++ [k]))) = H8 at *
      have FO := C2.fol hkl
      have hfk : k < fa.length := by omega
      have hfb : fa[k]? = some fa[k] := List.getElem?_eq_getElem hfk
      have hat : ∀ H', Fols H H' FL fa F → H' fa[k] = some (.lst (natsV (F.getD k []))) := fun H' h => by
        obtain ⟨l, hl, h1⟩ := h.at_.at_ hfb
        rw [List.getD_eq_getElem?_getD, hl]; exact h1
      refine ⟨_, rfl, _, rfl, FL, _, _, .ref fa[k], rfl, rfl, SqL.of hF8.top, at_of (j := k) rfl (by rw [List.getElem?_map, hfb]; rfl), fa[k], rfl, ⟨_, SqL.of (hat _ hF8)⟩, for_list (K := K) (a := fa[k]) (xs := natsV (F.getD k []))
        (fun j σ H' => Ex H H' ∧ ∃ (rd' ms' : List Int) (y8 : Option V), Fols H H' FL fa F ∧ (KMid N ord k (F.getD k []) j rd' ms' ∧ HQ.HeapOk rd') ∧ H' RL = some (.lst (rd'.map V.int)) ∧ H' ML = some (.lst (ms'.map V.int)) ∧ H' OL = some (.lst (natsV (ord ++ [k]))) ∧ σ = [some (.ref nl), some (.ref FL), some (.int (k : Int)), z3, z4, some (.ref ML), some (.ref RL), some (.ref OL), y8, none, none])
        ⟨E8, HQ.popI rd, ms, y8, hF8, ⟨M0, HQ.pop_ok hh6⟩, hR8, hM8, hO8, rfl⟩ (fun j σ H' _ g => by obtain ⟨_, _, _, _, h1, _⟩ := g; exact SqL.of (hat _ h1)) ?_ ?_⟩
      · rintro j y σ H9 hy ⟨E9, rd', ms', y8, hF9, ⟨M9, hh9⟩, hR9, hM9, hO9, rfl⟩
        obtain ⟨f, hf, rfl⟩ := nats_get hy
        obtain ⟨hfl, s1, s2⟩ := M9.step I6.closed hk hk0 FO hf
        have hfm : f < ms'.length := by rw [M9.len]; exact hfl
        refine ⟨_, rfl, _, rfl, ML, _, _, _, rfl, rfl, SqL.of hM9, at_int (j := f) rfl hfm, _, _, rfl, rfl, ML, _, _, f, rfl, rfl, hM9, ixN_nat (by rw [List.length_map]; exact hfm), ?_⟩
        rw [← List.map_set]
        have E10 := E9.mut (o := .lst ((ms'.set f (ms'.getD f 0 - 1)).map V.int)) nM0
        have hF10 : Fols H (upd H9 ML (.lst ((ms'.set f (ms'.getD f 0 - 1)).map V.int))) FL fa F := hF9.keep fun b o hb z => by rw [upd_ne (nfM b hb)]; exact z
        have hR10 : upd H9 ML (.lst ((ms'.set f (ms'.getD f 0 - 1)).map V.int)) RL = some (.lst (rd'.map V.int)) := by rw [upd_ne (Ne.symm nMR)]; exact hR9
        have hO10 : upd H9 ML (.lst ((ms'.set f (ms'.getD f 0 - 1)).map V.int)) OL = some (.lst (natsV (ord ++ [k]))) := by rw [upd_ne (Ne.symm nMO)]; exact hO9
        have hM10 : upd H9 ML (.lst ((ms'.set f (ms'.getD f 0 - 1)).map V.int)) ML = some (.lst ((ms'.set f (ms'.getD f 0 - 1)).map V.int)) := upd_same
        generalize upd H9 ML (.lst ((ms'.set f (ms'.getD f 0 - 1)).map V.int)) = H10 at *
        refine ⟨_, rfl, _, rfl, ML, _, _, _, rfl, rfl, SqL.of hM10, at_int (j := f) rfl (by rw [List.length_set]; exact hfm), rfl, _, rfl, ?_⟩
        rw [getD_setI hfm, if_pos rfl]
        have hrl : rd'.length ≤ 200 := by
          have := nodup_lenI M9.ndr fun z hz => by
            obtain ⟨g, a1, a2, _⟩ := M9.ltr z hz
            exact ⟨g, a1, a2⟩
          omega
        refine ite2 (fun c2 => ?_) (fun c2 => ?_)
        · have h0 : ms'.getD f 0 - 1 = 0 := by
            have := of_decide_eq_true c2
            injection this
          refine ⟨_, rfl, _, rfl, RL, rd', (f : Int), rfl, hR10, sz_lt (by omega), ?_⟩
          exact ⟨E10.mut nR0, HQ.pushI rd' (f : Int), _, _, hF10.keep fun b o hb z => by rw [upd_ne (nfR b hb)]; exact z, ⟨s2 h0 _ (HQ.push_perm rd' f), HQ.push_ok _ hh9⟩, upd_same, by rw [upd_ne nMR]; exact hM10, by rw [upd_ne (Ne.symm nRO)]; exact hO10, rfl⟩
        · have h0 : ms'.getD f 0 - 1 ≠ 0 := fun z => c2 (decide_eq_true (by rw [z]))
          exact ⟨E10, rd', _, _, hF10, ⟨s1 h0, hh9⟩, hR10, hM10, hO10, rfl⟩
      · rintro σ H9 ⟨E9, rd', ms', y8, hF9, ⟨M9, hh9⟩, hR9, hM9, hO9, rfl⟩
        rw [nats_len] at M9
        exact ⟨E9, ord ++ [k], rd', ms', _, _, hF9, ⟨M9.done I6 hk hkl hk0 FO, hh9, gr6.snoc fun f hf hfo hfn => hlst f hf hfo hfn⟩, hR9, hM9, hO9, by rw [List.length_append]; rfl, rfl⟩
    · have : rd = [] := by
        cases rd with
        | nil => rfl
        | cons x l => exact absurd rfl c1
      subst this
      exact ⟨_, rfl, q OL H6 ord E6 nO0 hO6 (LOrd.of I6 gr6)⟩
end
end G
namespace G
open PySem PySem.Spec PyProof.Rows L2
/-! ## what a circuit means: the mathematics -/
def sumB (bs : List Bool) : Nat → Nat
  | 0 => 0
  | j + 1 => sumB bs j + if bs.getD j false then 2 ^ j else 0
theorem sumB_lt (bs : List Bool) : ∀ j, sumB bs j < 2 ^ j
  | 0 => Nat.one_pos
  | j + 1 => by
    have h := sumB_lt bs j
    show sumB bs j + _ < 2 ^ (j + 1)
    rw [Nat.pow_succ]
    by_cases e : bs.getD j false = true
    · rw [if_pos e]; omega
    · rw [if_neg e]; omega
def lookB (tab bs : List Bool) : Bool := tab.getD (sumB bs bs.length) false
theorem nm_ok16 : ∀ c ∈ (["i", "r", "g", "p"] : List Str), ∀ k, k < 16 → PyData.strOk (nm c k) = true := by decide +kernel
theorem nm_inj : ∀ c ∈ (["i", "r", "g", "p"] : List Str), ∀ c' ∈ (["i", "r", "g", "p"] : List Str), ∀ k, k < 16 → ∀ k', k' < 16 → nm c k = nm c' k' → c = c' ∧ k = k' := by decide +kernel
def srcs (d : CircD) : List Str := d.ins ++ d.regs.map (·.name)
def gnames (d : CircD) : List Str := d.gates.map (·.name)
/-- val says what each net holds, the sources given -/
structure Val (d : CircD) (vec : List Bool) (val : Str → Bool) : Prop where
  src : ∀ (i : Nat) (x : Str), (srcs d)[i]? = some x → vec[i]? = some (val x)
  gate : ∀ g ∈ d.gates, val g.name = lookB g.tab (g.pins.map val)
/-- names apart, each gate reads nets that there are, none reads itself by others -/
structure Nets (d : CircD) : Prop where
  nd : (srcs d ++ gnames d).Nodup
  pins : ∀ g ∈ d.gates, ∀ x ∈ g.pins, x ∈ srcs d ++ gnames d
  few : d.gates.length ≤ 16
  fewp : ∀ g ∈ d.gates, g.pins.length ≤ 3
  tab : ∀ g ∈ d.gates, g.tab.length = 2 ^ g.pins.length
  fews : (srcs d).length ≤ 16
  rank : ∃ rank : Str → Nat, ∀ g ∈ d.gates, ∀ x ∈ g.pins, x ∈ gnames d → rank x < rank g.name
  regs : ∀ r ∈ d.regs, r.net ∈ srcs d ++ gnames d
  tx : ∀ x ∈ srcs d ++ gnames d, PyData.strOk x = true
def needN (d : CircD) : List (List Nat) := d.gates.map fun g => (g.pins.filter fun x => decide (x ∈ gnames d)).map fun x => (gnames d).idxOf x
def evG : (Str → Bool) → List GateD → Str → Bool
  | f, [] => f
  | f, g :: gs => evG (fun y => if y = g.name then lookB g.tab (g.pins.map f) else f y) gs
theorem evG_out : ∀ (gs : List GateD) (f : Str → Bool) (x : Str), x ∉ gs.map (·.name) → evG f gs x = f x
  | [], _, _, _ => rfl
  | g :: gs, f, x, h => by
    rw [List.map_cons, List.mem_cons] at h
    show evG _ gs x = _
    rw [evG_out gs _ x fun z => h (.inr z)]
    show (if x = g.name then _ else _) = _
    rw [if_neg fun z => h (.inl z)]
theorem evG_gate : ∀ (gs : List GateD) (f : Str → Bool), (gs.map (·.name)).Nodup → (∀ (k : Nat) (g : GateD), gs[k]? = some g → ∀ x ∈ g.pins, ∀ (j : Nat) (g' : GateD), gs[j]? = some g' → x = g'.name → j < k) → ∀ g ∈ gs, evG f gs g.name = lookB g.tab (g.pins.map (evG f gs))
  | [], _, _, _, g, h => nomatch h
  | g :: gs, f, nd, hp, g', h => by
    rw [List.map_cons, List.nodup_cons] at nd
    have hev : ∀ x ∈ g.pins, evG f (g :: gs) x = f x := fun x hx => by
      refine evG_out (g :: gs) f x fun z => ?_
      obtain ⟨g2, h2, e2⟩ := List.mem_map.mp z
      obtain ⟨j, hj, e⟩ := List.getElem_of_mem h2
      exact absurd (hp 0 g rfl x hx j g2 (List.getElem?_eq_some_iff.mpr ⟨hj, e⟩) e2.symm) (Nat.not_lt_zero _)
    rcases List.mem_cons.mp h with e | h
    · subst e
      rw [List.map_congr_left hev]
      show evG _ gs g'.name = _
      rw [evG_out gs _ _ nd.1]
      show (if g'.name = g'.name then _ else _) = _
      rw [if_pos rfl]
    · exact evG_gate gs _ nd.2 (fun k g1 hk x hx j g2 hj e => by
        have := hp (k + 1) g1 hk x hx (j + 1) g2 hj e
        omega) g' h
theorem nets_of {most : Nat} {d : CircD} {G : List GateD} (W : CircWf most d G) (hm : most ≤ 15) : Nets d ∧ ∀ vec : List Bool, vec.length = (srcs d).length → ∃ val, Val d vec val := by
  obtain ⟨ni, hi1, hi3, ei⟩ := W.ins
  obtain ⟨nr, hr3, er⟩ := W.regs
  have hG := W.few
  have hname : ∀ (k : Nat) (g : GateD), G[k]? = some g → g.name = nm "g" k := fun k g hk => (W.gates k g hk).name
  have eG : G.map (·.name) = (List.range G.length).map (nm "g") := by
    refine List.ext_getElem? fun k => ?_
    rw [List.getElem?_map, List.getElem?_map]
    by_cases h : k < G.length
    · rw [List.getElem?_eq_getElem h, List.getElem?_range h]
      show some (G[k]).name = some _
      rw [hname k _ (List.getElem?_eq_getElem h)]
    · rw [List.getElem?_eq_none (by omega), List.getElem?_eq_none (by rw [List.length_range]; omega)]; rfl
  have es : srcs d = (List.range ni).map (nm "i") ++ (List.range nr).map (nm "r") := by unfold srcs; rw [ei, er]
  have pg : (gnames d).Perm (G.map (·.name)) := W.perm.map _
  have mg : ∀ x, x ∈ gnames d ↔ ∃ k, k < G.length ∧ x = nm "g" k := fun x => by
    rw [pg.mem_iff, eG, List.mem_map]
    exact ⟨fun ⟨k, h1, h2⟩ => ⟨k, List.mem_range.mp h1, h2.symm⟩, fun ⟨k, h1, h2⟩ => ⟨k, List.mem_range.mpr h1, h2.symm⟩⟩
  have ndm : ∀ (c : Str), c ∈ (["i", "r", "g", "p"] : List Str) → ∀ n, n ≤ 16 → ((List.range n).map (nm c)).Nodup := fun c hc n hn => by
    refine List.pairwise_map.mpr (List.Pairwise.imp_of_mem (fun {a b} ha hb hne z => hne ?_) (List.nodup_range (n := n)))
    exact (nm_inj c hc c hc a (by have := List.mem_range.mp ha; omega) b (by have := List.mem_range.mp hb; omega) z).2
  have ndG : (G.map (·.name)).Nodup := by rw [eG]; exact ndm "g" (by decide +kernel) _ (by omega)
  have nds : (srcs d).Nodup := by
    rw [es]
    refine List.nodup_append.mpr ⟨ndm "i" (by decide +kernel) _ (by omega), ndm "r" (by decide +kernel) _ (by omega), fun a ha b hb z => ?_⟩
    obtain ⟨j, hj, rfl⟩ := List.mem_map.mp ha
    obtain ⟨k, hk, rfl⟩ := List.mem_map.mp hb
    have := (nm_inj "i" (by decide +kernel) "r" (by decide +kernel) j (by have := List.mem_range.mp hj; omega) k (by have := List.mem_range.mp hk; omega) z).1
    exact absurd this (by decide +kernel)
  have nsg : ∀ x ∈ srcs d, ∀ k, k < G.length → x ≠ nm "g" k := fun x hx k hk z => by
    rw [es] at hx
    rcases List.mem_append.mp hx with y | y
    · obtain ⟨j, hj, e⟩ := List.mem_map.mp y
      exact absurd (nm_inj "i" (by decide +kernel) "g" (by decide +kernel) j (by have := List.mem_range.mp hj; omega) k (by omega) (e.trans z)).1 (by decide +kernel)
    · obtain ⟨j, hj, e⟩ := List.mem_map.mp y
      exact absurd (nm_inj "r" (by decide +kernel) "g" (by decide +kernel) j (by have := List.mem_range.mp hj; omega) k (by omega) (e.trans z)).1 (by decide +kernel)
  have hpin : ∀ (k : Nat) (g : GateD), G[k]? = some g → ∀ x ∈ g.pins, ∀ j, j < G.length → x = nm "g" j → j < k := fun k g hk x hx j hj e => by
    have hkl := (List.getElem?_eq_some_iff.mp hk).1
    rcases List.mem_append.mp ((W.gates k g hk).pins x hx) with z | z
    · exact absurd e (nsg x z j hj)
    · obtain ⟨i, hi, e2⟩ := List.mem_map.mp z
      have hik := List.mem_range.mp hi
      have := (nm_inj "g" (by decide +kernel) "g" (by decide +kernel) i (by omega) j (by omega) (e2.trans e)).2
      omega
  have hmem : ∀ g ∈ d.gates, ∃ k, G[k]? = some g ∧ k < G.length := fun g hg => by
    obtain ⟨k, hk, e⟩ := List.getElem_of_mem (W.perm.mem_iff.mp hg)
    exact ⟨k, List.getElem?_eq_some_iff.mpr ⟨hk, e⟩, hk⟩
  have hsub : ∀ k, k ≤ G.length → ∀ x ∈ d.ins ++ d.regs.map (·.name) ++ (List.range k).map (nm "g"), x ∈ srcs d ++ gnames d := fun k hk x hx => by
    rcases List.mem_append.mp hx with z | z
    · exact List.mem_append_left _ z
    · obtain ⟨j, hj, e⟩ := List.mem_map.mp z
      exact List.mem_append_right _ ((mg x).mpr ⟨j, by have := List.mem_range.mp hj; omega, e.symm⟩)
  refine ⟨⟨List.nodup_append.mpr ⟨nds, pg.nodup_iff.mpr ndG, fun a ha b hb z => ?_⟩, fun g hg x hx => ?_, ?_, fun g hg => ?_, fun g hg => ?_, ?_, ⟨fun x => (G.map (·.name)).idxOf x, fun g hg x hx hxg => ?_⟩, fun r hr => hsub G.length (Nat.le_refl _) _ (W.rwf r hr).2, fun x hx => ?_⟩, fun vec hv => ?_⟩
  · obtain ⟨k, hk, e⟩ := (mg b).mp hb
    exact nsg a ha k hk (z.trans e)
  · obtain ⟨k, hk, hkl⟩ := hmem g hg
    exact hsub k (Nat.le_of_lt hkl) x ((W.gates k g hk).pins x hx)
  · rw [W.perm.length_eq]; omega
  · obtain ⟨k, hk, hkl⟩ := hmem g hg
    exact (W.gates k g hk).few
  · obtain ⟨k, hk, hkl⟩ := hmem g hg
    exact (W.gates k g hk).tab
  · rw [es, List.length_append, List.length_map, List.length_map, List.length_range, List.length_range]; omega
  · obtain ⟨k, hk, hkl⟩ := hmem g hg
    obtain ⟨j, hj, e⟩ := (mg x).mp hxg
    have hlt := hpin k g hk x hx j hj e
    have at_ : ∀ i, i < G.length → (G.map (·.name)).idxOf (nm "g" i) = i := fun i hi => by
      have e1 : (G.map (·.name))[i]'(by rw [List.length_map]; exact hi) = nm "g" i := by
        rw [List.getElem_map]; exact hname i _ (List.getElem?_eq_getElem hi)
      rw [← e1]
      exact ndG.idxOf_getElem i _
    show (G.map (·.name)).idxOf x < (G.map (·.name)).idxOf g.name
    rw [e, hname k g hk, at_ j hj, at_ k hkl]
    exact hlt
  · rcases List.mem_append.mp hx with z | z
    · rw [es] at z
      rcases List.mem_append.mp z with y | y
      · obtain ⟨j, hj, rfl⟩ := List.mem_map.mp y
        exact nm_ok16 "i" (by decide +kernel) j (by have := List.mem_range.mp hj; omega)
      · obtain ⟨j, hj, rfl⟩ := List.mem_map.mp y
        exact nm_ok16 "r" (by decide +kernel) j (by have := List.mem_range.mp hj; omega)
    · obtain ⟨k, hk, rfl⟩ := (mg x).mp z
      exact nm_ok16 "g" (by decide +kernel) k (by omega)
  · refine ⟨evG (fun x => vec.getD ((srcs d).idxOf x) false) G, fun i x hx => ?_, fun g hg => ?_⟩
    · have hil := (List.getElem?_eq_some_iff.mp hx).1
      rw [evG_out G _ x fun z => ?_]
      · have : (srcs d).idxOf x = i := by
          obtain ⟨h1, h2⟩ := List.getElem?_eq_some_iff.mp hx
          rw [← h2]; exact nds.idxOf_getElem i h1
        rw [this, List.getD_eq_getElem?_getD, List.getElem?_eq_getElem (by omega)]; rfl
      · rw [eG] at z
        obtain ⟨k, hk, e⟩ := List.mem_map.mp z
        exact nsg x (List.mem_of_getElem? hx) k (List.mem_range.mp hk) e.symm
    · refine evG_gate G _ ndG (fun k g1 hk x hx j g2 hj e => ?_) g (W.perm.mem_iff.mp hg)
      exact hpin k g1 hk x hx j (List.getElem?_eq_some_iff.mp hj).1 (e.trans (hname j g2 hj))
theorem need_rank {d : CircD} (h : Nets d) : ∃ rank : Nat → Nat, ∀ k o, k < (needN d).length → o ∈ (needN d).getD k [] → o < (needN d).length ∧ rank o < rank k := by
  obtain ⟨rank, hr⟩ := h.rank
  refine ⟨fun k => rank ((gnames d).getD k (nm "g" 0)), fun k o hk ho => ?_⟩
  unfold needN at *
  rw [List.length_map] at hk ⊢
  obtain ⟨g, hg⟩ : ∃ g, d.gates[k]? = some g := ⟨_, List.getElem?_eq_getElem hk⟩
  rw [List.getD_eq_getElem?_getD, List.getElem?_map, hg] at ho
  obtain ⟨x, hx, rfl⟩ := List.mem_map.mp ho
  obtain ⟨hx1, hx2⟩ := List.mem_filter.mp hx
  have hxg : x ∈ gnames d := of_decide_eq_true hx2
  have hol : (gnames d).idxOf x < (gnames d).length := List.idxOf_lt_length_iff.mpr hxg
  have hgl : (gnames d).length = d.gates.length := List.length_map _
  refine ⟨by rw [← hgl]; exact hol, ?_⟩
  have e1 : (gnames d).getD ((gnames d).idxOf x) (nm "g" 0) = x := by
    rw [List.getD_eq_getElem?_getD, List.getElem?_eq_getElem hol]; exact List.getElem_idxOf hol
  have e2 : (gnames d).getD k (nm "g" 0) = g.name := by
    unfold gnames
    rw [List.getD_eq_getElem?_getD, List.getElem?_map, hg]; rfl
  show rank ((gnames d).getD ((gnames d).idxOf x) (nm "g" 0)) < rank ((gnames d).getD k (nm "g" 0))
  rw [e1, e2]
  exact hr g (List.mem_of_getElem? hg) x hx1 hxg
end G
/-! zip of two rows, each a list or a tuple -/
namespace G
open PySem PySem.Spec PyProof.Rows L2 Evl
def SqB (t : Bool) (K : PySem.W.Frag) (H : Hp) (a : Addr) (xs : List V) : Prop := if t = true then SqT K H a xs else SqL K H a xs
def ItB (t : Bool) (h : Heap) (it l : Addr) (i : Nat) : Prop := if t = true then h.IsTupleIter it l i else h.IsListIter it l i
theorem ItB.obj {t : Bool} {h : Heap} {it l : Addr} {i : Nat} (x : ItB t h it l i) : ∃ o, h.get? it = some o ∧ ∃ q, o.data = .fields q := by
  unfold ItB at x
  split at x
  · obtain ⟨o, ho, _, hd⟩ := x; exact ⟨o, ho, _, hd⟩
  · obtain ⟨o, ho, _, hd⟩ := x; exact ⟨o, ho, _, hd⟩
theorem ItB.to {t : Bool} {h h' : Heap} {it l : Addr} {i : Nat} (x : ItB t h it l i) (k : ∀ o, h.get? it = some o → h'.get? it = some o) : ItB t h' it l i := by
  unfold ItB at x ⊢
  split
  · rw [if_pos (by assumption)] at x; exact x.at k
  · rw [if_neg (by assumption)] at x; exact x.at k
theorem SqB.one {X : Cx} {pins : List (Addr × Obj)} {σ : L2.St} {H : Hp} {s : Shared} (I : Inv X pins σ H s) {t : Bool} {a : Addr} {xs ys : List V} (h : SqB t X.K H a xs) (h' : SqB t X.K H a ys) : xs = ys := by
  unfold SqB at h h'
  cases t with
  | true => exact I.tuple_inj h h'
  | false => exact I.list_inj h h'
theorem drawsB {X : Cx} {pins : List (Addr × Obj)} {σ : L2.St} {H : Hp} {s : Shared} (I : Inv X pins σ H s) (hh : X.A.handled = none) {t : Bool} {a it : Addr} {xs : List V} {i : Nat} (hq : SqB t X.K H a xs) (st : ItB t s.heap it a i) (hne : a ≠ it) :
    ∃ (items : List Value) (St : Nat → Heap → Prop), Vals xs items ∧ Draws X.prog X.w X.A.in1 it [it, a] items.toArray.size (fun i v => items.toArray[i]? = some v) St ∧ St i s.heap ∧ ∀ h', St (i + 1) h' → ItB t h' it a (i + 1) := by
  unfold SqB at hq
  unfold ItB at st ⊢
  cases t with
  | true =>
    obtain ⟨items, rv, p, _⟩ := I.tuple hq
    exact ⟨items, _, rv, Draws.tuple (A := X.A.in1) hh it a hne items.toArray, ⟨st, p⟩, fun h' z => z.1⟩
  | false =>
    obtain ⟨items, rv, p, _⟩ := I.list hq
    exact ⟨items, _, rv, Draws.list (A := X.A.in1) hh it a hne items.toArray, ⟨st, p.isList⟩, fun h' z => z.1⟩
/-- both rows as they stand at each turn, a new pair each -/
def ItM (t1 t2 : Bool) (K : PySem.W.Frag) (a b : Addr) : It :=
  ⟨fun i H => ∃ (xs ys : List V), SqB t1 K H a xs ∧ SqB t2 K H b ys ∧ i < xs.length ∧ i < ys.length,
   fun i H v H' => ∃ T x y, v = .ref T ∧ H T = none ∧ H' = upd H T (.tup [x, y]) ∧ (∀ xs, SqB t1 K H a xs → xs[i]? = some x) ∧ ∀ ys, SqB t2 K H b ys → ys[i]? = some y,
   fun i H => ∃ xs ys : List V, SqB t1 K H a xs ∧ SqB t2 K H b ys ∧ i ≤ xs.length ∧ i ≤ ys.length ∧ (i = xs.length ∨ i = ys.length)⟩
theorem turn_zipM {P : Program} {w : World} {K : PySem.W.Frag} {elts : List Expr} {kk : Nat} {tpos : Pos} {t1 t2 : Bool} {a b z TI TO i1 i2 : Addr} (S : ZipSep2 z TI TO i1 i2 [i1, a] [i2, b]) (na : a ≠ i1) (nb : b ≠ i2) :
    Turn P w K (.Tuple elts kk tpos) (ItM t1 t2 K a b) [z, TI, TO, i1, i2] z (fun i h => IsZip h z TI TO .none ∧ IsTupOf2 h TI (.ref i1) (.ref i2) ∧ (∃ x y, IsTupOf2 h TO x y) ∧ ItB t1 h i1 a i ∧ ItB t2 h i2 b i) where
  mem := by simp
  obj := fun i h st c hc => by
    obtain ⟨hz, hTI, ⟨x, y, hTO⟩, h1, h2⟩ := st
    obtain ⟨o1, e1, q1, d1⟩ := h1.obj
    obtain ⟨o2, e2, q2, d2⟩ := h2.obj
    have e' : c = z ∨ c = TI ∨ c = TO ∨ c = i1 ∨ c = i2 := by simpa using hc
    rcases e' with q | q | q | q | q <;> subst q
    · exact ⟨_, hz, fun v q => nomatch q⟩
    · exact ⟨_, hTI, fun v q => nomatch q⟩
    · exact ⟨_, hTO, fun v q => nomatch q⟩
    · exact ⟨o1, e1, fun v q => by rw [d1] at q; cases q⟩
    · exact ⟨o2, e2, fun v q => by rw [d2] at q; cases q⟩
  keep := fun i h h' st k => by
    obtain ⟨hz, hTI, ⟨x, y, hTO⟩, h1, h2⟩ := st
    exact ⟨k _ (by simp) _ hz, k _ (by simp) _ hTI, ⟨x, y, k _ (by simp) _ hTO⟩, h1.to (k i1 (by simp)), h2.to (k i2 (by simp))⟩
  item := by
    intro X hP hw hK hc i pins s σ H E I hf st hg
    subst hP hw hK
    obtain ⟨hz, hTI, ⟨x0, y0, hTO⟩, h1, h2⟩ := st
    obtain ⟨xs, ys, hqx, hqy, hx, hy⟩ := hg
    have hh : X.A.handled = none := I.ok.hd hc
    obtain ⟨its, St1, rv, D1, s1, n1⟩ := drawsB I hh hqx h1 na
    obtain ⟨its2, St2, rv2, D2, s2, n2⟩ := drawsB I hh hqy h2 nb
    have hxe : xs[i]? = some xs[i] := List.getElem?_eq_getElem hx
    have hye : ys[i]? = some ys[i] := List.getElem?_eq_getElem hy
    obtain ⟨u, hu, ru⟩ := rv.get hxe
    obtain ⟨u2, hu2, ru2⟩ := rv2.get hye
    have hzl : z < s.heap.objs.size := Heap.lt_size hz
    refine wpAny_pyNext_zipD2_item S D1 D2 hz hTI hTO s1 s2 (by have := rv.length; simp; omega) (by have := rv2.length; simp; omega) fun v1 v2 h' tk e1 e2 z' TO' t1' t2' hT hsz hk => ?_
    have ev1 : v1 = u := Option.some.inj (e1.symm.trans (by simpa using hu))
    have ev2 : v2 = u2 := Option.some.inj (e2.symm.trans (by simpa using hu2))
    subst ev1 ev2
    refine ⟨_, rfl, wpAny_letOwnedTupleGo_zip (s := { s with heap := h', toks := tk }) z' fun h'' z'' sb => ?_⟩
    have hT2 : h''.get? s.heap.objs.size = some { cls := .type "tuple", data := .seq #[v1, v2] } := (sb.2 _ (Nat.ne_of_gt hzl)).trans hT
    have made : ObjOk X.prog X.w (upd H s.heap.objs.size (.tup [xs[i], ys[i]])) h'' s.heap.objs.size (.tup [xs[i], ys[i]]) := ⟨(by show 2 ≤ sizeLine; decide), [v1, v2], .cons ru (.cons ru2 .nil), _, hT2, rfl, _, rfl⟩
    have old : ∀ c, c ∈ [z, TI, TO, i1, i2] → c < s.heap.objs.size := fun c hcm => by
      have e' : c = z ∨ c = TI ∨ c = TO ∨ c = i1 ∨ c = i2 := by simpa using hcm
      rcases e' with q | q | q | q | q <;> rw [q]
      · exact hzl
      · exact Heap.lt_size hTI
      · exact Heap.lt_size hTO
      · obtain ⟨_, e, _⟩ := h1.obj; exact Heap.lt_size e
      · obtain ⟨_, e, _⟩ := h2.obj; exact Heap.lt_size e
    have I1 : Inv X pins σ (upd H s.heap.objs.size (.tup [xs[i], ys[i]])) { s with heap := h'', toks := tk } :=
      I.turnedNew (ch := [z, TI, TO, i1, i2]) (fun c o nb q => by
        have out : c ≠ z ∧ c ≠ TI ∧ c ≠ TO ∧ c ≠ i1 ∧ c ≠ i2 := by simpa using nb
        exact (sb.2 c out.1).trans (hk c o out.1 out.2.2.1 out.2.2.2.1 out.2.2.2.2 q)) hf (Nat.le_refl _) made
    refine ⟨.ref s.heap.objs.size, _, I1, rfl, ⟨_, xs[i], ys[i], rfl, I.hok.fresh (Nat.le_refl _), rfl, fun l hl => (congrArg (·[i]?) (hqx.one I hl)).symm.trans hxe, fun l hl => (congrArg (·[i]?) (hqy.one I hl)).symm.trans hye⟩,
      ⟨z'', (sb.2 _ S.TIz).trans (hk _ _ S.TIz S.TITO S.TIi1 S.TIi2 hTI), ⟨v1, v2, (sb.2 _ S.TOz).trans TO'⟩, (n1 _ t1').to fun o q => (sb.2 _ S.zi1.symm).trans q, (n2 _ t2').to fun o q => (sb.2 _ S.zi2.symm).trans q⟩, fun c hcm => ?_⟩
    rw [upd_ne (Nat.ne_of_lt (old c hcm))]
    exact (hf c hcm).1
  done := by
    intro X hP hw hK hc i pins s σ H E I hf st hg
    subst hP hw hK
    obtain ⟨hz, hTI, ⟨x0, y0, hTO⟩, h1, h2⟩ := st
    obtain ⟨xs, ys, hqx, hqy, hlx, hly, hend⟩ := hg
    have hh : X.A.handled = none := I.ok.hd hc
    obtain ⟨its, St1, rv, D1, s1, n1⟩ := drawsB I hh hqx h1 na
    obtain ⟨its2, St2, rv2, D2, s2, n2⟩ := drawsB I hh hqy h2 nb
    have l1 := rv.length
    have l2 := rv2.length
    refine wpAny_pyNext_zipD2_end S D1 D2 hz hTI hTO s1 s2 (by simp; omega) (by simp; omega) (by simp; omega) fun h' tk hk => ⟨rfl, I.turnedL (t' := tk) (ch := [z, TI, TO, i1, i2]) (fun c o nb q => ?_) hf⟩
    have out : c ≠ z ∧ c ≠ TI ∧ c ≠ TO ∧ c ≠ i1 ∧ c ≠ i2 := by simpa using nb
    exact hk c o out.1 out.2.2.1 out.2.2.2.1 out.2.2.2.2 q
  self := fun A i s Q E st h => wpAny_pyIter_zip st.1 h
def iZipM (K : PySem.W.Frag) (t1 t2 : Bool) (ta : TA) : TI := fun σ H R => ta σ H fun vs H1 => ∃ a b xs ys, vs = [.ref a, .ref b] ∧ SqB t1 K H1 a xs ∧ SqB t2 K H1 b ys ∧ R (ItM t1 t2 K a b) H1
theorem nin2 {x y z : Nat} (h1 : x ≠ y) (h2 : x ≠ z) : x ∉ [y, z] := by simp [h1, h2]
theorem nin2' {x y z : Nat} (h1 : x ≠ y) (h2 : x ≠ z) : ¬ (x : Addr) ∈ ([y, z] : List Addr) := nin2 h1 h2
theorem sepZ {n a b : Nat} (ha : a < n) (hb : b < n) : ZipSep2 (n + 4) (n + 2) (n + 3) n (n + 1) [n, a] [n + 1, b] :=
  have e1 : n + 2 ≠ n + 4 := by omega
  have e2 : n + 3 ≠ n + 4 := by omega
  have e3 : n + 2 ≠ n + 3 := by omega
  have e4 : n + 2 ≠ n := by omega
  have e5 : n + 2 ≠ n + 1 := by omega
  have f1 : n + 4 ≠ n := by omega
  have f2 : n + 4 ≠ a := by omega
  have f3 : n + 3 ≠ n := by omega
  have f4 : n + 3 ≠ a := by omega
  have f5 : n + 4 ≠ n + 1 := by omega
  have f6 : n + 4 ≠ b := by omega
  have f7 : n + 3 ≠ n + 1 := by omega
  have f8 : n + 3 ≠ b := by omega
  have f9 : n ≠ n + 1 := by omega
  have g1 : n ≠ b := by omega
  have g2 : n + 1 ≠ n := by omega
  have g3 : n + 1 ≠ a := by omega
  ⟨e1, e2, e3, e4, List.mem_cons_self .., nin2' f1 f2, nin2' f3 f4, e5, List.mem_cons_self .., nin2' f5 f6, nin2' f7 f8, nin2' f9 g1, nin2' g2 g3⟩
theorem pi_zipM {X : Cx} (t1 t2 : Bool) {e e2 : Expr} {ta : TA} {p pos tpos : Pos} {elts : List Expr} {kk : Nat} (hg : Gl X "zip") (hm : X.mg "zip" = none) (ha : PA X [e, e2] ta)
    (hs : starEach [e, e2] X.env = (false, eval e X.env) :: starEach [e2] X.env := by rfl) (hpl : (backTo pos (starEach [e2] X.env)).any (·.1) = false := by rfl) :
    PI X (.Tuple elts kk tpos) (.Call (.Name "zip" p) [e, e2] [] pos) (iZipM X.K t1 t2 ta) := by
  refine ⟨fun pins s σ H R I h => Call_ (ld_blt I hg hm PyProof.Rows.boot_zip (PyProof.Rows.callWith_type1 (thn (ha.run pos pins s σ H _ I h) fun us s1 ⟨vs, H1, I1, r1, q1⟩ => ?_) hs hpl))⟩
  obtain ⟨a, b, xs, ys, rfl, hqx, hqy, q⟩ := q1
  obtain _ | ⟨r, _ | ⟨r', _ | _⟩⟩ := r1
  cases r
  cases r'
  have beg : ∀ (t : Bool) (c : Addr) (zs : List V), SqB t X.K H1 c zs → ∃ (o : Obj) (Hh : Heap → Prop), Begins (.ref c) o Hh ∧ Hh s1.heap ∧ c < s1.heap.objs.size ∧ ∀ (h' : Heap) (it : Addr), h'.get? it = some o → ItB t h' it c 0 := fun t c zs hq => by
    unfold SqB at hq
    unfold ItB
    cases t with
    | true =>
      obtain ⟨items, _, p, _⟩ := I1.tuple hq
      obtain ⟨o, ho, _⟩ := id p
      exact ⟨_, _, begins_tuple c items.toArray, p, Heap.lt_size ho, fun h' it e => ⟨_, e, rfl, rfl⟩⟩
    | false =>
      obtain ⟨items, _, p, _⟩ := I1.list hq
      exact ⟨_, _, begins_list c items.toArray, p.isList, p.lt, fun h' it e => ⟨_, e, rfl, rfl⟩⟩
  obtain ⟨o1, P1, B1, p1, la, k1⟩ := beg t1 a xs hqx
  obtain ⟨o2, P2, B2, p2, lb, k2⟩ := beg t2 b ys hqy
  refine zip_begins2 B1 B2 p1 p2 fun h' hz hTI hTO g1 g2 hsz hk => wpAny_pyIter_zip hz ?_
  have I2 : Inv X pins σ H1 { s1 with heap := h' } := I1.kept (t' := s1.toks) hk
  refine ⟨s1.heap.objs.size + 4, [s1.heap.objs.size + 4, s1.heap.objs.size + 2, s1.heap.objs.size + 3, s1.heap.objs.size, s1.heap.objs.size + 1], _, _, H1, rfl, I2, turn_zipM (t1 := t1) (t2 := t2) (sepZ la lb) (Nat.ne_of_lt la) (Nat.ne_of_lt (Nat.lt_succ_of_lt lb)), ⟨hz, hTI, ⟨_, _, hTO⟩, k1 _ _ g1, k2 _ _ g2⟩, fun c hcm => ?_, q⟩
  have hle : s1.heap.objs.size ≤ c := by
    have e' : c = s1.heap.objs.size + 4 ∨ c = s1.heap.objs.size + 2 ∨ c = s1.heap.objs.size + 3 ∨ c = s1.heap.objs.size ∨ c = s1.heap.objs.size + 1 := by simpa using hcm
    rcases e' with z | z | z | z | z <;> rw [z]
    · exact Nat.le_add_right _ _
    · exact Nat.le_add_right _ _
    · exact Nat.le_add_right _ _
    · exact Nat.le_refl _
    · exact Nat.le_add_right _ _
  exact I1.fpOk hle (I1.hok.fresh hle)
theorem kPiZipM {X : Cx} {K : PySem.W.Frag} (t1 t2 : Bool) {e e2 : Expr} {ta : TA} {p pos tpos : Pos} {elts : List Expr} {kk : Nat} (h : X.K = K) (hg : Gl X "zip") (hm : X.mg "zip" = none) (ha : PA X [e, e2] ta)
    (hs : starEach [e, e2] X.env = (false, eval e X.env) :: starEach [e2] X.env := by rfl) (hpl : (backTo pos (starEach [e2] X.env)).any (·.1) = false := by rfl) :
    PI X (.Tuple elts kk tpos) (.Call (.Name "zip" p) [e, e2] [] pos) (iZipM K t1 t2 ta) := by subst h; exact pi_zipM t1 t2 hg hm ha hs hpl
theorem walk_zipM {t1 t2 : Bool} {K : PySem.W.Frag} {a b : Addr} {xs ys : List V} {n : Nat} (hx : xs.length = n) (hy : ys.length = n) : Walk (ItM t1 t2 K a b) n (fun H => SqB t1 K H a xs ∧ SqB t2 K H b ys) (YPair (fun i => xs[i]?) (fun i => ys[i]?)) := by
  refine ⟨fun i H hi q => ⟨xs, ys, q.1, q.2, by omega, by omega⟩, fun H q => ⟨xs, ys, q.1, q.2, by omega, by omega, .inl hx.symm⟩, fun i H v H' hi q y => ?_⟩
  obtain ⟨T, x, y, h1, h2, h3, h4, h5⟩ := y
  exact ⟨T, x, y, h1, h2, h3, h4 xs q.1, h5 ys q.2⟩
theorem wipe_in {σ : L2.St} {j : Nat} : ∀ {vs : List Nat}, j ∈ vs → j < σ.length → (wipe σ vs)[j]? = some none
  | v :: vs, h, hl => by
    show ((wipe σ vs).set v none)[j]? = some none
    by_cases e : v = j
    · subst e
      rw [List.getElem?_set_self (by rw [wipe_length]; exact hl)]
    · rw [List.getElem?_set_ne e]
      exact wipe_in ((List.mem_cons.mp h).resolve_left fun z => e z.symm) hl
/-- what stands in a slot that is wiped does not matter -/
theorem wipe_set {σ : L2.St} {i : Nat} {x : Option V} {vs : List Nat} (h : i ∈ vs) : wipe (σ.set i x) vs = wipe σ vs := by
  refine List.ext_getElem? fun j => ?_
  by_cases hl : j < σ.length
  · by_cases hj : j ∈ vs
    · rw [wipe_in hj (by rw [List.length_set]; exact hl), wipe_in hj hl]
    · rw [wipe_out hj, wipe_out hj, List.getElem?_set_ne (fun z => hj (by rw [← z]; exact h))]
  · rw [List.getElem?_eq_none (by rw [wipe_length, List.length_set]; omega), List.getElem?_eq_none (by rw [wipe_length]; omega)]
theorem wipe_wipe {σ : L2.St} {vs : List Nat} : wipe (wipe σ vs) vs = wipe σ vs := by
  refine List.ext_getElem? fun j => ?_
  by_cases hl : j < σ.length
  · by_cases hj : j ∈ vs
    · rw [wipe_in hj (by rw [wipe_length]; exact hl), wipe_in hj hl]
    · rw [wipe_out hj, wipe_out hj]
  · rw [List.getElem?_eq_none (by rw [wipe_length, wipe_length]; omega), List.getElem?_eq_none (by rw [wipe_length]; omega)]
end G
namespace G
open PySem PySem.Spec PyProof.Rows L2 Evl
/-! ## methods of built-in types within a suite: the written part by its letter -/
theorem kBm {X : Cx} {K : PySem.W.Frag} {T name id : String} {r : V → List V → Hp → VK → Prop} {o e : Expr} {es : List Expr} {to_ : TE} {t : TA} {apos cpos : Pos} (h : X.K = K) (p1 : PlainAttrs T) (p2 : Slot T name id) (p3 : typeOf (.builtin id) = pure (.type "method_descriptor")) (p4 : MtR X id r) (p5 : PE X o to_) (p6 : PA X (e :: es) t)
    (p7 : attributeBase o name X.env (eval o X.env) = eval o X.env := by rfl) (p8 : ((backTo cpos (starEach (e :: es) X.env)).all (fun x => !x.1) && (backToKw cpos (keywordEach [] X.env)).all (fun x => x.1.isSome) && decide ((e :: es).length + ([] : List Keyword).length + (if ([] : List Keyword).isEmpty then 0 else 1) < 30)) = true := by rfl)
    (p9 : (apos.endLine == cpos.line) = true := by rfl) (p10 : starEach (e :: es) X.env = (false, eval e X.env) :: starEach es X.env := by rfl) (p11 : (backTo cpos (starEach es X.env)).any (·.1) = false := by rfl) : PE X (.Call (.Attribute o name apos) (e :: es) [] cpos) (tBM K T r to_ t) := by
  subst h
  exact pe_bm p1 p2 p3 p4 p5 p6 p7 p8 p9 p10 p11
theorem kMtIndex {X : Cx} {K : PySem.W.Frag} (h : X.K = K) : MtR X "list.index" (rIndex K) := by subst h; exact mt_index
end G
namespace G
open PySem PySem.Spec PyProof.Rows L2 Evl
/-! ## own classes of errors -/
def HasX (P : Program) (w : World) (K : PySem.W.Frag) (mg : Str → Option Value) (base : Heap) (k : Nat) (x : Str) (ps : List Str) (sp : Sp) : Prop :=
  ∃ (f : Addr) (fd : FuncData), FnOk P w K mg base (L2.CX P w) k f fd ps sp ∧ mg x = some (.ref f) ∧ PySem.W.keepIn K (.ref f) = true ∧ Binds K fd ps []
theorem passX0 {X : Cx} {P : Program} {w : World} : Passes (L2.CX P w) X (fun _ _ _ => False) := fun _ _ _ _ _ _ _ h => by
  obtain ⟨_, _, _, _, _, _, _, _, _, _, _, _, h⟩ := h
  exact h.elim
/-- an own class over ValueError without __init__, at C -/
structure ExcT (K : PySem.W.Frag) (mg : Str → Option Value) (x : Str) (C : Addr) : Prop where
  gC : mg x = some (.ref C)
  xP : PySem.W.excIn K C [.type "ValueError", .type "Exception", .type "BaseException", .type "object"] "ValueError.__new__" = true
  kC : PySem.W.keepIn K (.ref C) = true
  bC : PySem.W.subIn K (.ref C) (.type "BaseException") = some true
  tC : PySem.W.typeIn K (.ref C) = some (.type "type")
/-- what an except clause asks of the class that it names -/
structure ExcH (K : PySem.W.Frag) (mg : Str → Option Value) (x : Str) (C : Addr) : Prop where
  u : ExcT K mg x C
  dict : PySem.W.hasDictIn K C = true
  self : PySem.W.subIn K (.ref C) (.ref C) = some true
theorem ExcH.hit {K : PySem.W.Frag} {mg : Str → Option Value} {x : Str} {C : Addr} (U : ExcH K mg x C) : PySem.W.exmOne K (.ref C) (.ref C) = some true := PySem.W.exm_ref U.u.bC U.dict U.u.tC U.self
end G
namespace G
open PySem PySem.Spec PyProof.Rows L2 Evl
/-! ## own errors: caught by name or by a class above, asked for their class -/
structure ExcI (K : PySem.W.Frag) (mg : Str → Option Value) (x : Str) (C : Addr) : Prop where
  u : ExcT K mg x C
  dict : PySem.W.hasDictIn K C = true
  self : PySem.W.subIn K (.ref C) (.ref C) = some true
  isc : ExcC K C
def IsK (K : PySem.W.Frag) (mg : Str → Option Value) (C : Addr) (d : Str) (b : Bool) : Prop := ∃ D : Addr, mg d = some (.ref D) ∧ PySem.W.kitOne K (.ref C) (.ref D) = some b
def CatchK (K : PySem.W.Frag) (mg : Str → Option Value) (C : Addr) (s : Str) : Prop := ∃ D : Addr, mg s = some (.ref D) ∧ PySem.W.exmOne K (.ref C) (.ref D) = some true
theorem ExcI.hit {K : PySem.W.Frag} {mg : Str → Option Value} {x : Str} {C : Addr} (U : ExcI K mg x C) : PySem.W.exmOne K (.ref C) (.ref C) = some true := PySem.W.exm_ref U.u.bC U.dict U.u.tC U.self
theorem IsK.at_ {K : PySem.W.Frag} {mg : Str → Option Value} {C D : Addr} {d : Str} {b : Bool} (h : IsK K mg C d b) (g : mg d = some (.ref D)) : PySem.W.kitOne K (.ref C) (.ref D) = some b := by
  obtain ⟨D', g', k⟩ := h
  rw [g] at g'
  cases g'; exact k
theorem CatchK.at_ {K : PySem.W.Frag} {mg : Str → Option Value} {C D : Addr} {s : Str} (h : CatchK K mg C s) (g : mg s = some (.ref D)) : PySem.W.exmOne K (.ref C) (.ref D) = some true := by
  obtain ⟨D', g', k⟩ := h
  rw [g] at g'
  cases g'; exact k
theorem pe_ex {X : Cx} {e : Expr} {α : Type} {p : α → Prop} {t : α → TE} (h : ∀ x, p x → PE X e (t x)) : PE X e (fun σ H Q => ∃ x, p x ∧ t x σ H Q) := by
  refine ⟨fun ps s σ H Q I z => ?_⟩
  obtain ⟨x, px, hx⟩ := z
  exact (h x px).run ps s σ H Q I hx
/-- isinstance of the error that the suite holds: whichever own error it is -/
theorem pe_isE {X : Cx} {a : Addr} {oe : Obj} {pn : List (Addr × Obj)} {cls : Value} {dd : Option Addr} {e : Expr} {t : Addr → TE} (hz : Zc cls dd oe) (hf : ∃ vs, oe.data = .fields vs)
    (h : ∀ D : Addr, Zc (.ref D) none oe → ExcC X.K D → PE (X.suite a ((a, oe) :: pn)) e (t D)) : PE (X.suite a ((a, oe) :: pn)) e (fun σ H Q => ∃ D : Addr, (cls = .ref D ∧ dd = none ∧ ExcC X.K D) ∧ t D σ H Q) :=
  pe_ex (p := fun D => cls = .ref D ∧ dd = none ∧ ExcC X.K D) fun D z => by
    obtain ⟨rfl, rfl, ic⟩ := z
    exact h D hz ic
/-! ## methods and classes called where what is raised is taken at the slots -/
section
variable {X : Cx} {CX : CXT} {k : Nat} {f C : Addr} {fd : FuncData} {ps : List Str} {sp : Sp} {dvs : List V} {ds : List Value} {E : L2.St → XK} {x m : Str} {p pos apos : Pos} {e o : Expr} {es : List Expr} {to_ : TE} {t : TA}
def tMethX (C : Addr) (m : Str) (sp : Sp) (dvs : List V) (E : L2.St → XK) (to_ : TE) (t : TA) : TE := fun σ H Q => to_ σ H fun x H1 => ∃ a dx fs, x = .ref a ∧ H1 a = some (.ins C dx fs) ∧ fs.lookup m = none ∧ t σ H1 fun vs H2 => sp (x :: (vs ++ dvs)) H2 Q (E σ)
def tMakeX (C : Addr) (sp : Sp) (dvs : List V) (E : L2.St → XK) (t : TA) : TE := fun σ H Q => t σ H fun vs H1 => ∀ x dx, H1 x = none → H1 dx = none → dx ≠ x → sp (.ref x :: (vs ++ dvs)) (upd (upd H1 dx (.own x)) x (.ins C dx [])) (fun v H2 => v = .non ∧ Q (.ref x) H2) (E σ)
theorem pe_methX {pl : Sem Bool} (ho : PE X o to_) (cc : Cls X.K C) (mm : Meth X.K C m f) (Fk : FnOk X.prog X.w X.K X.mg X.base CX k f fd ps sp) (rm : Room k X.A) (bd : Binds X.K fd ps ds) (dv : Vals dvs ds)
    (px : ∀ σ, PassesAt CX X σ (E σ)) (pa : PA X (e :: es) t) (s1 : starEach (e :: es) X.env = (false, eval e X.env) :: starEach es X.env := by rfl) (s2 : (backTo pos (starEach es X.env)).any (·.1) = false := by rfl)
    (s3 : eval (.Call (.Attribute o m apos) (e :: es) [] pos) X.env = (do let ov ← eval o X.env; standAt apos.atName; let (f, first) ← holding [ov] (getMethod ov m pl); callWith pos f first (backTo pos (starEach (e :: es) X.env)) (backToKw pos (keywordEach [] X.env))) := by rfl) :
    PE X (.Call (.Attribute o m apos) (e :: es) [] pos) (tMethX C m sp dvs E to_ t) := by
  refine ⟨fun pins st σ H Q I z => PySem.W.methodCall_KW (pl := pl) (thn (ho.run pins st σ H _ I z) fun q0 st1 ⟨y, H1, I1, ry, b, dx, fl, ey, eb, lk, z1⟩ => ?_) s3⟩
  subst ey
  cases (show q0 = Value.ref b from ry)
  exact getmeth_ok I1 eb cc mm lk (PySem.W.callWith_K (first := [.ref b]) (h₀ := X.base) I.ok.mod.kin mm.kp (thn (pa.run pos pins st1 σ H1 _ I1 z1) fun ws st2 ⟨vs, H2, I2, rs, z2⟩ => ⟨I2.kIn, run_fnSD (us := .ref b :: ws) (vs := .ref b :: vs) Fk rm bd dv (px σ) I2 (.cons rfl rs) z2⟩) s1 s2)
theorem run_makeX {pins : List (Addr × Obj)} {σ : L2.St} {H : Hp} {st : Shared} {Q : VK} {us : List Value} {vs : List V} (M : Mk X.K C f) (Fk : FnOk X.prog X.w X.K X.mg X.base CX k f fd ps sp) (rm : Room (k + 1) X.A) (bd : Binds X.K fd ps ds) (dv : Vals dvs ds)
    (px : PassesAt CX X σ (E σ)) (I : Inv X pins σ H st) (rs : Vals vs us)
    (z : ∀ x dx, H x = none → H dx = none → dx ≠ x → sp (.ref x :: (vs ++ dvs)) (upd (upd H dx (.own x)) x (.ins C dx [])) (fun v H2 => v = .non ∧ Q (.ref x) H2) (E σ)) :
    wpAny (model X.prog X.w) X.A (call (.ref C) us) (EP X pins σ Q) X.xe st := by
  have z1 := z (st.heap.objs.size + 1) st.heap.objs.size (I.hok.fresh (Nat.le_succ _)) (I.hok.fresh (Nat.le_refl _)) (Nat.ne_of_lt (Nat.lt_succ_self _))
  have J := Inv.made (C := C) I
  have rr : Vals (V.ref (st.heap.objs.size + 1) :: (vs ++ dvs)) (Value.ref (st.heap.objs.size + 1) :: (us ++ ds)) := .cons rfl (rs.append dv)
  have len : (Value.ref (st.heap.objs.size + 1) :: us ++ ds).length = ps.length := (rr.length.symm.trans (Fk.len _ _ _ _ z1))
  refine wpAny_call (make_map (f := f) I.kIn M.makes M.init (beq_iff_eq.mp M.fn) (codeAny_mono (Fk.run _ X.stack _ _ ⟨Value.ref (st.heap.objs.size + 1) :: us, []⟩ (Value.ref (st.heap.objs.size + 1) :: (us ++ ds)) _ _ (E σ) (rm.make C us []) (J.env0.make C us []) (bd _ (Value.ref (st.heap.objs.size + 1) :: us) J.kIn len) rr z1) fun r st' h => ?_))
  match r, h with
  | .error er, h => exact px pins _ _ er st' J h
  | .ok (.ret u), h =>
    obtain ⟨v, H', I3, rv, ev, q3⟩ := J.after h
    subst ev
    exact ⟨rv, ⟨V.ref (st.heap.objs.size + 1), H', I3, rfl, q3⟩⟩
  | .ok .next, h => exact h.elim
  | .ok .brk, h => exact h.elim
  | .ok .cont, h => exact h.elim
theorem pe_makeX (M : Mk X.K C f) (Fk : FnOk X.prog X.w X.K X.mg X.base CX k f fd ps sp) (rm : Room (k + 1) X.A) (gl : Gl X x) (gm : X.mg x = some (.ref C)) (bd : Binds X.K fd ps ds) (dv : Vals dvs ds) (px : ∀ σ, PassesAt CX X σ (E σ)) (pa : PA X (e :: es) t)
    (s0 : (x == ("__debug__" : Str)) = false := by decide) (s1 : starEach (e :: es) X.env = (false, eval e X.env) :: starEach es X.env := by rfl) (s2 : (backTo pos (starEach es X.env)).any (·.1) = false := by rfl) : PE X (.Call (.Name x p) (e :: es) [] pos) (tMakeX C sp dvs E t) :=
  ⟨fun pins st σ H Q I z => wpAny_Call_Name_kw (ld_glob I gl gm (PySem.W.callWith_K (h₀ := X.base) I.ok.mod.kin M.kp (thn (pa.run pos pins st σ H _ I z) fun us st1 ⟨vs, H1, I1, r, q⟩ => ⟨I1.kIn, run_makeX M Fk rm bd dv (px σ) I1 r q⟩) s1 s2) s0)⟩
end
end G
namespace G
open PySem PySem.Spec PyProof.Rows L2
/-! ## isinstance(e, (A, B)) of the error that a suite holds -/
theorem vals_of_refs : ∀ {bs : List Addr} {us : List Value}, Vals (bs.map V.ref) us → us = bs.map Value.ref
  | [], _, r => by cases r; rfl
  | b :: bs, _, r => by
    cases r with
    | cons h t =>
      rw [List.map_cons, ← vals_of_refs t]
      cases h
      rfl
def rIsET (K : PySem.W.Frag) (D a : Addr) : List V → Hp → VK → Prop := fun xs H Q => ∃ (tp : Addr) (cs : List Addr) (b : Bool), xs = [.ref a, .ref tp] ∧ SqT K H tp (cs.map V.ref) ∧ PySem.W.kitAny K (.ref D) (cs.map Value.ref) = some b ∧ Q (.bl b) H
theorem call_isET {X : Cx} {a D : Addr} {oe : Obj} {pn : List (Addr × Obj)} (C : ExcC X.K D) (hz : Zc (.ref D) none oe) (hf : ∃ vs, oe.data = .fields vs) : CallR (X.suite a ((a, oe) :: pn)) (.builtin "isinstance") (rIsET X.K D a) := by
  intro pins s σ H xs us Q I r h
  obtain ⟨tp, cs, b, rfl, hq, e, q⟩ := h
  obtain rfl : us = [.ref a, .ref tp] := vals_of_refs (bs := [a, tp]) r
  obtain ⟨hget, _⟩ := I.pin (a, oe) (List.mem_append.mpr (.inl List.mem_cons_self))
  obtain ⟨its, rv, ⟨⟨oc, od, oda, osl⟩, ho, hcl, n, hdt⟩, _⟩ := I.tuple hq
  obtain rfl := vals_of_refs rv
  dsimp only at hcl hdt
  subst hcl hdt
  obtain ⟨vs, hv⟩ := hf
  have J : PySem.W.InstAt s.heap a oe D none := by
    obtain ⟨oc, od, oda, osl⟩ := oe
    obtain ⟨h1, h2⟩ := hz
    dsimp only at h1 h2 hv
    subst h1 h2 hv
    exact ⟨hget, rfl, rfl, trivial⟩
  exact PySem.W.kia_tup (PySem.W.handS_kitx_exc C.hg C.hk C.hs C.hd C.ha C.hn C.ht C.hm) I.kIn J ho e (fun z => nomatch z) fun tk => ⟨.bl b, H, I.kept (t' := tk) fun _ _ z => z, rfl, q⟩
end G
namespace G
open PySem PySem.Spec PyProof.Rows L2 Evl
/-! ## own errors with a field: made, raised, asked for their class, their field read -/
/-- a look at the class -/
def oexB (K : PySem.W.Frag) (C : Addr) : Bool := match K.lookup C with
  | some ⟨.type "type", _, .cls cd, ⟨[_, _, _, _, some (.builtin n), _]⟩⟩ => (match cd.mro with
    | .ref C' :: bm => decide (C' = C) && (decide (n = "ValueError.__new__") && (!cd.hasDel && (cd.hasDict && PySem.HandSPX.refsVE bm)))
    | _ => false)
  | _ => false
theorem oexB_ok {K : PySem.W.Frag} {C : Addr} (h : oexB K C = true) : ∃ nm q N bs bm sn sub ab col dd k0 k1 k2 k3 k5, K.lookup C = some (excClassObj nm q C N bs bm true sn sub ab col dd k0 k1 k2 k3 k5 "ValueError.__new__") ∧ PySem.HandSPX.refsVE bm = true := by
  unfold oexB at h
  split at h
  · rename_i dd cd k0 k1 k2 k3 n k5 hl
    obtain ⟨nm, bs, mro, N, q, hd, sn, sub, ab, col, del⟩ := cd
    dsimp only at h
    split at h
    · rename_i C' bm
      simp only [Bool.and_eq_true, decide_eq_true_eq, Bool.not_eq_true'] at h
      obtain ⟨h1, h2, h3, h4, h5⟩ := h
      subst h1 h2 h3 h4
      exact ⟨nm, q, N, bs, bm, sn, sub, ab, col, dd, k0, k1, k2, k3, k5, hl, h5⟩
    · cases h
  · cases h
/-- an own error class whose `__init__(self, f)` says super().__init__(..) and keeps f -/
structure ErrF (P : Program) (K : PySem.W.Frag) (mg : Str → Option Value) (x qual : Str) (C f : Addr) (fd : FuncData) (st : Stmt) (fld : Str) : Prop where
  gC : mg x = some (.ref C)
  sup : ∃ file : Str, SUP.SupT K mg C f fd qual (defArgs st) (defBody st) (defScope st) file ∧ ((P.main.file : Str) == file) = true
  top : (P.main.scope.names.lookup ("super" : Str)).isSome = false
  bd : Binds K fd ["self", fld] []
  no : PySem.W.findIn K (.ref C) fld = some none
  isc : ExcC K C
/-- what such an `__init__` does -/
def spErr (C : Addr) (fld : Str) (ok : V → Hp → Prop) : Sp := fun vs H Q _ => ∃ (a : Addr) (y : V), vs = [.ref a, y] ∧ H a = some (exo a C none) ∧ ok y H ∧ ∀ d, H d = none → d ≠ a → Q .non (upd (upd H d (exd d [(fld, y)])) a (exo a C (some d)))
/-- a class that may be made: its `__init__` keeps this -/
structure Own1 (P : Program) (w : World) (K : PySem.W.Frag) (mg : Str → Option Value) (base : Heap) (x fld : Str) (C f : Addr) (fd : FuncData) (ok : V → Hp → Prop) : Prop where
  gC : mg x = some (.ref C)
  oex : OexC K C
  ini : PySem.W.findIn K (.ref C) "__init__" = some (some (.ref f))
  tI : PySem.W.typeIn K (.ref f) = some (.type "function")
  fn : FnOk P w K mg base CX0 1 f fd ["self", fld] (spErr C fld ok)
  bd : Binds K fd ["self", fld] []
theorem pmk_own1 {X : Cx} {x fld : Str} {C f : Addr} {fd : FuncData} {ok : V → Hp → Prop} {p pos : Pos} {e : Expr} {es : List Expr} {ta : TA} (O : Own1 X.prog X.w X.K X.mg X.base x fld C f fd ok) (hr : Room 2 X.A) (hg : Gl X x) (ha : PA X (e :: es) ta)
    (hdb : (x == ("__debug__" : Str)) = false := by decide) (he : starEach (e :: es) X.env = (false, eval e X.env) :: starEach es X.env := by rfl) (hpl : (backTo pos (starEach es X.env)).any (·.1) = false := by rfl) :
    PMk X (.Call (.Name x p) (e :: es) [] pos) (tMkO C (spErr C fld ok) [] ta) :=
  pmk_oex O.oex O.ini O.tI O.fn hr O.bd .nil pass0 hg O.gC ha hdb he hpl
/-- the reading of it, behind its argument -/
theorem mk1 {C : Addr} {fld : Str} {ok : V → Hp → Prop} {y : V} {H1 : Hp} {Q : XK} {E : XK} (hok : ∀ a, H1 a = none → ok y (upd H1 a (exo a C none))) (q : ∀ d, H1 d = none → Q (.ref C) (some d) (upd H1 d (.xd [(fld, y)]))) :
    [y].length ≤ 1000 ∧ ∀ a, H1 a = none → spErr C fld ok (.ref a :: ([y] ++ [])) (upd H1 a (exo a C none))
      (fun v H2 => v = .non ∧ ∃ (d : Addr) (fs : List (Str × V)), H2 a = some (exo a C (some d)) ∧ H2 d = some (exd d fs) ∧ H1 d = none ∧ Q (.ref C) (some d) (upd (del H2 a) d (.xd fs))) E := by
  refine ⟨(by show 1 ≤ 1000; decide), fun a na => ⟨a, y, rfl, upd_same, hok a na, fun d nd hda => ⟨rfl, d, [(fld, y)], upd_same, ?_, ?_, ?_⟩⟩⟩
  · rw [upd_ne hda, upd_same]
  · rw [upd_ne hda] at nd; exact nd
  · have nd' : H1 d = none := by rw [upd_ne hda] at nd; exact nd
    have e : upd (del (upd (upd (upd H1 a (exo a C none)) d (exd d [(fld, y)])) a (exo a C (some d))) a) d (.xd [(fld, y)]) = upd H1 d (.xd [(fld, y)]) := by
      funext b
      by_cases h1 : b = d
      · rw [h1, upd_same, upd_same]
      · rw [upd_ne h1, upd_ne h1]
        by_cases h2 : b = a
        · rw [h2, del_same, na]
        · rw [del_ne h2, upd_ne h2, upd_ne h1, upd_ne h2]
    rw [e]
    exact q d nd'
section
variable {X : Cx} {a D : Addr} {oe : Obj} {pn : List (Addr × Obj)} {dd : Option Addr}
/-- a caught error's dict stands -/
def DictS (dd : Option Addr) (H : Hp) : Prop := ∀ d, dd = some d → ∃ fs, H d = some (.xd fs)
def rIsED (K : PySem.W.Frag) (D a : Addr) (dd : Option Addr) : List V → Hp → VK → Prop := fun xs H Q => DictS dd H ∧ rIsE K D a xs H Q
def rIsETD (K : PySem.W.Frag) (D a : Addr) (dd : Option Addr) : List V → Hp → VK → Prop := fun xs H Q => DictS dd H ∧ rIsET K D a xs H Q
theorem instD {s : Shared} {pins : List (Addr × Obj)} {σ : L2.St} {H : Hp} (I : Inv (X.suite a ((a, oe) :: pn)) pins σ H s) (hz : Zc (.ref D) dd oe) (hf : ∃ vs, oe.data = .fields vs) (hd : DictS dd H) : ∃ od, PySem.W.InstAt s.heap a oe D od := by
  obtain ⟨hget, _⟩ := I.pin (a, oe) (List.mem_append.mpr (.inl List.mem_cons_self))
  obtain ⟨vs, hv⟩ := hf
  cases dd with
  | none => exact ⟨none, hget, hz.1, by unfold PySem.W.notCls; rw [hv] <;> rfl, by rw [hz.2]; trivial⟩
  | some d =>
    obtain ⟨fs, e⟩ := hd d rfl
    have hx : ObjOk X.prog X.w H s.heap d (.xd fs) := I.hok d _ e
    obtain ⟨mA, hns, hr⟩ := hx
    obtain ⟨od, ho, hl⟩ := lookIn_ns hns
    exact ⟨some od, hget, hz.1, by unfold PySem.W.notCls; rw [hv] <;> rfl, by rw [hz.2]; exact ho⟩
theorem kitD {K : PySem.W.Frag} {od : Option Obj} (C : ExcC K D) : PySem.W.KitX K (.ref a) (.ref D) (fun h => PySem.W.InstAt h a oe D od) :=
  PySem.W.kitx_exc (by obtain ⟨cd, hc, _⟩ := PySem.W.any_some C.hd; rw [hc]; rfl) C.hg C.hk C.hs C.ha C.hn C.ht C.hm
theorem call_isED (C : ExcC X.K D) (hz : Zc (.ref D) dd oe) (hf : ∃ vs, oe.data = .fields vs) : CallR (X.suite a ((a, oe) :: pn)) (.builtin "isinstance") (rIsED X.K D a dd) := by
  intro pins s σ H xs us Q I r h
  obtain ⟨hd, c, cv, b, rfl, hcv, e, q⟩ := h
  cases r with
  | cons rx rr =>
    cases rr with
    | cons rt rr =>
      cases rr
      cases rx
      have ec := hcv _ rt
      subst ec
      obtain ⟨od, J⟩ := instD I hz hf hd
      exact PySem.W.kia_one (kitD C) I.kIn J e (fun z => nomatch z) fun tk => ⟨.bl b, H, I.kept (t' := tk) fun _ _ z => z, rfl, q⟩
theorem call_isETD (C : ExcC X.K D) (hz : Zc (.ref D) dd oe) (hf : ∃ vs, oe.data = .fields vs) : CallR (X.suite a ((a, oe) :: pn)) (.builtin "isinstance") (rIsETD X.K D a dd) := by
  intro pins s σ H xs us Q I r h
  obtain ⟨hd, tp, cs, b, rfl, hq, e, q⟩ := h
  obtain rfl : us = [.ref a, .ref tp] := vals_of_refs (bs := [a, tp]) r
  obtain ⟨its, rv, ⟨⟨oc, od0, oda, osl⟩, ho, hcl, n, hdt⟩, _⟩ := I.tuple hq
  obtain rfl := vals_of_refs rv
  dsimp only at hcl hdt
  subst hcl hdt
  obtain ⟨od, J⟩ := instD I hz hf hd
  exact PySem.W.kia_tup (kitD C) I.kIn J ho e (fun z => nomatch z) fun tk => ⟨.bl b, H, I.kept (t' := tk) fun _ _ z => z, rfl, q⟩
theorem pe_isED {cls : Value} {e : Expr} {t : Addr → TE} (hz : Zc cls dd oe) (hf : ∃ vs, oe.data = .fields vs)
    (h : ∀ D : Addr, Zc (.ref D) dd oe → ExcC X.K D → PE (X.suite a ((a, oe) :: pn)) e (t D)) : PE (X.suite a ((a, oe) :: pn)) e (fun σ H Q => ∃ D : Addr, (cls = .ref D ∧ ExcC X.K D) ∧ t D σ H Q) :=
  pe_ex (p := fun D => cls = .ref D ∧ ExcC X.K D) fun D z => by
    obtain ⟨rfl, ic⟩ := z
    exact h D hz ic
end
end G
namespace G
open PySem PySem.Spec PyProof.Rows L2 Evl
/-! ## defs that let out an exception whose context is none; defs called while one is handled -/
def HasN (P : Program) (w : World) (K : PySem.W.Frag) (mg : Str → Option Value) (base : Heap) (k : Nat) (x : Str) (ps : List Str) (sp : Sp) : Prop :=
  ∃ (f : Addr) (fd : FuncData), FnOk P w K mg base (L2N.CX P w) k f fd ps sp ∧ mg x = some (.ref f) ∧ PySem.W.keepIn K (.ref f) = true ∧ Binds K fd ps []
def HasH (P : Program) (w : World) (K : PySem.W.Frag) (mg : Str → Option Value) (base : Heap) (k : Nat) (x : Str) (ps : List Str) (sp : Sp) : Prop :=
  ∃ (f : Addr) (fd : FuncData), L2H.FnH P w K mg base CX0 k f fd ps sp ∧ mg x = some (.ref f) ∧ PySem.W.keepIn K (.ref f) = true ∧ Binds K fd ps []
theorem passN0 {X : Cx} {P : Program} {w : World} : Passes (L2N.CX P w) X (fun _ _ _ => False) := fun _ _ _ _ _ _ _ h => by
  obtain ⟨_, _, _, _, _, _, _, _, _, _, _, _, h⟩ := h
  exact h.elim
theorem takesN0 {X : Cx} : L2N.Takes X (fun _ _ _ _ => False) := fun u s' x => by
  obtain ⟨_, _, _, _, _, _, _, _, _, _, _, _, _, _, _, _, z⟩ := x
  exact z.elim
section
variable {P : Program} {w : World} {K : PySem.W.Frag} {mg : Str → Option Value} {base : Heap}
/-- as Fun.okX, what is let out bears no context -/
theorem _root_.L2.Fun.okN {x qual : Str} {st : Stmt} {f : Addr} {fd : FuncData} {N ps : List Str} {k : Nat} {sp : Sp} (F : Fun K x qual st f fd) (S : FnScope N ps (defScope st)) (len : ∀ vs H Q E, sp vs H Q E → vs.length = ps.length)
    (hbody : ∀ (cdv : Value) (A : Around) (outer : List Env) (s : Shared) (H : Hp) (vs : List V) (Q : VK) (E : XK), Room k (A.deeper (envOfC qual (defScope st) s.heap.objs.size f cdv)) → sp vs H Q E →
      ∃ t, PSs (cxOf (L2N.CX P w) P w K mg base N qual (defScope st) f cdv A outer s H E) (defBody st) t ∧ t { nx := fun _ H' => Q .non H', rt := Q } (start N vs) H) : FnOk P w K mg base (L2N.CX P w) (k + 1) f fd ps sp := by
  obtain ⟨oc, od, kV, doc, pm, an, cdv, ct, osl, rfl, lk, hcd⟩ := F.ex
  exact fn_of lk hcd S len fun A outer s H vs Q E hr hsp => hbody cdv A outer s H vs Q E hr hsp
/-- as Fun.ok, for a def that is called while an exception is handled -/
theorem _root_.L2.Fun.okH {x qual : Str} {st : Stmt} {f : Addr} {fd : FuncData} {N ps : List Str} {k : Nat} {sp : Sp} (F : Fun K x qual st f fd) (S : FnScope N ps (defScope st)) (len : ∀ vs H Q E, sp vs H Q E → vs.length = ps.length)
    (hbody : ∀ (cdv : Value) (A : Around) (outer : List Env) (s : Shared) (H : Hp) (vs : List V) (Q : VK) (E : XK) (p : Addr × Obj), L2H.RoomH k (A.deeper (envOfC qual (defScope st) s.heap.objs.size f cdv)) → L2H.HotC (L2H.cxH CX0 P w K mg base N qual (defScope st) f cdv A outer s H E p).nox → sp vs H Q E →
      ∃ t, PSs (L2H.cxH CX0 P w K mg base N qual (defScope st) f cdv A outer s H E p).nox (defBody st) t ∧ t { nx := fun _ H' => Q .non H', rt := Q } (start N vs) H) : L2H.FnH P w K mg base CX0 (k + 1) f fd ps sp := by
  obtain ⟨oc, od, kV, doc, pm, an, cdv, ct, osl, rfl, lk, hcd⟩ := F.ex
  refine L2H.fn_ofH lk hcd S len fun A outer s H vs Q E p hot hr hsp => ?_
  obtain ⟨t, ht, q⟩ := hbody cdv A outer s H vs Q E p hr ⟨p, ⟨hot.1, hot.2⟩, List.mem_singleton.mpr rfl⟩ hsp
  exact ⟨t, ht.nox, q⟩
theorem Dfd.hasH {x : Str} {st : Stmt} {ps : List Str} {k : Nat} {sp : Sp} (d : Dfd K mg x st ps) (h : ∀ f fd, Fun K x x st f fd → L2H.FnH P w K mg base CX0 k f fd ps sp) : HasH P w K mg base k x ps sp := by
  obtain ⟨f, fd, F, g, b⟩ := d
  exact ⟨f, fd, h f fd F, g, F.kp, b⟩
end
theorem hu_ofH {k : Nat} {A : Around} (r : L2H.RoomH k A) : A.units + 1 < cLine := by have := r.un; omega
theorem unitsH {k : Nat} {A : Around} (r : L2H.RoomH k A) : A.units + 64 < cLine := by have := r.un; omega
theorem opNeK {X : Cx} {K : PySem.W.Frag} (h : X.K = K) (hu : X.A.units + 64 < cLine) : OpR X (compareOp .NotEq) (rNeD K) := by
  subst h
  exact op_neD hu
theorem roomS {k : Nat} {A : Around} {v : Option Value} (r : Room k A) : L2H.RoomH k (A.mark v) := ⟨r.dp, r.un⟩
def noE : L2.St → XK := fun _ _ _ _ => False
theorem passS {X : Cx} {E : L2.St → XK} : ∀ σ, PassesAt CX0 X σ (E σ) := fun _ _ _ _ _ _ _ h => h.elim
/-- the context of a suite bears its exception -/
theorem hot_suite {X : Cx} {a : Addr} {oe : Obj} {cls : Value} {d : Option Addr} {pn : List (Addr × Obj)} (hz : L2N.Zn cls d oe) (hf : ∃ vs, oe.data = .fields vs) : L2H.HotC (X.suite a ((a, oe) :: pn)) := by
  obtain ⟨vs, e⟩ := hf
  exact ⟨(a, oe), ⟨rfl, vs, e, hz.2.2 vs e⟩, List.mem_cons_self⟩
section
variable {X : Cx} {x : Str} {C : Addr} {e : Expr} {es : List Expr} {t : TA} {p pos : Pos}
/-- C(e, ..), an own class over ValueError, no context -/
theorem pmkN_ownA {bmB : List Value} {B newId initId : String} (F : ExcBaseFacts B newId initId bmB) (q : PySem.W.excIn X.K C bmB newId = true) (gC : X.mg x = some (.ref C))
    (kC : PySem.W.keepIn X.K (.ref C) = true) (r : Raises X (.ref C)) (hg : Gl X x) (ha : PA X (e :: es) t) (hdb : (x == ("__debug__" : Str)) = false := by decide)
    (he : starEach (e :: es) X.env = (false, eval e X.env) :: starEach es X.env := by rfl) (hpl : (backTo pos (starEach es X.env)).any (·.1) = false := by rfl) :
    L2N.PMk X (.Call (.Name x p) (e :: es) [] pos) (fun σ H Q => t σ H fun vs H1 => vs.length ≤ sizeLine ∧ Q (.ref C) none H1) := fun pins s σ H Q I h =>
  wpAny_Call_Name_kw (ld_glob I hg gC (PySem.W.callWith_K (h₀ := X.base) I.ok.mod.kin kC (thn (ha.run pos pins s σ H _ I h) fun us s1 k => by
    obtain ⟨vs, H1, I1, r1, hz, q1⟩ := k
    refine ⟨I1.kIn, ?_⟩
    show wpAny _ _ (call (.ref C) us) _ _ _
    obtain ⟨_, _, _, _, _, _, _, _, _, _, _, _, _, _, _, _, _, hC, hN, hni, T⟩ := exc_obj I1.kIn q
    exact wpAny_call_exc_subT F T hC hN hni (fun h' e hm => L2N.mk_of I1 hm r q1 (I1.hok.gone hm.new)) (by rw [← r1.length]; exact hz)) he hpl) hdb)
/-- C(e, ..), its `__init__` keeps a field, no context -/
theorem pmkN_own1 {fld : Str} {f : Addr} {fd : FuncData} {ok : V → Hp → Prop} {ta : TA} (O : Own1 X.prog X.w X.K X.mg X.base x fld C f fd ok) (hr : Room 2 X.A) (hg : Gl X x) (ha : PA X (e :: es) ta)
    (hdb : (x == ("__debug__" : Str)) = false := by decide) (he : starEach (e :: es) X.env = (false, eval e X.env) :: starEach es X.env := by rfl) (hpl : (backTo pos (starEach es X.env)).any (·.1) = false := by rfl) :
    L2N.PMk X (.Call (.Name x p) (e :: es) [] pos) (tMkO C (spErr C fld ok) [] ta) := by
  intro pins s σ H Q I h
  have IK := I.ok.mod.kin
  refine wpAny_Call_Name_kw (ld_glob I hg O.gC (PySem.W.callWith_K (h₀ := X.base) IK O.oex.kC (thn (ha.run pos pins s σ H _ I h) fun us s1 kk => ?_) he hpl) hdb)
  obtain ⟨vs, H1, J, r1, hz, q1⟩ := kk
  refine ⟨J.kIn, ?_⟩
  obtain ⟨hp, g, dr, tk, os⟩ := s1
  obtain ⟨_, _, _, _, bm, _, _, _, _, _, _, _, _, _, _, hC, hbm⟩ := O.oex.cls
  have one : hp.objs.size ≤ hp.objs.size + 1 := Nat.le_succ _
  have hq := q1 (hp.objs.size + 1) (J.hok.fresh one)
  rw [List.append_nil] at hq
  have old : ∀ b o, hp.get? b = some o → ((hp.push (PySem.W.kdv_tup us)).push (PySem.HandSPX.excO C hp.objs.size)).get? b = some o := fun b o z => Heap.get?_push_of_some _ (Heap.get?_push_of_some _ z)
  have J2 : Inv X pins σ (upd H1 (hp.objs.size + 1) (exo (hp.objs.size + 1) C none)) ⟨(hp.push (PySem.W.kdv_tup us)).push (PySem.HandSPX.excO C hp.objs.size), g, dr, tk, os⟩ :=
    J.laid (t' := tk) old one (exo_ok (by heap_get))
  have r2 : Vals (V.ref (hp.objs.size + 1) :: vs) (Value.ref (hp.objs.size + 1) :: us) := .cons rfl r1
  have hl : ((Value.ref (hp.objs.size + 1) :: us) ++ []).length = (["self", fld] : List Str).length := by rw [List.append_nil, ← r2.length]; exact O.fn.len _ _ _ _ hq
  have b2 := O.bd _ _ J2.kIn hl
  rw [List.append_nil] at b2
  refine wpAny_call (PySem.HandSPX.call_own F.excBase_ValueError (fun Y => PySem.HandSPX.refsVE_contains Y bm hbm) (J.kIn _ _ hC) (PySem.W.looks_findIn J.kIn O.ini) (fun self => PySem.W.bind_fn J.kIn self O.tI) (by have e := r1.length; rw [sizeLine_eq]; show us.length ≤ _; omega)
    (codeAny_mono (O.fn.run _ X.stack _ _ ⟨Value.ref (hp.objs.size + 1) :: us, []⟩ _ _ _ (fun _ _ _ => False) (hr.make C us []) (J2.env0.make C us []) b2 r2 hq) fun r s' z => ?_))
  match r with
  | .error er => exact z.elim
  | .ok .next => exact z.elim
  | .ok .brk => exact z.elim
  | .ok .cont => exact z.elim
  | .ok (.ret u) =>
    obtain ⟨v, H2, os2, bare2, un2, hok2, rv, ev, d, fs, ea, ed, hd1, q2⟩ := z
    subst ev
    obtain ⟨h2, g2, d2, t2, os'⟩ := s'
    obtain ⟨t0, G0, J3, kG, ge, hoe, na⟩ := mk_end0 (d2 := d2) (t2 := t2) J one old un2 hok2 os2 bare2 ea ed hd1
    exact ⟨rv, hp.objs.size + 1, _, _, ⟨G0, g2, d2, t2, os'⟩, _, .ref C, some d, rfl, J3, kG, ge, hoe, ⟨rfl, rfl, fun vs hv => by cases hv; rfl⟩, rfl, rfl, na, rfl, bare2, raises_own O.oex.exC O.oex.tyC, q2⟩
end
end G
namespace G
open PySem PySem.Spec PyProof.Rows L2 Evl TL
section
variable {P : Program} {w : World} {K : PySem.W.Frag} {mg : Str → Option Value} {base : Heap}
def okNms : V → Hp → Prop := fun y H => ∃ (a : Addr) (xs : List Str), y = .ref a ∧ H a = some (.tup (xs.map V.str)) ∧ xs.length ≤ 1000
theorem own_Looped {C f : Addr} {fd : FuncData} (F : ErrF P K mg "Looped" "Looped.__init__" C f fd s_Looped_init "names") (hlen : mg "len" = none) : Own1 P w K mg base "Looped" "names" C f fd okNms := by
  obtain ⟨file, T, hfile⟩ := F.sup
  refine ⟨F.gC, T.oex, T.ini, T.tI, ?_, F.bd⟩
  have SN : NdefX.NScope ["self", "names", "__class__"] ["self", "names"] ["__class__"] (defScope s_Looped_init) := NdefX.nscope_by (by decide +kernel)
  refine SUP.fn_sup (N := ["self", "names", "__class__"]) T hfile F.top rfl SN rfl rfl (by decide +kernel) (by decide +kernel) (fun vs H Q E h => ?_) (fun cda cc A outer s H vs Q E hr h => ?_) _ (hps := by decide)
  · obtain ⟨_, _, rfl, _⟩ := h
    rfl
  · obtain ⟨a, y, rfl, ha, ⟨na, xs, rfl, hxs, hn⟩, q⟩ := h
    have em : (Str.ofString (toString ((xs.length : Nat) : Int))) = mk (numL xs.length) := ext_tl (tl_num xs.length)
    have hl := numL_len (n := xs.length) (k := 9) (by decide) (by omega)
    have hg : (xs.length : Int).natAbs.log2 < 1920 := by
      have : (xs.length : Int).natAbs < 2 ^ 30 := by rw [Int.natAbs_natCast]; omega
      have := PySem.Flt.log2_lt_of (by decide : 0 < 30) this
      omega
    refine ⟨_, _, pa_cons (pe_joined (.cons (pe_fmt (pe_callB call_len_seq (by rfl) hlen (by decide +kernel) (pa_cons (pe_var (i := 1) rfl (.inl rfl)) pa_nil))) (.cons pe_str .nil))) pa_nil, pss_one (ps_ost (pe_var (i := 0) rfl (.inl rfl)) (pe_var (i := 1) rfl (.inl rfl))), a, rfl, ha, ?_⟩
    refine ⟨_, rfl, _, _, rfl, .inr (SqT.of hxs), .inr ⟨_, rfl, by rw [List.length_map]; exact hg, _, rfl, ?_, _, rfl, ?_, (by show 1 ≤ 1000; decide), ha, _, rfl, _, rfl, a, C, rfl, T.oex, F.no, .inl ⟨ha, fun d nd hda => q d nd hda⟩⟩⟩
    · rw [List.length_map, em]
      refine sz_of ?_
      rw [Str.length_append, mk_len]
      show 0 + _ ≤ _
      omega
    · rw [List.length_map, em]
      refine sz_of ?_
      rw [Str.length_append, Str.length_append, mk_len]
      show 0 + _ + 34 ≤ _
      omega
end
end G
namespace G
open PySem PySem.Spec PyProof.Rows L2 Evl TL
def namesD (d : CircD) : List Str := d.ins ++ d.gates.map (·.name) ++ d.regs.map (·.name)
structure TxtN (mg : Str → Option Value) : Prop where
  list : mg "list" = none
section
variable {P : Program} {w : World} {K : PySem.W.Frag} {mg : Str → Option Value} {base : Heap}
theorem gate_name {H : Hp} {a : Addr} {g : GateD} (h : GateAt H a g) : ∃ xs : List V, H a = some (.tup xs) ∧ xs[0]? = some (.str g.name) := by
  obtain ⟨t, pt, rt, ra, h1, _⟩ := h
  exact ⟨_, h1, rfl⟩
theorem reg_name {H : Hp} {a : Addr} {r : RegD} (h : RegAt H a r) : ∃ xs : List V, H a = some (.tup xs) ∧ xs[0]? = some (.str r.name) := by
  obtain ⟨ea, oa, h1, _⟩ := h
  exact ⟨_, h1, rfl⟩
def spNames : Sp := fun vs H Q _ => ∃ (c : Addr) (d : CircD) (it gt rt ot : Addr) (ga ra oa : List Addr), vs = [.ref c] ∧ CircAt H c d it gt rt ot ga ra oa ∧ (namesD d).length ≤ 1000 ∧ ∀ (l : Addr) (H' : Hp), H l = none → Ex H H' → H' l = some (.lst ((namesD d).map V.str)) → Q (.ref l) H'
theorem sc_all_names : FnScope ["circuit", "inputs", "gates", "regs", "_", "reg", "gate"] ["circuit"] (defScope s_all_names) := ⟨rfl, rfl, rfl, by decide +kernel, rfl, by decide +kernel, by decide +kernel⟩
theorem ok_all_names (D : Dfd K mg "_all_names" s_all_names ["circuit"]) (T : TxtN mg) : Has P w K mg base 1 "_all_names" ["circuit"] spNames := by
  refine D.has fun f fd F => F.ok sc_all_names (fun vs H Q E h => ?_) (fun cdv A outer s H vs Q E hr h => ?_)
  · obtain ⟨c, d, it, gt, rt, ot, ga, ra, oa, rfl, _⟩ := h
    rfl
  · obtain ⟨c, d, it, gt, rt, ot, ga, ra, oa, rfl, hc, hn, q⟩ := h
    have hlen : d.ins.length + d.gates.length + d.regs.length ≤ 1000 := by
      unfold namesD at hn
      rw [List.length_append, List.length_append, List.length_map, List.length_map] at hn
      omega
    refine ⟨_, (pss_cons (ps_asg (pv 0) (pg_tup rfl (pgs_cons (pg_name (i := 1) sc_all_names.nd rfl (.inl rfl)) (pgs_cons (pg_name (i := 2) sc_all_names.nd rfl (.inl rfl)) (pgs_cons (pg_name (i := 3) sc_all_names.nd rfl (.inl rfl)) (pgs_cons (pg_name (i := 4) sc_all_names.nd rfl (.inl rfl)) pgs_nil))))))
    (pss_one (ps_ret (pe_op op_cat (pe_op op_cat (pe_callTy call_list_of (by rfl) T.list (by decide +kernel) (pa_cons (pv 1) pa_nil)) (pe_lc (own := [("gate", 6)]) (g := gName 6) (tt := tYes) rfl sc_all_names.nd (pi_tup (pv 2)) (blkOk_by (N := ["circuit", "inputs", "gates", "regs", "_", "reg", "gate"]) (sc := defScope s_all_names) (own := [("gate", 6)]) (by decide +kernel)) (fun _ _ _ _ _ => (pg_name (i := 6) sc_all_names.nd rfl (.inl rfl))) (fun _ _ _ _ _ => pts_nil) (fun _ _ _ _ _ => (pe_ix (kIxT (K := K) rfl) (pv 6) pe_int (fun _ _ => rfl))))) (pe_lc (own := [("reg", 5)]) (g := gName 5) (tt := tYes) rfl sc_all_names.nd (pi_tup (pv 3)) (blkOk_by (N := ["circuit", "inputs", "gates", "regs", "_", "reg", "gate"]) (sc := defScope s_all_names) (own := [("reg", 5)]) (by decide +kernel)) (fun _ _ _ _ _ => (pg_name (i := 5) sc_all_names.nd rfl (.inl rfl))) (fun _ _ _ _ _ => pts_nil) (fun _ _ _ _ _ => (pe_ix (kIxT (K := K) rfl) (pv 5) pe_int (fun _ _ => rfl)))))))), ?_⟩
    refine ⟨_, rfl, c, _, rfl, SqT.of hc.top, rfl, _, _, rfl, _, _, rfl, _, _, rfl, _, _, rfl, rfl, ?_⟩
    refine ⟨_, rfl, _, _, rfl, .inr (SqT.of hc.ins), fun l1 n1 => ?_⟩
    have E1 : Ex H (upd H l1 (.lst (d.ins.map V.str))) := Ex.new n1
    have h1 : upd H l1 (.lst (d.ins.map V.str)) l1 = some (.lst (d.ins.map V.str)) := upd_same
    generalize upd H l1 (.lst (d.ins.map V.str)) = H1 at *
    have hc1 := hc.te (.of E1)
    refine ⟨_, rfl, gt, rfl, ⟨_, SqT.of hc1.gts⟩, fun L2 nL2 => wk_tup (K := K) (a := gt) (xs := ga.map V.ref) (fun j H' => Ex H1 H' ∧ H' L2 = some (.lst (((d.gates.map (·.name)).take j).map V.str))) ⟨Ex.new nL2, by rw [upd_same]; rfl⟩ (fun j H' _ g => SqT.of (g.1 _ _ hc1.gts)) ?_ ?_⟩
    · rintro j x H2 hx ⟨E2, hL⟩
      rw [List.getElem?_map] at hx
      cases e : ga[j]? with
      | none => rw [e] at hx; cases hx
      | some b =>
        rw [e] at hx; cases hx
        obtain ⟨g, hg, hgt⟩ := hc1.gates.at_ e
        obtain ⟨xs, hb, hx0⟩ := gate_name hgt
        have hj : j < d.gates.length := (List.getElem?_eq_some_iff.mp hg).1
        refine ⟨rfl, tYes_in ⟨_, rfl, _, _, _, _, rfl, rfl, SqT.of (E2 _ _ hb), atI_nat (j := 0) hx0, _, hL, sz_lt (by rw [List.length_map, List.length_take]; omega), E2.mut nL2, ?_⟩⟩
        rw [upd_same, List.take_add_one, List.getElem?_map, hg, List.map_append]; rfl
    rintro H2 ⟨E2, hL⟩
    rw [List.length_map, hc1.gates.1, ← List.length_map (f := fun g : GateD => g.name), List.take_length] at hL
    refine ⟨l1, L2, _, _, rfl, rfl, E2 _ _ h1, hL, sz_of (by rw [List.length_map, List.length_map, List.length_map]; omega), fun l3 n3 => ?_⟩
    rw [← List.map_append]
    have E3 : Ex H2 (upd H2 l3 (.lst ((d.ins ++ d.gates.map (·.name)).map V.str))) := Ex.new n3
    have h3 : upd H2 l3 (.lst ((d.ins ++ d.gates.map (·.name)).map V.str)) l3 = some (.lst ((d.ins ++ d.gates.map (·.name)).map V.str)) := upd_same
    generalize upd H2 l3 (.lst ((d.ins ++ d.gates.map (·.name)).map V.str)) = H3 at *
    have hc3 := hc.te (.of (E1.trans (E2.trans E3)))
    refine ⟨_, rfl, rt, rfl, ⟨_, SqT.of hc3.rgs⟩, fun L4 nL4 => wk_tup (K := K) (a := rt) (xs := ra.map V.ref) (fun j H' => Ex H3 H' ∧ H' L4 = some (.lst (((d.regs.map (·.name)).take j).map V.str))) ⟨Ex.new nL4, by rw [upd_same]; rfl⟩ (fun j H' _ g => SqT.of (g.1 _ _ hc3.rgs)) ?_ ?_⟩
    · rintro j x H4 hx ⟨E4, hL4⟩
      rw [List.getElem?_map] at hx
      cases e : ra[j]? with
      | none => rw [e] at hx; cases hx
      | some b =>
        rw [e] at hx; cases hx
        obtain ⟨g, hg, hgt⟩ := hc3.regs.at_ e
        obtain ⟨xs, hb, hx0⟩ := reg_name hgt
        have hj : j < d.regs.length := (List.getElem?_eq_some_iff.mp hg).1
        refine ⟨rfl, tYes_in ⟨_, rfl, _, _, _, _, rfl, rfl, SqT.of (E4 _ _ hb), atI_nat (j := 0) hx0, _, hL4, sz_lt (by rw [List.length_map, List.length_take]; omega), E4.mut nL4, ?_⟩⟩
        rw [upd_same, List.take_add_one, List.getElem?_map, hg, List.map_append]; rfl
    rintro H4 ⟨E4, hL4⟩
    rw [List.length_map, hc3.regs.1, ← List.length_map (f := fun g : RegD => g.name), List.take_length] at hL4
    refine ⟨l3, L4, _, _, rfl, rfl, E4 _ _ h3, hL4, sz_of (by rw [List.length_map, List.length_map, List.length_append, List.length_map, List.length_map]; omega), fun l5 n5 => ?_⟩
    have E5 := E1.trans (E2.trans (E3.trans E4))
    refine q l5 _ (fresh_back E5 n5) (E5.trans (Ex.new n5)) ?_
    rw [upd_same, ← List.map_append]; rfl
def spCheck (C : Addr) : Sp := fun vs H Q E => ∃ (c l : Addr) (d : CircD) (ns : List Str) (it gt rt ot : Addr) (ga ra oa : List Addr), vs = [.ref c, .ref l] ∧ CircAt H c d it gt rt ot ga ra oa ∧ (namesD d).length ≤ 1000 ∧ H l = some (.lst (ns.map V.str)) ∧ (∀ x ∈ ns, x.length ≤ 1000) ∧
  ((∀ x ∈ ns, x ∈ namesD d) → ∀ H', Ex H H' → Q .non H') ∧ ((∃ x ∈ ns, x ∉ namesD d) → ∀ H', Ex H H' → E (.ref C) none H')
theorem sc_check_nets : FnScope ["circuit", "names", "name", "nets"] ["circuit", "names"] (defScope s_check_nets) := ⟨rfl, rfl, rfl, by decide +kernel, rfl, by decide +kernel, by decide +kernel⟩
theorem ok_check_nets {C : Addr} (D : Dfd K mg "check_nets" s_check_nets ["circuit", "names"]) (U : ExcT K mg "UnknownName" C) (C1 : Has P w K mg base 1 "_all_names" ["circuit"] spNames) : HasN P w K mg base 2 "check_nets" ["circuit", "names"] (spCheck C) := by
  obtain ⟨f_all_names, d_all_names, G_all_names, g_all_names, k_all_names, b_all_names⟩ := C1
  obtain ⟨f, fd, F, gf, bf⟩ := D
  refine ⟨f, fd, F.okN sc_check_nets (fun vs H Q E h => ?_) (fun cdv A outer s H vs Q E hr h => ?_), gf, F.kp, bf⟩
  · obtain ⟨c, l, d, ns, it, gt, rt, ot, ga, ra, oa, rfl, _⟩ := h
    rfl
  · obtain ⟨c, l, d, ns, it, gt, rt, ot, ga, ra, oa, rfl, hc, hn, hl, hsm, q1, q2⟩ := h
    refine ⟨_, (pss_cons (ps_setDc (i := 3) (own := [("name", 2)]) (g := gName 2) (tt := tYes) rfl sc_check_nets.nd rfl rfl (sw_trueD rfl rfl rfl (by decide +kernel)) (pi_list (pe_call G_all_names (hr.mono (by omega)) (by rfl) g_all_names k_all_names b_all_names .nil pass0 (pa_cons (pv 0) pa_nil))) (blkOk_by (N := ["circuit", "names", "name", "nets"]) (sc := defScope s_check_nets) (own := [("name", 2)]) (by decide +kernel)) (fun _ _ _ _ _ => (pg_name (i := 2) sc_check_nets.nd rfl (.inl rfl))) (fun _ _ _ _ _ => pts_nil) (fun _ _ _ _ _ => (pv 2)) (fun _ _ _ _ _ => pe_bl))
    (pss_one (ps_for (passes_of rfl) rfl (pi_list (pv 1)) (pg_name (i := 2) sc_check_nets.nd rfl (.inl rfl))
      (pss_one (ps_if (pt_cmp (pc_dnotin (hu_of hr) (pv 2) (pv 3)))
        (pss_one (L2N.ps_raise rfl (L2N.takes_of rfl rfl rfl rfl) (pmkN_ownA PySem.F.excBase_ValueError U.xP U.gC U.kC (raises_own U.bC U.tC) rfl (pa_cons (pe_joined (.cons (pe_fmt (pv 2)) (.cons pe_str .nil))) pa_nil))))
        pss_nil))))), ?_⟩
    have hn2 : (namesD d).length ≤ 1000 := hn
    refine ⟨_, rfl, c, d, it, gt, rt, ot, ga, ra, oa, rfl, hc, hn, fun L H1 nL E1 hL => ⟨L, rfl, ⟨_, SqL.of hL⟩, fun Dc nDc => wk_list (K := K) (a := L) (xs := (namesD d).map V.str)
      (fun j H' => Ex H1 H' ∧ ∃ es : List (Key × V), H' Dc = some (.dK es) ∧ es.length ≤ j ∧ ∀ x : Str, (valV es (.inr x)).isSome = decide (x ∈ (namesD d).take j))
      ⟨Ex.new nDc, [], upd_same, Nat.le_refl _, fun x => by rw [List.take_zero]; rfl⟩ (fun j H' _ g => SqL.of (g.1 _ _ hL)) ?_ ?_⟩⟩
    · rintro j x H2 hx ⟨E2, es, hD, hel, hk⟩
      have hj : j < (namesD d).length := by have := (List.getElem?_eq_some_iff.mp hx).1; rw [List.length_map] at this; exact this
      obtain rfl : x = .str (namesD d)[j] := by rw [strV_at hj] at hx; exact (Option.some.inj hx).symm
      refine ⟨rfl, tYes_in ⟨_, rfl, es, .inr (namesD d)[j], rfl, hD, sz_lt (by omega), E2.mut nDc, _, upd_same, Nat.le_trans (length_putK _ _ _) (Nat.succ_le_succ hel), fun x => ?_⟩⟩
      rw [valV_put, List.take_add_one, List.getElem?_eq_getElem hj]
      by_cases e : x = (namesD d)[j]
      · rw [if_pos (by rw [e]), decide_eq_true (by rw [e]; exact List.mem_append.mpr (.inr (List.mem_singleton.mpr rfl)))]; rfl
      · rw [if_neg (fun z => e (Sum.inr.inj z)), hk x, decide_eq_decide]
        exact ⟨fun h => List.mem_append.mpr (.inl h), fun h => (List.mem_append.mp h).elim id fun z => absurd (List.mem_singleton.mp z) e⟩
    rintro H2 ⟨E2, es, hD, hel, hk⟩
    rw [List.length_map, List.take_length] at hk
    have e2 := E1.trans E2
    refine ⟨_, rfl, l, rfl, ⟨_, SqL.of (e2 _ _ hl)⟩, for_list (K := K) (a := l) (xs := ns.map V.str)
      (fun i σ H' => Ex H2 H' ∧ (∀ x ∈ ns.take i, x ∈ namesD d) ∧ ∃ z : Option V, σ = [some (.ref c), some (.ref l), z, some (.ref Dc)]) ⟨.refl _, (by rw [List.take_zero]; exact fun _ h => nomatch h), _, rfl⟩ (fun i σ H' _ g => SqL.of (g.1 _ _ (e2 _ _ hl))) ?_ ?_⟩
    · rintro i x σ H3 hx ⟨E3, hall, z, rfl⟩
      have hi : i < ns.length := by have := (List.getElem?_eq_some_iff.mp hx).1; rw [List.length_map] at this; exact this
      obtain rfl : x = .str ns[i] := by rw [strV_at hi] at hx; exact (Option.some.inj hx).symm
      refine ⟨_, rfl, _, rfl, Dc, _, rfl, DGet.k (k := Sum.inr ns[i]) (E3 _ _ hD), _, rfl, ?_⟩
      rw [hk]
      cases hm : decide (ns[i] ∈ namesD d) with
      | true =>
        refine iteF ⟨E3, fun x hx => ?_, _, rfl⟩
        rw [List.take_add_one, List.getElem?_eq_getElem hi] at hx
        rcases List.mem_append.mp hx with z | z
        · exact hall x z
        · rw [List.mem_singleton.mp z]; exact of_decide_eq_true hm
      | false =>
        have hlen := hsm _ (List.getElem_mem hi)
        have hno := of_decide_eq_false hm
        have e1 : (Str.empty ++ ns[i]).length = ns[i].length := by
          rw [len_tl, tl_append, List.length_append, len_tl ns[i]]
          exact Nat.zero_add _
        refine iteT ⟨_, rfl, .inl ⟨ns[i], rfl, sz_of (by omega), ns[i], rfl, sz_of (by omega), " is not a net", rfl, sz_of ?_, (by show 1 ≤ sizeLine; decide), ?_⟩⟩
        · rw [len_tl, tl_append, List.length_append, ← len_tl (Str.empty ++ ns[i]), e1]
          have : (tl (" is not a net" : Str)).length = 13 := by decide +kernel
          omega
        · exact q2 ⟨ns[i], List.getElem_mem hi, hno⟩ H3 (e2.trans E3)
    · rintro σ H3 ⟨E3, hall, z, rfl⟩
      rw [List.length_map, List.take_length] at hall
      exact q1 hall H3 (e2.trans E3)
end
end G
namespace G
open PySem PySem.Spec PyProof.Rows L2 Evl TL
structure TxtGr (mg : Str → Option Value) : Prop where
  enumerate : mg "enumerate" = none
/-- few gates, their names apart -/
structure GN (d : CircD) : Prop where
  nd : (gnames d).Nodup
  few : d.gates.length ≤ 200
  fewp : ∀ g ∈ d.gates, g.pins.length ≤ 100
theorem need_at {d : CircD} {k : Nat} {g : GateD} (h : d.gates[k]? = some g) : (needN d).getD k [] = (g.pins.filter fun x => decide (x ∈ gnames d)).map fun x => (gnames d).idxOf x := by
  unfold needN
  rw [List.getD_eq_getElem?_getD, List.getElem?_map, h]; rfl
theorem need_len (d : CircD) : (needN d).length = d.gates.length := List.length_map _
theorem need_lt {d : CircD} : ∀ k o, k < (needN d).length → o ∈ (needN d).getD k [] → o < (needN d).length := fun k o hk ho => by
  rw [need_len] at hk ⊢
  rw [need_at (List.getElem?_eq_getElem hk)] at ho
  obtain ⟨x, hx, rfl⟩ := List.mem_map.mp ho
  have := List.idxOf_lt_length_iff.mpr (of_decide_eq_true (List.mem_filter.mp hx).2)
  have e : (gnames d).length = d.gates.length := List.length_map _
  omega
section
variable {P : Program} {w : World} {K : PySem.W.Frag} {mg : Str → Option Value} {base : Heap}
theorem place_step {ns : List Str} {j : Nat} {n : Str} (nd : ns.Nodup) (hn : ns[j]? = some n) (x : Str) (f : Option V) (hf : f = if x ∈ ns.take j then some (.int (((ns.take j).idxOf x : Nat) : Int)) else none) :
    (if (Sum.inr x : Key) = Sum.inr n then some (V.int (j : Nat)) else f) = if x ∈ ns.take (j + 1) then some (.int (((ns.take (j + 1)).idxOf x : Nat) : Int)) else none := by
  have hj := (List.getElem?_eq_some_iff.mp hn).1
  have hno : n ∉ ns.take j := fun z => by
    obtain ⟨i, hi, e⟩ := List.getElem_of_mem z
    rw [List.length_take] at hi
    rw [List.getElem_take] at e
    obtain ⟨h1, h2⟩ := List.getElem?_eq_some_iff.mp hn
    have := (List.getElem_inj nd).mp (e.trans h2.symm)
    omega
  rw [take_snoc1 hn, List.idxOf_append]
  by_cases e : x = n
  · subst e
    rw [if_pos rfl, if_pos (List.mem_append_right _ (List.mem_singleton.mpr rfl)), if_neg hno, List.length_take, Nat.min_eq_left (Nat.le_of_lt hj)]
    have : [x].idxOf x = 0 := by simp
    rw [this, Nat.zero_add]
  · rw [if_neg fun z => e (Sum.inr.inj z), hf]
    by_cases h : x ∈ ns.take j
    · rw [if_pos h, if_pos (List.mem_append_left _ h), if_pos h]
    · rw [if_neg h, if_neg fun z => (List.mem_append.mp z).elim h fun y => e (List.mem_singleton.mp y)]
def spGates : Sp := fun vs H Q _ => ∃ (gt : Addr) (d : CircD) (ga : List Addr), vs = [.ref gt] ∧ H gt = some (.tup (ga.map V.ref)) ∧ All2 (GateAt H) ga d.gates ∧ GN d ∧ ∀ (q : Addr) (na : List Addr) (H' : Hp), Ex H H' → H' q = some (.lst (na.map V.ref)) → All2 (fun b l => H' b = some (.lst (natsV l))) na (needN d) → Q (.ref q) H'
theorem sc_gates_read : FnScope ["gates", "places", "g", "gate", "net"] ["gates"] (defScope s_gates_read) := ⟨rfl, rfl, rfl, by decide +kernel, rfl, by decide +kernel, by decide +kernel⟩
theorem ok_gates_read (D : Dfd K mg "_gates_read" s_gates_read ["gates"]) (T : TxtGr mg) : Has P w K mg base 1 "_gates_read" ["gates"] spGates := by
  refine D.has fun f fd F => F.ok sc_gates_read (fun vs H Q E h => ?_) (fun cdv A outer s H vs Q E hr h => ?_)
  · obtain ⟨gt, d, ga, rfl, _⟩ := h
    rfl
  · obtain ⟨gt, d, ga, rfl, hg, hA, hN, q⟩ := h
    refine ⟨_, (pss_cons (ps_set (i := 1) sc_gates_read.nd rfl (.inr rfl) (pe_dc (own := [("g", 2), ("gate", 3)]) (g := gTup K 2 (gCons (gName 2) (gCons (gName 3) gNil))) (tt := tYes) rfl sc_gates_read.nd (pi_enumT (by rfl) T.enumerate (pa_cons (pv 0) pa_nil)) (blkOk_by (N := ["gates", "places", "g", "gate", "net"]) (sc := defScope s_gates_read) (own := [("g", 2), ("gate", 3)]) (by decide +kernel)) (fun _ _ _ _ _ => (pg_tup rfl (pgs_cons (pg_name (i := 2) sc_gates_read.nd rfl (.inl rfl)) (pgs_cons (pg_name (i := 3) sc_gates_read.nd rfl (.inl rfl)) pgs_nil)))) (fun _ _ _ _ _ => pts_nil) (fun _ _ _ _ _ => (pe_ix (kIxT (K := K) rfl) (pv 3) pe_int (fun _ _ => rfl))) (fun _ _ _ _ _ => (pv 2))))
    (pss_one (ps_ret (pe_lc (own := [("gate", 3)]) (g := gName 3) (tt := tYes) rfl sc_gates_read.nd (pi_tup (pv 0)) (blkOk_by (N := ["gates", "places", "g", "gate", "net"]) (sc := defScope s_gates_read) (own := [("gate", 3)]) (by decide +kernel)) (fun _ _ _ _ _ => (pg_name (i := 3) sc_gates_read.nd rfl (.inl rfl))) (fun _ _ _ _ _ => pts_nil) (fun _ _ _ _ _ => (pe_lc (own := [("net", 4)]) (g := gName 4) (tt := _) rfl sc_gates_read.nd (kPiT (K := K) rfl (pe_ix (kIxT (K := K) rfl) (pv 3) pe_int (fun _ _ => rfl))) (blkOk_by (own := [("net", 4)]) (by kernel_rfl)) (fun _ _ _ _ _ => (pg_name (i := 4) sc_gates_read.nd rfl (.inl rfl))) (fun _ _ _ _ _ => pts_one (pt_cmp (pc_din (hu_of hr) (pv 4) (pv 1)))) (fun _ _ _ _ _ => (pe_dget (hu_of hr) (pv 1) (pv 4) (fun _ _ => rfl))))))))), ?_⟩
    have hgl : (ga.map V.ref).length = d.gates.length := by rw [List.length_map, hA.1]
    have hnl : (gnames d).length = d.gates.length := List.length_map _
    have hfew := hN.few
    have ndg : (gnames d).Nodup := hN.nd
    have hname : ∀ (k : Nat) (g : GateD), d.gates[k]? = some g → (gnames d)[k]? = some g.name := fun k g hk => by unfold gnames; rw [List.getElem?_map, hk]; rfl
    -- where each stands
    refine ⟨_, rfl, gt, _, rfl, SqT.of hg, fun Dc nDc => wk_it walk_enumT (fun j H' => Ex H H' ∧ ∃ es : List (Key × V), H' Dc = some (.dK es) ∧ es.length ≤ j ∧ ∀ x : Str, valV es (.inr x) = if x ∈ (gnames d).take j then some (.int ((((gnames d).take j).idxOf x : Nat) : Int)) else none)
      ⟨Ex.new nDc, [], upd_same, Nat.le_refl _, fun x => by rw [List.take_zero]; rfl⟩ (fun j H' _ g => SqT.of (g.1 _ _ hg)) ?_ ?_⟩
    · rintro j x H1 H2 hj ⟨E1, es, hD, hel, hk⟩ ⟨T1, x0, y0, rfl, nT, rfl, hx0, hy0⟩
      rw [hgl] at hj
      cases hx0
      obtain ⟨b, hb, rfl⟩ := refs_get hy0
      obtain ⟨g, hgg, t, pt, rt, rla, hgt, _⟩ := hA.at_ hb
      have E2 : Ex H1 (upd H1 T1 (.tup [.int (j : Nat), .ref b])) := Ex.new nT
      refine ⟨T1, _, rfl, SqT.of upd_same, rfl, _, _, rfl, _, _, rfl, rfl, rfl, tYes_in ?_⟩
      simp only [wipe, _root_.L2.start, List.map_cons, List.map_nil, List.length_cons, List.length_nil, Nat.reduceAdd, Nat.reduceSub, List.replicate_succ, List.replicate_zero, List.cons_append, List.nil_append, List.set_cons_zero, List.set_cons_succ]
      have hD2 := E2 _ _ hD
      generalize upd H1 T1 (.tup [.int (j : Nat), .ref b]) = H2 at *
      refine ⟨_, rfl, _, _, _, _, rfl, rfl, SqT.of ((E1.trans E2) _ _ hgt), atI_nat (j := 0) rfl, _, rfl, es, .inr g.name, rfl, hD2, sz_lt (by omega), (E1.trans E2).mut nDc, _, upd_same, Nat.le_trans (length_putK _ _ _) (Nat.succ_le_succ hel), fun x => ?_⟩
      rw [valV_put]
      exact place_step ndg (hname j g hgg) x _ (hk x)
    rintro H1 ⟨E1, es, hD, hel, hk⟩
    rw [hgl, ← hnl, List.take_length] at hk
    have hneed : ∀ (k : Nat) (g : GateD), d.gates[k]? = some g → (needN d)[k]? = some ((g.pins.filter fun x => decide (x ∈ gnames d)).map fun x => (gnames d).idxOf x) := fun k g hk => by unfold needN; rw [List.getElem?_map, hk]; rfl
    have hg1 := E1 _ _ hg
    refine ⟨_, rfl, gt, rfl, ⟨_, SqT.of hg1⟩, fun L nL => wk_tup (K := K) (a := gt) (xs := ga.map V.ref) (fun j H' => Ex H1 H' ∧ ∃ na : List Addr, H' L = some (.lst (na.map V.ref)) ∧ All2 (fun b l => hid L H' b = some (.lst (natsV l))) na ((needN d).take j)) ⟨Ex.new nL, [], upd_same, .nil⟩ (fun j H' _ z => SqT.of (z.1 _ _ hg1)) ?_ ?_⟩
    · rintro j y H2 hy ⟨E2, na, hL, hna⟩
      obtain ⟨b, hb, rfl⟩ := refs_get hy
      obtain ⟨g, hgg, t, pt, rt, rla, hgt, _, hgp, _⟩ := hA.at_ hb
      have hj : j < d.gates.length := (List.getElem?_eq_some_iff.mp hgg).1
      have hp3 := hN.fewp g (List.mem_of_getElem? hgg)
      have E02 := E1.trans E2
      refine ⟨rfl, tYes_in ?_⟩
      simp only [wipe, _root_.L2.start, List.map_cons, List.map_nil, List.length_cons, List.length_nil, Nat.reduceAdd, Nat.reduceSub, List.replicate_succ, List.replicate_zero, List.cons_append, List.nil_append, List.set_cons_zero, List.set_cons_succ]
      refine ⟨_, rfl, _, _, _, _, rfl, rfl, SqT.of (E02 _ _ hgt), atI_nat (j := 2) rfl, pt, rfl, ⟨_, SqT.of (E02 _ _ hgp)⟩, fun L2 nL2 => wk_tup (K := K) (a := pt) (xs := g.pins.map V.str) (fun i H' => Ex H2 H' ∧ H' L2 = some (.lst (natsV (((g.pins.take i).filter fun x => decide (x ∈ gnames d)).map fun x => (gnames d).idxOf x)))) ⟨Ex.new nL2, upd_same⟩ (fun i H' _ z => SqT.of ((E02.trans z.1) _ _ hgp)) ?_ ?_⟩
      · rintro i y H3 hy ⟨E3, hL2⟩
        obtain ⟨p, hp, rfl⟩ : ∃ p, g.pins[i]? = some p ∧ y = .str p := by
          rw [List.getElem?_map] at hy
          cases e : g.pins[i]? with
          | none => rw [e] at hy; cases hy
          | some p => rw [e] at hy; cases hy; exact ⟨p, rfl, rfl⟩
        have hD3 := (E2.trans E3) _ _ hD
        have hfl : (((g.pins.take i).filter fun x => decide (x ∈ gnames d)).map fun x => (gnames d).idxOf x).length ≤ 100 := by
          rw [List.length_map]
          have h1 := List.length_filter_le (fun x => decide (x ∈ gnames d)) (g.pins.take i)
          rw [List.length_take] at h1
          omega
        refine ⟨rfl, ?_⟩
        simp only [wipe, _root_.L2.start, List.map_cons, List.map_nil, List.length_cons, List.length_nil, Nat.reduceAdd, Nat.reduceSub, List.replicate_succ, List.replicate_zero, List.cons_append, List.nil_append, List.set_cons_zero, List.set_cons_succ]
        refine ⟨_, rfl, _, rfl, Dc, _, rfl, DGet.k (k := Sum.inr p) hD3, _, rfl, ?_⟩
        rw [hk]
        by_cases hin : p ∈ gnames d
        · rw [if_pos hin]
          have hg2 : DGet H3 Dc (kV (Sum.inr p)) (some (.int (((gnames d).idxOf p : Nat) : Int))) := by
            have := DGet.k (k := Sum.inr p) hD3
            rw [hk, if_pos hin] at this
            exact this
          refine iteT ⟨_, rfl, _, rfl, Dc, _, rfl, hg2, _, hL2, sz_lt (by rw [nats_len]; omega), E3.mut nL2, ?_⟩
          rw [upd_same, take_snoc1 hp, List.filter_append, List.map_append, ← nats_snoc]
          rw [List.filter_cons, decide_eq_true hin, if_pos rfl]; rfl
        · rw [if_neg hin]
          refine iteF ⟨E3, ?_⟩
          rw [hL2, take_snoc1 hp, List.filter_append, List.map_append, List.filter_cons, decide_eq_false hin, if_neg Bool.false_ne_true, List.filter_nil, List.map_nil, List.append_nil]
      rintro H3 ⟨E3, hL2⟩
      rw [List.length_map, List.take_length] at hL2
      have hL3 := E3 _ _ hL
      have n2L : L2 ≠ L := (ne_of_none hL nL2).symm
      refine ⟨_, hL3, sz_lt (by rw [List.length_map, hna.1, List.length_take]; unfold needN; rw [List.length_map]; omega), (E2.trans E3).mut nL, na ++ [L2], by rw [upd_same, List.map_append]; rfl, ?_⟩
      rw [hid_upd, take_snoc1 (hneed j g hgg)]
      exact (hna.imp fun _ _ z => by rw [hid_ne (hid_neq z)]; exact E3 _ _ (hid_get z)).snoc (by rw [hid_ne n2L]; exact hL2)
    rintro H2 ⟨E2, na, hL, hna⟩
    have hnd : (needN d).length = d.gates.length := by unfold needN; rw [List.length_map]
    rw [hgl, ← hnd, List.take_length] at hna
    exact q L na H2 (E1.trans E2) hL (hna.imp fun _ _ z => hid_get z)
end
end G
namespace G
open PySem PySem.Spec PyProof.Rows L2 Evl TL
/-! ## the checks of a circuit -/
theorem fs5 {a b n : Str} (ha : a.length ≤ 100) (hb : b.length ≤ 100) (hn : n.length ≤ 1000) : (Str.empty ++ a).length ≤ sizeLine ∧ ((Str.empty ++ a) ++ n).length ≤ sizeLine ∧ (((Str.empty ++ a) ++ n) ++ b).length ≤ sizeLine := by
  have e : ∀ x y : Str, (x ++ y).length = x.length + y.length := fun x y => by rw [len_tl, tl_append, List.length_append, ← len_tl, ← len_tl]
  have e0 : Str.empty.length = 0 := rfl
  refine ⟨sz_of ?_, sz_of ?_, sz_of ?_⟩
  · rw [e, e0]; omega
  · rw [e, e, e0]; omega
  · rw [e, e, e, e0]; omega
theorem perm_in : ∀ {l ks : List Str}, l.Nodup → (∀ x ∈ l, x ∈ ks) → ks.length = l.length → ks.Perm l
  | [], ks, _, _, h => by rw [List.length_eq_zero_iff.mp h]
  | x :: l, ks, d, m, h => by
    obtain ⟨d1, d2⟩ := List.nodup_cons.mp d
    have hx := m x List.mem_cons_self
    refine (List.perm_cons_erase hx).trans ((perm_in d2 (fun y hy => (List.mem_erase_of_ne fun e : y = x => d1 (e ▸ hy)).mpr (m y (List.mem_cons_of_mem _ hy))) ?_).cons x)
    rw [List.length_erase_of_mem hx, h]; rfl
/-- a set of texts has fewer members only where a text stands twice -/
theorem set_nd {l ns : List Str} (nd : l.Nodup) (hm : ∀ x, x ∈ l ↔ x ∈ ns) (hl : l.length ≤ ns.length) : ¬ l.length < ns.length ↔ ns.Nodup := by
  constructor
  · intro h
    exact (perm_in nd (fun x hx => (hm x).mp hx) (by omega)).symm.nodup_iff.mp nd
  · intro h
    have := (perm_in h (fun x hx => (hm x).mpr hx) |> fun f => f)
    intro hlt
    have hp : ∀ (a b : List Str), a.Nodup → (∀ x ∈ a, x ∈ b) → a.length ≤ b.length := fun a => by
      induction a with
      | nil => intro b _ _; exact Nat.zero_le _
      | cons x a ih =>
        intro b d m
        obtain ⟨d1, d2⟩ := List.nodup_cons.mp d
        have hx := m x List.mem_cons_self
        have := ih (b.erase x) d2 fun y hy => (List.mem_erase_of_ne fun e : y = x => d1 (e ▸ hy)).mpr (m y (List.mem_cons_of_mem _ hy))
        rw [List.length_erase_of_mem hx] at this
        have := List.length_pos_of_mem hx
        rw [List.length_cons]; omega
    have := hp ns l h fun x hx => (hm x).mpr hx
    omega
def okR (r : Int × Int) : Prop := 0 ≤ r.1 ∧ r.1 + 2 ≤ r.2
structure TxtC (mg : Str → Option Value) : Prop where
  len : mg "len" = none
  set : mg "set" = none
section
variable {P : Program} {w : World} {K : PySem.W.Frag} {mg : Str → Option Value} {base : Heap}
def spPin (R : Addr) : Sp := fun vs H Q E => ∃ (a : Addr) (r : Int × Int), vs = [.ref a] ∧ IntsAt H a r ∧ (okR r → Q .non H) ∧ (¬ okR r → ∀ H', Ex H H' → E (.ref R) none H')
theorem sc_check_pin_range : FnScope ["pair", "low", "high"] ["pair"] (defScope s_check_pin_range) := ⟨rfl, rfl, rfl, by decide +kernel, rfl, by decide +kernel, by decide +kernel⟩
theorem ok_check_pin_range {R : Addr} (D : Dfd K mg "check_pin_range" s_check_pin_range ["pair"]) (UB : ExcT K mg "BadRange" R) (g : ∃ t, mg "LEAST_SPREAD" = some (.int 2 t)) : HasN P w K mg base 1 "check_pin_range" ["pair"] (spPin R) := by
  obtain ⟨t, g_LEAST_SPREAD⟩ := g
  obtain ⟨f, fd, F, gf, bf⟩ := D
  refine ⟨f, fd, F.okN sc_check_pin_range (fun vs H Q E h => ?_) (fun cdv A outer s H vs Q E hr h => ?_), gf, F.kp, bf⟩
  · obtain ⟨a, r, rfl, _⟩ := h
    rfl
  · obtain ⟨a, r, rfl, ha, q1, q2⟩ := h
    refine ⟨_, (pss_cons (ps_asg (pv 0) (pg_tup rfl (pgs_cons (pg_name (i := 1) sc_check_pin_range.nd rfl (.inl rfl)) (pgs_cons (pg_name (i := 2) sc_check_pin_range.nd rfl (.inl rfl)) pgs_nil))))
    (pss_one (ps_if (PW.pt (pw_or (pt_cmpR op_lt (pv 1) pe_int (nomark _)) (pw_or1 (pt_cmpR op_gt (pe_op op_add (pv 1) (gInt rfl g_LEAST_SPREAD)) (pv 2) (nomark _)))))
      (pss_one (L2N.ps_raise rfl (L2N.takes_of rfl rfl rfl rfl) (pmkN_ownA PySem.F.excBase_ValueError UB.xP UB.gC UB.kC (raises_own UB.bC UB.tC) rfl (pa_cons pe_str pa_nil))))
      pss_nil))), ?_⟩
    refine ⟨_, rfl, a, _, rfl, SqT.of ha, rfl, _, _, rfl, _, _, rfl, rfl, ?_⟩
    simp only [wipe, _root_.L2.start, List.map_cons, List.map_nil, List.length_cons, List.length_nil, Nat.reduceAdd, Nat.reduceSub, List.replicate_succ, List.replicate_zero, List.cons_append, List.nil_append, List.set_cons_zero, List.set_cons_succ]
    refine ⟨_, rfl, _, _, rfl, rfl, _, rfl, ite2 (fun c => ?_) (fun c => ?_)⟩
    · refine iteT ⟨(by show 1 ≤ sizeLine; decide), q2 (fun z => ?_) H (Ex.refl _)⟩
      have := of_decide_eq_true c; have := z.1; omega
    · refine ⟨_, rfl, _, _, rfl, rfl, _, rfl, _, _, rfl, rfl, _, rfl, ite2 (fun c2 => ?_) (fun c2 => ?_)⟩
      · refine ⟨(by show 1 ≤ sizeLine; decide), q2 (fun z => ?_) H (Ex.refl _)⟩
        have := of_decide_eq_true c2; have := z.2; omega
      · refine q1 ⟨?_, ?_⟩
        · have : ¬ r.1 < 0 := fun z => c (decide_eq_true z)
          omega
        · have : ¬ r.1 + 2 > r.2 := fun z => c2 (decide_eq_true z)
          omega
def NmD (d : CircD) : Prop := (namesD d).Nodup ∧ (d.outs.map (·.1)).Nodup
def spCkN (Cn : Addr) : Sp := fun vs H Q E => ∃ (c : Addr) (d : CircD) (it gt rt ot : Addr) (ga ra oa : List Addr), vs = [.ref c] ∧ CircAt H c d it gt rt ot ga ra oa ∧ (namesD d).length ≤ 1000 ∧ d.outs.length ≤ 1000 ∧ (NmD d → ∀ H', Ex H H' → Q .non H') ∧ (¬ NmD d → ∀ H', Ex H H' → E (.ref Cn) none H')
theorem sc_check_names : FnScope ["circuit", "ports", "names", "port", "_"] ["circuit"] (defScope s_check_names) := ⟨rfl, rfl, rfl, by decide +kernel, rfl, by decide +kernel, by decide +kernel⟩
theorem ok_check_names {Cn : Addr} (D : Dfd K mg "_check_names" s_check_names ["circuit"]) (UN : ExcT K mg "NameClash" Cn) (T : TxtC mg) (C1 : Has P w K mg base 1 "_all_names" ["circuit"] spNames) : HasN P w K mg base 2 "_check_names" ["circuit"] (spCkN Cn) := by
  obtain ⟨f_all_names, d_all_names, G_all_names, g_all_names, k_all_names, b_all_names⟩ := C1
  obtain ⟨f, fd, F, gf, bf⟩ := D
  refine ⟨f, fd, F.okN sc_check_names (fun vs H Q E h => ?_) (fun cdv A outer s H vs Q E hr h => ?_), gf, F.kp, bf⟩
  · obtain ⟨c, d, it, gt, rt, ot, ga, ra, oa, rfl, _⟩ := h
    rfl
  · obtain ⟨c, d, it, gt, rt, ot, ga, ra, oa, rfl, hc, hn, ho, q1, q2⟩ := h
    refine ⟨_, (pss_cons (ps_setLc (i := 1) (own := [("port", 3), ("_", 4)]) (g := gTup K 2 (gCons (gName 3) (gCons (gName 4) gNil))) (tt := tYes) rfl sc_check_names.nd rfl rfl (sw_true rfl rfl rfl (by decide +kernel)) (pi_tup (pe_ix ix_tup (pv 0) pe_int (fun _ _ => rfl))) (blkOk_by (N := ["circuit", "ports", "names", "port", "_"]) (sc := defScope s_check_names) (own := [("port", 3), ("_", 4)]) (by decide +kernel)) (fun _ _ _ _ _ => (pg_tup rfl (pgs_cons (pg_name (i := 3) sc_check_names.nd rfl (.inl rfl)) (pgs_cons (pg_name (i := 4) sc_check_names.nd rfl (.inl rfl)) pgs_nil)))) (fun _ _ _ _ _ => pts_nil) (fun _ _ _ _ _ => (pv 3)))
    (pss_one (ps_for (passes_of rfl) rfl (pi_tup (pe_tup (pa_cons (pe_call G_all_names (hr.mono (by omega)) (by rfl) g_all_names k_all_names b_all_names .nil pass0 (pa_cons (pv 0) pa_nil)) (pa_cons (pv 1) pa_nil)))) (pg_name (i := 2) sc_check_names.nd rfl (.inl rfl))
      (pss_one (ps_if (pt_cmpR op_lt (pe_callB XS.cr_lenX (by rfl) T.len (by decide +kernel) (pa_cons (pe_callTy (XS.cr_setX rfl) (by rfl) T.set (by decide +kernel) (pa_cons (pv 2) pa_nil)) pa_nil)) (pe_callB call_len_seq (by rfl) T.len (by decide +kernel) (pa_cons (pv 2) pa_nil)) (nomark _))
        (pss_one (L2N.ps_raise rfl (L2N.takes_of rfl rfl rfl rfl) (pmkN_ownA PySem.F.excBase_ValueError UN.xP UN.gC UN.kC (raises_own UN.bC UN.tC) rfl (pa_cons pe_str pa_nil))))
        pss_nil))))), ?_⟩
    refine ⟨_, rfl, _, _, _, _, rfl, rfl, SqT.of hc.top, atI_nat (j := 3) rfl, ot, rfl, ⟨_, SqT.of hc.ots⟩, fun PL nPL => wk_tup (K := K) (a := ot) (xs := oa.map V.ref)
      (fun j H' => Ex H H' ∧ H' PL = some (.lst (((d.outs.take j).map fun o => o.1).map V.str))) ⟨Ex.new nPL, upd_same⟩ (fun j H' _ z => SqT.of (z.1 _ _ hc.ots)) ?_ ?_⟩
    · rintro j x H2 hx ⟨E2, hL⟩
      obtain ⟨b, hb, rfl⟩ := refs_get hx
      obtain ⟨o, hoj, hot⟩ := hc.outs.at_ hb
      have hj : j < d.outs.length := (List.getElem?_eq_some_iff.mp hoj).1
      refine ⟨b, _, rfl, SqT.of (E2 _ _ hot), rfl, _, _, rfl, _, _, rfl, rfl, (by rw [wipe_set (by decide), wipe_set (by decide), wipe_wipe]), tYes_in ?_⟩
      simp only [wipe, _root_.L2.start, List.map_cons, List.map_nil, List.length_cons, List.length_nil, Nat.reduceAdd, Nat.reduceSub, List.replicate_succ, List.replicate_zero, List.cons_append, List.nil_append, List.set_cons_zero, List.set_cons_succ]
      refine ⟨_, rfl, _, hL, sz_lt (by rw [List.length_map, List.length_map, List.length_take]; omega), E2.mut nPL, ?_⟩
      rw [upd_same, take_snoc1 hoj, List.map_append, List.map_append]; rfl
    rintro H2 ⟨E2, hPL⟩
    rw [List.length_map, hc.outs.1, List.take_length] at hPL
    simp only [wipe, _root_.L2.start, List.map_cons, List.map_nil, List.length_cons, List.length_nil, Nat.reduceAdd, Nat.reduceSub, List.replicate_succ, List.replicate_zero, List.cons_append, List.nil_append, List.set_cons_zero, List.set_cons_succ]
    refine ⟨_, rfl, c, d, it, gt, rt, ot, ga, ra, oa, rfl, hc.te (.of E2), hn, fun NL H3 nNL E3 hNL => ⟨_, rfl, (by show 2 ≤ sizeLine; decide), fun tp ntp => ?_⟩⟩
    have E4 := E3.trans (Ex.new (o := .tup [.ref NL, .ref PL]) ntp)
    have htp : upd H3 tp (.tup [.ref NL, .ref PL]) tp = some (.tup (([NL, PL] : List Addr).map V.ref)) := upd_same
    have hNL4 := Ex.new (o := .tup [.ref NL, .ref PL]) ntp _ _ hNL
    have hPL4 := E4 _ _ hPL
    generalize upd H3 tp (.tup [.ref NL, .ref PL]) = H4 at *
    have E04 := E2.trans E4
    have hA : All2 (fun b l => H4 b = some (.lst ((l : List Str).map V.str))) [NL, PL] [namesD d, d.outs.map fun o => o.1] := .cons hNL4 (.cons hPL4 .nil)
    have hlen : ∀ l ∈ [namesD d, d.outs.map fun o => o.1], l.length ≤ 1000 := fun l hl => by
      simp only [List.mem_cons, List.not_mem_nil, or_false] at hl
      rcases hl with e | e <;> rw [e]
      · exact hn
      · rw [List.length_map]; exact ho
    refine ⟨tp, rfl, ⟨_, SqT.of htp⟩, for_tup (K := K) (a := tp) (xs := ([NL, PL] : List Addr).map V.ref)
      (fun i σ H' => Ex H4 H' ∧ (∀ l ∈ [namesD d, d.outs.map fun o => o.1].take i, l.Nodup) ∧ ∃ z2 z3 z4 : Option V, σ = [some (.ref c), some (.ref PL), z2, z3, z4])
      ⟨.refl _, (by rw [List.take_zero]; exact fun _ h => nomatch h), _, _, _, rfl⟩ (fun i σ H' _ g => SqT.of (g.1 _ _ htp)) ?_ ?_⟩
    · rintro i x σ H5 hx ⟨E5, hall, z2, z3, z4, rfl⟩
      obtain ⟨b, hb, rfl⟩ := refs_get hx
      obtain ⟨l, hl, hbl⟩ := hA.at_ hb
      have hlm := List.mem_of_getElem? hl
      have hl1 := hlen l hlm
      refine ⟨_, rfl, b, l, rfl, .inl (SqL.of (E5 _ _ hbl)), by omega, fun p m nd hm hle np => ⟨p, m, rfl, upd_same, _, rfl, _, _, rfl, .inl (SqL.of (Ex.new np _ _ (E5 _ _ hbl))), _, _, rfl, rfl, _, rfl, ?_⟩⟩
      rw [List.length_map]
      have hx := set_nd nd hm hle
      refine ite2 (fun c1 => ?_) (fun c1 => ?_)
      · have hlt : m.length < l.length := by have := of_decide_eq_true c1; omega
        refine ⟨(by show 1 ≤ sizeLine; decide), q2 (fun z => hx.mpr ?_ hlt) _ (E04.trans (E5.trans (Ex.new np)))⟩
        simp only [List.mem_cons, List.not_mem_nil, or_false] at hlm
        rcases hlm with e | e <;> rw [e]
        · exact z.1
        · exact z.2
      · have hlt : ¬ m.length < l.length := fun z => c1 (decide_eq_true (by omega))
        refine ⟨E5.trans (Ex.new np), fun l' hl' => ?_, _, _, _, rfl⟩
        rw [take_snoc1 hl] at hl'
        rcases List.mem_append.mp hl' with z | z
        · exact hall l' z
        · rw [List.mem_singleton.mp z]; exact hx.mp hlt
    · rintro σ H5 ⟨E5, hall, z2, z3, z4, rfl⟩
      exact q1 ⟨hall _ (List.mem_cons_self ..), hall _ (List.mem_cons_of_mem _ (List.mem_cons_self ..))⟩ H5 (E04.trans E5)
def CntG (g : GateD) : Prop := g.pins.length ≤ 6 ∧ g.rng.length = g.pins.length ∧ g.tab.length = 2 ^ g.pins.length
def spCkC (Wc : Addr) : Sp := fun vs H Q E => ∃ (b : Addr) (g : GateD), vs = [.ref b] ∧ GateAt H b g ∧ g.name.length ≤ 1000 ∧ (CntG g → Q .non H) ∧ (¬ CntG g → E (.ref Wc) none H)
theorem sc_check_counts : FnScope ["gate", "name", "table", "nets", "ranges"] ["gate"] (defScope s_check_counts) := ⟨rfl, rfl, rfl, by decide +kernel, rfl, by decide +kernel, by decide +kernel⟩
theorem ok_check_counts {Wc : Addr} (D : Dfd K mg "_check_counts" s_check_counts ["gate"]) (UW : ExcT K mg "WrongCount" Wc) (T : TxtC mg) (g : ∃ t, mg "MOST_PINS" = some (.int 6 t)) : HasN P w K mg base 1 "_check_counts" ["gate"] (spCkC Wc) := by
  obtain ⟨t, g_MOST_PINS⟩ := g
  obtain ⟨f, fd, F, gf, bf⟩ := D
  refine ⟨f, fd, F.okN sc_check_counts (fun vs H Q E h => ?_) (fun cdv A outer s H vs Q E hr h => ?_), gf, F.kp, bf⟩
  · obtain ⟨b, g, rfl, _⟩ := h
    rfl
  · obtain ⟨b, g, rfl, hg, hnm, q1, q2⟩ := h
    refine ⟨_, (pss_cons (ps_asg (pv 0) (pg_tup rfl (pgs_cons (pg_name (i := 1) sc_check_counts.nd rfl (.inl rfl)) (pgs_cons (pg_name (i := 2) sc_check_counts.nd rfl (.inl rfl)) (pgs_cons (pg_name (i := 3) sc_check_counts.nd rfl (.inl rfl)) (pgs_cons (pg_name (i := 4) sc_check_counts.nd rfl (.inl rfl)) pgs_nil))))))
    (pss_one (ps_if (PW.pt (pw_or (pt_cmpR op_gt (pe_callB call_len_seq (by rfl) T.len (by decide +kernel) (pa_cons (pv 3) pa_nil)) (gInt rfl g_MOST_PINS) (nomark _)) (pw_or (pt_cmpR op_ne (pe_callB call_len_seq (by rfl) T.len (by decide +kernel) (pa_cons (pv 4) pa_nil)) (pe_callB call_len_seq (by rfl) T.len (by decide +kernel) (pa_cons (pv 3) pa_nil)) (nomark _)) (pw_or1 (pt_cmpR op_ne (pe_callB call_len_seq (by rfl) T.len (by decide +kernel) (pa_cons (pv 2) pa_nil)) (pe_op op_shl pe_int (pe_callB call_len_seq (by rfl) T.len (by decide +kernel) (pa_cons (pv 3) pa_nil))) (nomark _))))))
      (pss_one (L2N.ps_raise rfl (L2N.takes_of rfl rfl rfl rfl) (pmkN_ownA PySem.F.excBase_ValueError UW.xP UW.gC UW.kC (raises_own UW.bC UW.tC) rfl (pa_cons (pe_joined (.cons pe_str (.cons (pe_fmt (pv 1)) (.cons pe_str .nil)))) pa_nil))))
      pss_nil))), ?_⟩
    obtain ⟨tt, pt, rgt, rga, a1, a2, a3, a4, a5⟩ := hg
    have hrl := a5.1
    refine ⟨_, rfl, b, _, rfl, SqT.of a1, rfl, _, _, rfl, _, _, rfl, _, _, rfl, _, _, rfl, rfl, ?_⟩
    simp only [wipe, _root_.L2.start, List.map_cons, List.map_nil, List.length_cons, List.length_nil, Nat.reduceAdd, Nat.reduceSub, List.replicate_succ, List.replicate_zero, List.cons_append, List.nil_append, List.set_cons_zero, List.set_cons_succ]
    obtain ⟨z1, z2, z3⟩ := fs5 (a := "the pins, the ranges and the table of gate ") (b := " do not fit") (n := g.name) (by decide +kernel) (by decide +kernel) hnm
    have raise : ¬ CntG g → E (.ref Wc) none H := q2
    refine ⟨_, rfl, _, _, rfl, .inr (SqT.of a3), _, _, rfl, rfl, _, rfl, ite2 (fun c1 => ?_) (fun c1 => ?_)⟩
    · have h1 : (g.pins.length : Int) > 6 := by have := of_decide_eq_true c1; rw [List.length_map] at this; exact this
      exact iteT ⟨_, rfl, z1, _, rfl, .inl ⟨g.name, rfl, sz_of (by omega), _, rfl, z2, _, rfl, z3, (by show 1 ≤ sizeLine; decide), raise fun z => by have := z.1; omega⟩⟩
    have h6 : g.pins.length ≤ 6 := by
      have : ¬ ((g.pins.map V.str).length : Int) > 6 := fun z => c1 (decide_eq_true z)
      rw [List.length_map] at this; omega
    refine ⟨_, rfl, _, _, rfl, .inr (SqT.of a4), _, rfl, _, _, rfl, .inr (SqT.of a3), rfl, _, rfl, ite2 (fun c2 => ?_) (fun c2 => ?_)⟩
    · refine iteT ⟨_, rfl, z1, _, rfl, .inl ⟨g.name, rfl, sz_of (by omega), _, rfl, z2, _, rfl, z3, (by show 1 ≤ sizeLine; decide), raise fun z => ?_⟩⟩
      rw [List.length_map, List.length_map, hrl, z.2.1, decide_eq_true rfl] at c2
      cases c2
    have h2 : g.rng.length = g.pins.length := by
      rw [List.length_map, List.length_map, hrl, Bool.not_eq_true, Bool.not_eq_false', decide_eq_true_iff, V.int.injEq] at c2
      omega
    refine ⟨_, rfl, _, _, rfl, .inr (SqT.of a2), _, rfl, _, _, rfl, .inr (SqT.of a3), _, _, rfl, rfl, ⟨Int.natCast_nonneg _, (by rw [List.length_map]; omega), by decide⟩, rfl, _, rfl, ite2 (fun c3 => ?_) (fun c3 => ?_)⟩
    · refine ⟨_, rfl, z1, _, rfl, .inl ⟨g.name, rfl, sz_of (by omega), _, rfl, z2, _, rfl, z3, (by show 1 ≤ sizeLine; decide), raise fun z => ?_⟩⟩
      rw [List.length_map, List.length_map, z.2.2] at c3
      have e : ((2 ^ g.pins.length : Nat) : Int) = 1 * 2 ^ (g.pins.length : Int).toNat := by rw [Int.toNat_natCast, Int.one_mul, Int.natCast_pow]; rfl
      rw [e, decide_eq_true rfl] at c3
      cases c3
    · refine q1 ⟨h6, h2, ?_⟩
      rw [List.length_map, List.length_map, Bool.not_eq_true, Bool.not_eq_false', decide_eq_true_iff, V.int.injEq, Int.toNat_natCast, Int.one_mul] at c3
      have e : ((2 ^ g.pins.length : Nat) : Int) = (2 : Int) ^ g.pins.length := by rw [Int.natCast_pow]; rfl
      omega
def RegG (r : RegD) : Prop := ((0 ≤ r.edge.1 ∧ r.edge.1 ≤ r.edge.2) ∧ (0 ≤ r.out.1 ∧ r.out.1 ≤ r.out.2)) ∧ 0 ≤ r.setup ∧ 0 ≤ r.hold ∧ r.hold < r.out.2
def spCkR (Br : Addr) : Sp := fun vs H Q E => ∃ (b : Addr) (r : RegD), vs = [.ref b] ∧ RegAt H b r ∧ r.name.length ≤ 1000 ∧ (RegG r → ∀ H', Ex H H' → Q .non H') ∧ (¬ RegG r → ∀ H', Ex H H' → E (.ref Br) none H')
theorem sc_check_reg : FnScope ["reg", "name", "_", "edge", "out", "setup", "hold", "low", "high"] ["reg"] (defScope s_check_reg) := ⟨rfl, rfl, rfl, by decide +kernel, rfl, by decide +kernel, by decide +kernel⟩
theorem ok_check_reg {Br : Addr} (D : Dfd K mg "check_reg" s_check_reg ["reg"]) (UB : ExcT K mg "BadRange" Br) : HasN P w K mg base 1 "check_reg" ["reg"] (spCkR Br) := by
  obtain ⟨f, fd, F, gf, bf⟩ := D
  refine ⟨f, fd, F.okN sc_check_reg (fun vs H Q E h => ?_) (fun cdv A outer s H vs Q E hr h => ?_), gf, F.kp, bf⟩
  · obtain ⟨b, r, rfl, _⟩ := h
    rfl
  · obtain ⟨b, r, rfl, hg, hnm, q1, q2⟩ := h
    refine ⟨_, (pss_cons (ps_asg (pv 0) (pg_tup rfl (pgs_cons (pg_name (i := 1) sc_check_reg.nd rfl (.inl rfl)) (pgs_cons (pg_name (i := 2) sc_check_reg.nd rfl (.inl rfl)) (pgs_cons (pg_name (i := 3) sc_check_reg.nd rfl (.inl rfl)) (pgs_cons (pg_name (i := 4) sc_check_reg.nd rfl (.inl rfl)) (pgs_cons (pg_name (i := 5) sc_check_reg.nd rfl (.inl rfl)) (pgs_cons (pg_name (i := 6) sc_check_reg.nd rfl (.inl rfl)) (pgs_cons (pg_name (i := 2) sc_check_reg.nd rfl (.inl rfl)) pgs_nil)))))))))
    (pss_cons (ps_for (passes_of rfl) rfl (pi_tup (pe_tup (pa_cons (pv 3) (pa_cons (pv 4) pa_nil)))) (pg_tup rfl (pgs_cons (pg_name (i := 7) sc_check_reg.nd rfl (.inl rfl)) (pgs_cons (pg_name (i := 8) sc_check_reg.nd rfl (.inl rfl)) pgs_nil)))
      (pss_one (ps_if (PW.pt (pw_or (pt_cmpR op_lt (pv 7) pe_int (nomark _)) (pw_or1 (pt_cmpR op_gt (pv 7) (pv 8) (nomark _)))))
        (pss_one (L2N.ps_raise rfl (L2N.takes_of rfl rfl rfl rfl) (pmkN_ownA PySem.F.excBase_ValueError UB.xP UB.gC UB.kC (raises_own UB.bC UB.tC) rfl (pa_cons (pe_joined (.cons pe_str (.cons (pe_fmt (pv 1)) (.cons pe_str .nil)))) pa_nil))))
        pss_nil)))
    (pss_one (ps_if (PW.pt (pw_or (pt_cmpR op_lt (pv 5) pe_int (nomark _)) (pw_or (pt_cmpR op_lt (pv 6) pe_int (nomark _)) (pw_or1 (pt_cmpR op_ge (pv 6) (pe_ix ix_tup (pv 4) pe_int (fun _ _ => rfl)) (nomark _))))))
      (pss_one (L2N.ps_raise rfl (L2N.takes_of rfl rfl rfl rfl) (pmkN_ownA PySem.F.excBase_ValueError UB.xP UB.gC UB.kC (raises_own UB.bC UB.tC) rfl (pa_cons (pe_joined (.cons pe_str (.cons (pe_fmt (pv 1)) (.cons pe_str .nil)))) pa_nil))))
      pss_nil)))), ?_⟩
    obtain ⟨ea, oa, a1, a2, a3⟩ := hg
    obtain ⟨z1, z2, z3⟩ := fs5 (a := "a range of reg ") (b := " is not allowed") (n := r.name) (by decide +kernel) (by decide +kernel) hnm
    obtain ⟨y1, y2, y3⟩ := fs5 (a := "setup or hold of reg ") (b := " is not allowed") (n := r.name) (by decide +kernel) (by decide +kernel) hnm
    refine ⟨_, rfl, b, _, rfl, SqT.of a1, rfl, _, _, rfl, _, _, rfl, _, _, rfl, _, _, rfl, _, _, rfl, _, _, rfl, _, _, rfl, rfl, ?_⟩
    simp only [wipe, _root_.L2.start, List.map_cons, List.map_nil, List.length_cons, List.length_nil, Nat.reduceAdd, Nat.reduceSub, List.replicate_succ, List.replicate_zero, List.cons_append, List.nil_append, List.set_cons_zero, List.set_cons_succ]
    refine ⟨_, rfl, _, rfl, (by show 2 ≤ sizeLine; decide), fun tp ntp => ?_⟩
    have E4 := Ex.new (o := .tup [.ref ea, .ref oa]) ntp
    have htp : upd H tp (.tup [.ref ea, .ref oa]) tp = some (.tup (([ea, oa] : List Addr).map V.ref)) := upd_same
    generalize upd H tp (.tup [.ref ea, .ref oa]) = H4 at *
    have hA : All2 (fun b p => IntsAt H4 b p) [ea, oa] [r.edge, r.out] := .cons (E4 _ _ a2) (.cons (E4 _ _ a3) .nil)
    refine ⟨tp, rfl, ⟨_, SqT.of htp⟩, for_tup (K := K) (a := tp) (xs := ([ea, oa] : List Addr).map V.ref)
      (fun i σ H' => Ex H4 H' ∧ (∀ p ∈ [r.edge, r.out].take i, 0 ≤ p.1 ∧ p.1 ≤ p.2) ∧ ∃ z7 z8 : Option V, σ = [some (.ref b), some (.str r.name), some (.bl r.start), some (.ref ea), some (.ref oa), some (.int r.setup), some (.int r.hold), z7, z8])
      ⟨.refl _, (by rw [List.take_zero]; exact fun _ h => nomatch h), _, _, rfl⟩ (fun i σ H' _ g => SqT.of (g.1 _ _ htp)) ?_ ?_⟩
    · rintro i x σ H5 hx ⟨E5, hall, z7, z8, rfl⟩
      obtain ⟨u, hu, rfl⟩ := refs_get hx
      obtain ⟨p, hp, hup⟩ := hA.at_ hu
      have hpm := List.mem_of_getElem? hp
      have bad : ¬ (0 ≤ p.1 ∧ p.1 ≤ p.2) → ¬ RegG r := fun z y => z (by
        simp only [List.mem_cons, List.not_mem_nil, or_false] at hpm
        rcases hpm with e | e <;> rw [e]
        · exact y.1.1
        · exact y.1.2)
      refine ⟨u, _, rfl, SqT.of (E5 _ _ hup), rfl, _, _, rfl, _, _, rfl, rfl, ?_⟩
      simp only [wipe, _root_.L2.start, List.map_cons, List.map_nil, List.length_cons, List.length_nil, Nat.reduceAdd, Nat.reduceSub, List.replicate_succ, List.replicate_zero, List.cons_append, List.nil_append, List.set_cons_zero, List.set_cons_succ]
      refine ⟨_, rfl, _, _, rfl, rfl, _, rfl, ite2 (fun c1 => ?_) (fun c1 => ?_)⟩
      · exact iteT ⟨_, rfl, z1, _, rfl, .inl ⟨r.name, rfl, sz_of (by omega), _, rfl, z2, _, rfl, z3, (by show 1 ≤ sizeLine; decide), q2 (bad fun z => by have := of_decide_eq_true c1; have := z.1; omega) _ (E4.trans E5)⟩⟩
      · refine ⟨_, rfl, _, rfl, _, _, rfl, rfl, _, rfl, ite2 (fun c2 => ?_) (fun c2 => ?_)⟩
        · exact ⟨_, rfl, z1, _, rfl, .inl ⟨r.name, rfl, sz_of (by omega), _, rfl, z2, _, rfl, z3, (by show 1 ≤ sizeLine; decide), q2 (bad fun z => by have := of_decide_eq_true c2; have := z.2; omega) _ (E4.trans E5)⟩⟩
        · refine ⟨E5, fun p' hp' => ?_, _, _, rfl⟩
          rw [take_snoc1 hp] at hp'
          rcases List.mem_append.mp hp' with z | z
          · exact hall p' z
          · rw [List.mem_singleton.mp z]
            have h1 : ¬ p.1 < 0 := fun z => c1 (decide_eq_true z)
            have h2 : ¬ p.1 > p.2 := fun z => c2 (decide_eq_true z)
            omega
    · rintro σ H5 ⟨E5, hall, z7, z8, rfl⟩
      have hall1 := hall r.edge (List.mem_cons_self ..)
      have hall2 := hall r.out (List.mem_cons_of_mem _ (List.mem_cons_self ..))
      have E45 := E4.trans E5
      refine ⟨_, rfl, _, _, rfl, rfl, _, rfl, ite2 (fun c1 => ?_) (fun c1 => ?_)⟩
      · exact iteT ⟨_, rfl, y1, _, rfl, .inl ⟨r.name, rfl, sz_of (by omega), _, rfl, y2, _, rfl, y3, (by show 1 ≤ sizeLine; decide), q2 (fun z => by have := of_decide_eq_true c1; have := z.2.1; omega) _ E45⟩⟩
      refine ⟨_, rfl, _, _, rfl, rfl, _, rfl, ite2 (fun c2 => ?_) (fun c2 => ?_)⟩
      · exact iteT ⟨_, rfl, y1, _, rfl, .inl ⟨r.name, rfl, sz_of (by omega), _, rfl, y2, _, rfl, y3, (by show 1 ≤ sizeLine; decide), q2 (fun z => by have := of_decide_eq_true c2; have := z.2.2.1; omega) _ E45⟩⟩
      refine ⟨_, rfl, _, rfl, _, _, _, _, rfl, rfl, SqT.of (E45 _ _ a3), atI_nat (j := 1) rfl, _, _, rfl, rfl, _, rfl, ite2 (fun c3 => ?_) (fun c3 => ?_)⟩
      · exact ⟨_, rfl, y1, _, rfl, .inl ⟨r.name, rfl, sz_of (by omega), _, rfl, y2, _, rfl, y3, (by show 1 ≤ sizeLine; decide), q2 (fun z => by have := of_decide_eq_true c3; have := z.2.2.2; omega) _ E45⟩⟩
      · refine q1 ⟨⟨hall1, hall2⟩, ?_, ?_, ?_⟩ _ E45
        · have : ¬ r.setup < 0 := fun z => c1 (decide_eq_true z)
          omega
        · have : ¬ r.hold < 0 := fun z => c2 (decide_eq_true z)
          omega
        · have : ¬ r.hold ≥ r.out.2 := fun z => c3 (decide_eq_true z)
          omega
end
end G
namespace G
open PySem PySem.Spec PyProof.Rows L2 Evl TL
/-! ## a cycle among the gates that are left -/
/-- who is left -/
def lf (n : Nat) (ord : List Nat) : List Bool := (List.range n).map fun k => decide (k ∉ ord)
theorem lf_len (n : Nat) (ord : List Nat) : (lf n ord).length = n := by unfold lf; rw [List.length_map, List.length_range]
theorem lf_at {n k : Nat} (ord : List Nat) (h : k < n) : (lf n ord)[k]? = some (decide (k ∉ ord)) := by unfold lf; rw [List.getElem?_map, List.getElem?_range h]; rfl
theorem lf_nil (n : Nat) : lf n [] = List.replicate n true := by
  refine List.ext_getElem? fun k => ?_
  by_cases h : k < n
  · rw [lf_at [] h, List.getElem?_replicate, if_pos h, decide_eq_true (by intro z; cases z)]
  · rw [List.getElem?_eq_none (by rw [lf_len]; omega), List.getElem?_eq_none (by rw [List.length_replicate]; omega)]
theorem lf_snoc {n g : Nat} (ord : List Nat) : (lf n ord).set g false = lf n (ord ++ [g]) := by
  refine List.ext_getElem? fun k => ?_
  by_cases h : k < n
  · rw [List.getElem?_set, lf_at _ h, lf_at _ h, lf_len]
    by_cases e : g = k
    · subst e
      rw [if_pos rfl, if_pos h, decide_eq_false fun z => z (List.mem_append_right _ (List.mem_singleton.mpr rfl))]
    · rw [if_neg e]
      congr 1
      rw [decide_eq_decide]
      constructor
      · exact fun z y => (List.mem_append.mp y).elim z fun y => e (List.mem_singleton.mp y).symm
      · exact fun z y => z (List.mem_append_left _ y)
  · rw [List.getElem?_eq_none (by rw [List.length_set, lf_len]; omega), List.getElem?_eq_none (by rw [lf_len]; omega)]
theorem lf_V (n : Nat) (ord : List Nat) {g : Nat} : ((lf n ord).map V.bl).set g (.bl false) = (lf n (ord ++ [g])).map V.bl := by rw [← lf_snoc, List.map_set]
/-- a cycle: each needs the next, the last the first -/
structure CycOk (N : List (List Nat)) (ord way : List Nat) : Prop where
  ne : way ≠ []
  nd : way.Nodup
  lt : ∀ k ∈ way, k < N.length
  nx : ∀ i k z, way[i]? = some k → (way ++ [way.headD 0])[i + 1]? = some z → z ∈ N.getD k []
structure Chain (N : List (List Nat)) (ord way : List Nat) (g : Nat) : Prop where
  nd : way.Nodup
  lt : ∀ k ∈ way ++ [g], k < N.length ∧ k ∉ ord
  nx : ∀ i k z, way[i]? = some k → (way ++ [g])[i + 1]? = some z → z ∈ N.getD k []
theorem Chain.step {N : List (List Nat)} {ord way : List Nat} {g z : Nat} (C : Chain N ord way g) (h : g ∉ way) (hz : z ∈ N.getD g []) (hl : z < N.length) (ho : z ∉ ord) : Chain N ord (way ++ [g]) z := by
  refine ⟨List.nodup_append.mpr ⟨C.nd, by simp, fun a ha b hb => fun y => h (by rw [← List.mem_singleton.mp hb, ← y]; exact ha)⟩, fun k hk => ?_, fun i k y hi hy => ?_⟩
  · rcases List.mem_append.mp hk with e | e
    · exact C.lt k e
    · rw [List.mem_singleton.mp e]; exact ⟨hl, ho⟩
  · by_cases hl : i < way.length
    · rw [List.getElem?_append_left hl] at hi
      rw [List.getElem?_append_left (by rw [List.length_append]; show _ < _ + 1; omega)] at hy
      exact C.nx i k y hi hy
    · have hil := (List.getElem?_eq_some_iff.mp hi).1
      rw [List.length_append] at hil
      have : i < way.length + 1 := hil
      have ei : i = way.length := by omega
      subst ei
      rw [List.getElem?_append_right (Nat.le_refl _), Nat.sub_self] at hi
      cases hi
      rw [List.getElem?_append_right (by rw [List.length_append]; exact Nat.le_refl _), List.length_append] at hy
      have e : way.length + 1 - (way.length + [g].length) = 0 := by show way.length + 1 - (way.length + 1) = 0; omega
      rw [e] at hy
      cases hy
      exact hz
theorem Chain.cyc {N : List (List Nat)} {ord way : List Nat} {g : Nat} (C : Chain N ord way g) (h : g ∈ way) : CycOk N ord (way.drop (way.idxOf g)) := by
  have hi := List.idxOf_lt_length_iff.mpr h
  have hg : way[way.idxOf g]? = some g := by rw [List.getElem?_eq_getElem hi]; exact congrArg some (List.getElem_idxOf hi)
  generalize way.idxOf g = i at *
  have hd : way.drop i = g :: way.drop (i + 1) := by
    rw [List.drop_eq_getElem_cons hi]
    congr 1
    exact (List.getElem?_eq_some_iff.mp hg).2
  refine ⟨by rw [hd]; exact List.cons_ne_nil _ _, C.nd.sublist (List.drop_sublist _ _), fun k hk => (C.lt k (List.mem_append_left _ (List.mem_of_mem_drop hk))).1, fun j k z hj hz => ?_⟩
  have e : (way.drop i).headD 0 = g := by rw [hd]; rfl
  rw [e] at hz
  rw [List.getElem?_drop] at hj
  refine C.nx (i + j) k z hj ?_
  have e2 : way.drop i ++ [g] = (way ++ [g]).drop i := by rw [List.drop_append_of_le_length (by omega)]
  rw [e2, List.getElem?_drop] at hz
  rw [← hz]; rfl
theorem LOrd.next {N : List (List Nat)} {ord : List Nat} (L : LOrd N ord) {g : Nat} (hg : g < N.length) (ho : g ∉ ord) : (N.getD g []).filter (fun o => decide (o ∉ ord)) ≠ [] := fun e => by
  refine ho (L.full g hg fun o hm => Classical.byContradiction fun z => ?_)
  have : o ∈ (N.getD g []).filter (fun o => decide (o ∉ ord)) := List.mem_filter.mpr ⟨hm, decide_eq_true z⟩
  rw [e] at this; cases this
theorem LOrd.first {N : List (List Nat)} {ord : List Nat} (L : LOrd N ord) (h : ord.length < N.length) : ∃ j, (lf N.length ord)[j]? = some true ∧ (∀ m b, m < j → (lf N.length ord)[m]? = some b → b = false) ∧ j < N.length ∧ j ∉ ord := by
  have hex : ∃ x, x ∈ lf N.length ord ∧ id x = true := by
    refine Classical.byContradiction fun z => ?_
    have all : ∀ k, k < N.length → k ∈ ord := fun k hk => Classical.byContradiction fun y => z ⟨_, List.mem_of_getElem? (lf_at ord hk), decide_eq_true y⟩
    have := (nodup_len ord.length (List.range N.length) List.nodup_range)
    have hp : ∀ (a b : List Nat), a.Nodup → (∀ x ∈ a, x ∈ b) → a.length ≤ b.length := fun a => by
      induction a with
      | nil => intro b _ _; exact Nat.zero_le _
      | cons x a ih =>
        intro b d m
        obtain ⟨d1, d2⟩ := List.nodup_cons.mp d
        have hx := m x List.mem_cons_self
        have := ih (b.erase x) d2 fun y hy => (List.mem_erase_of_ne fun e : y = x => d1 (e ▸ hy)).mpr (m y (List.mem_cons_of_mem _ hy))
        rw [List.length_erase_of_mem hx] at this
        have := List.length_pos_of_mem hx
        rw [List.length_cons]; omega
    have := hp (List.range N.length) ord List.nodup_range fun x hx => all x (List.mem_range.mp hx)
    rw [List.length_range] at this
    omega
  have hlt := List.findIdx_lt_length_of_exists hex
  have hat : id ((lf N.length ord)[(lf N.length ord).findIdx id]) = true := List.findIdx_getElem
  have hj : (lf N.length ord).findIdx id < N.length := by rw [lf_len] at hlt; exact hlt
  refine ⟨(lf N.length ord).findIdx id, by rw [List.getElem?_eq_getElem hlt]; exact congrArg some hat, fun m b hm hb => ?_, hj, ?_⟩
  · have := List.not_of_lt_findIdx hm
    obtain ⟨h1, h2⟩ := List.getElem?_eq_some_iff.mp hb
    rw [h2] at this
    cases b with
    | false => rfl
    | true => cases this
  · have h2 := lf_at ord hj
    rw [List.getElem?_eq_getElem hlt] at h2
    have h3 : (lf N.length ord)[(lf N.length ord).findIdx id] = true := hat
    rw [h3] at h2
    exact of_decide_eq_true (Option.some.inj h2).symm
theorem rep_flat {α : Type} (n : Nat) (x : α) : (List.replicate n [x]).flatten = List.replicate n x := by
  induction n with
  | zero => rfl
  | succ n ih => rw [List.replicate_succ, List.flatten_cons, ih, List.replicate_succ]; rfl
structure PlOk (es : List (Key × V)) (way : List Nat) : Prop where
  val : ∀ k : Nat, valV es (.inl (k : Int)) = if k ∈ way then some (.int ((way.idxOf k : Nat) : Int)) else none
  len : es.length ≤ way.length
theorem PlOk.put {es : List (Key × V)} {way : List Nat} (h : PlOk es way) {g : Nat} (hg : g ∉ way) : PlOk (putK es (.inl (g : Int)) (.int ((way.length : Nat) : Int))) (way ++ [g]) := by
  refine ⟨fun k => ?_, Nat.le_trans (length_putK _ _ _) (by rw [List.length_append]; exact Nat.succ_le_succ h.len)⟩
  rw [valV_put, List.idxOf_append]
  by_cases e : k = g
  · subst e
    rw [if_pos rfl, if_pos (List.mem_append_right _ (List.mem_singleton.mpr rfl)), if_neg hg]
    have : [k].idxOf k = 0 := by simp
    rw [this, Nat.zero_add]
  · rw [if_neg fun z => e (by have := Sum.inl.inj z; omega), h.val k]
    by_cases h1 : k ∈ way
    · rw [if_pos h1, if_pos (List.mem_append_left _ h1), if_pos h1]
    · rw [if_neg h1, if_neg fun z => (List.mem_append.mp z).elim h1 fun y => e (List.mem_singleton.mp y)]
structure TxtCy (mg : Str → Option Value) : Prop where
  len : mg "len" = none
section
variable {P : Program} {w : World} {K : PySem.W.Frag} {mg : Str → Option Value} {base : Heap}
def spCyc : Sp := fun vs H Q _ => ∃ (nl ol : Addr) (na : List Addr) (N : List (List Nat)) (ord : List Nat), vs = [.ref nl, .ref ol] ∧ H nl = some (.lst (na.map V.ref)) ∧ All2 (fun b l => H b = some (.lst (natsV l))) na N ∧ H ol = some (.lst (natsV ord)) ∧ N.length ≤ 200 ∧ (∀ k, (N.getD k []).length ≤ 100) ∧
  (∀ k o, k < N.length → o ∈ N.getD k [] → o < N.length) ∧ LOrd N ord ∧ ord.length < N.length ∧ ∀ (q : Addr) (H' : Hp) (way : List Nat), Ex H H' → H q = none → H' q = some (.lst (natsV way)) → CycOk N ord way → Q (.ref q) H'
theorem sc_cycle : FnScope ["read", "order", "left", "g", "way", "places", "other"] ["read", "order"] (defScope s_cycle) := ⟨rfl, rfl, rfl, by decide +kernel, rfl, by decide +kernel, by decide +kernel⟩
theorem ok_cycle (D : Dfd K mg "_cycle" s_cycle ["read", "order"]) (T : TxtCy mg) : Has P w K mg base 1 "_cycle" ["read", "order"] spCyc := by
  refine D.has fun f fd F => F.ok sc_cycle (fun vs H Q E h => ?_) (fun cdv A outer s H vs Q E hr h => ?_)
  · obtain ⟨nl, ol, na, N, ord, rfl, _⟩ := h
    rfl
  · obtain ⟨nl, ol, na, N, ord, rfl, hnl, hN, hol, hn, hw, hlt, hL, hsh, q⟩ := h
    refine ⟨_, (pss_cons (ps_set (i := 2) sc_cycle.nd rfl (.inr rfl) (pe_op op_rep (pe_lst (pa_cons pe_bl pa_nil)) (pe_callB call_len_seq (by rfl) T.len (by decide +kernel) (pa_cons (pv 0) pa_nil))))
    (pss_cons (ps_for PassesOwn.never rfl (pi_list (pv 1)) (pg_name (i := 3) sc_cycle.nd rfl (.inl rfl))
      (pss_one (ps_asg pe_bl (pg_sub (pv 2) (pv 3) set_list))))
    (pss_cons (ps_set (i := 3) sc_cycle.nd rfl (.inl rfl) (pe_bm PySem.F.plainAttrs_list PySem.F.slot_list_index PySem.F.type_list_index mt_index (pv 2) (pa_cons pe_bl pa_nil)))
    (pss_cons (ps_set (i := 4) sc_cycle.nd rfl (.inl rfl) (pe_lst pa_nil))
    (pss_cons (ps_set (i := 5) sc_cycle.nd rfl (.inl rfl) pe_dnewK)
    (pss_cons (ps_while PassesOwn.never (pt_cmp (pc_dnotin (hu_of hr) (pv 3) (pv 5)))
      (pss_cons (ps_asg (pe_callB call_len_seq (by rfl) T.len (by decide +kernel) (pa_cons (pv 4) pa_nil)) (pg_sub (pv 5) (pv 3) (set_dict (hu_of hr))))
      (pss_cons (ps_expr (pe_bm PySem.F.plainAttrs_list PySem.F.slot_list_append PySem.F.type_list_append mt_append (pv 4) (pa_cons (pv 3) pa_nil)))
      (pss_one (ps_set (i := 3) sc_cycle.nd rfl (.inl rfl) (pe_ix ix_list (pe_lc (own := [("other", 6)]) (g := gName 6) (tt := _) rfl sc_cycle.nd (pi_list (pe_ix ix_list (pv 0) (pv 3) (fun _ _ => rfl))) (blkOk_by (N := ["read", "order", "left", "g", "way", "places", "other"]) (sc := defScope s_cycle) (own := [("other", 6)]) (by decide +kernel)) (fun _ _ _ _ _ => (pg_name (i := 6) sc_cycle.nd rfl (.inl rfl))) (fun _ _ _ _ _ => pts_one (pt_val (pe_ix (kIxL (K := K) rfl) (pv 2) (pv 6) (fun _ _ => rfl)))) (fun _ _ _ _ _ => (pv 6))) pe_int (fun _ _ => rfl)))))))
    (pss_one (ps_ret (pe_slice sl_list (pv 4) (po_some (pe_dget (hu_of hr) (pv 5) (pv 3) (fun _ _ => rfl))) po_none))))))))), ?_⟩
    have hal : (na.map V.ref).length = N.length := by rw [List.length_map, hN.1]
    have hno : ∀ k b, na[k]? = some b → H b = some (.lst (natsV (N.getD k []))) := fun k b hb => by
      obtain ⟨l, hl, h1⟩ := hN.at_ hb
      rw [List.getD_eq_getElem?_getD, hl]; exact h1
    refine ⟨(by show 1 ≤ sizeLine; decide), fun t nt => ⟨_, rfl, _, _, rfl, .inl (SqL.of (Ex.new nt _ _ hnl)), t, _, _, rfl, rfl, upd_same, by omega, by rw [hal]; omega, sz_of (by rw [hal, Int.toNat_natCast]; show 1 * _ ≤ _; omega), fun LL nLL => ?_⟩⟩
    have E1 := (Ex.new (o := .lst [V.bl true]) nt).trans (Ex.new (o := .lst (List.replicate ((((na.map V.ref).length : Nat) : Int)).toNat [V.bl true]).flatten) nLL)
    have nL0 : H LL = none := fresh_back (Ex.new (o := .lst [V.bl true]) nt) nLL
    have hLL : (upd (upd H t (.lst [V.bl true])) LL (.lst (List.replicate ((((na.map V.ref).length : Nat) : Int)).toNat [V.bl true]).flatten)) LL = some (.lst ((lf N.length []).map V.bl)) := by
      rw [upd_same, rep_flat, hal, Int.toNat_natCast, lf_nil, List.map_replicate]
    generalize upd (upd H t (.lst [V.bl true])) LL (.lst (List.replicate ((((na.map V.ref).length : Nat) : Int)).toNat [V.bl true]).flatten) = H1 at *
    refine ⟨_, rfl, ol, rfl, ⟨_, SqL.of (E1 _ _ hol)⟩, for_list (K := K) (a := ol) (xs := natsV ord)
      (fun j σ H' => Ex H H' ∧ H' LL = some (.lst ((lf N.length (ord.take j)).map V.bl)) ∧ ∃ z3 : Option V, σ = [some (.ref nl), some (.ref ol), some (.ref LL), z3, none, none, none])
      ⟨E1, by rw [List.take_zero]; exact hLL, _, rfl⟩ (fun j σ H' _ g => SqL.of (g.1 _ _ hol)) ?_ ?_⟩
    · rintro j y σ H2 hy ⟨E2, hL2, z3, rfl⟩
      obtain ⟨g, hg, rfl⟩ := nats_get hy
      have hgl := hL.lt g (List.mem_of_getElem? hg)
      refine ⟨_, rfl, _, rfl, LL, _, _, g, rfl, rfl, hL2, ixN_nat (by rw [List.length_map, lf_len]; exact hgl), E2.mut nL0, ?_, _, rfl⟩
      rw [upd_same, lf_V, take_snoc1 hg]
    rintro σ H2 ⟨E2, hL2, z3, rfl⟩
    rw [nats_len, List.take_length] at hL2
    obtain ⟨j, hj1, hj2, hjl, hjo⟩ := hL.first hsh
    refine ⟨_, rfl, .inl ⟨rfl, _, SqL.of hL2⟩, LL, _, .bl true, j, .bl true, rfl, rfl, SqL.of hL2, rfl, flat_map (fun _ => rfl) _, by rw [List.getElem?_map, hj1]; rfl, rfl, fun m z' hm hz => ?_, Nat.zero_le _, fun WL nWL => fun PD nPD => ?_⟩
    · rw [List.getElem?_map] at hz
      obtain ⟨b, hb, rfl⟩ := Option.map_eq_some_iff.mp hz
      rw [hj2 m b hm hb]; rfl
    have E3 := (E2.trans (Ex.new (o := .lst []) nWL)).trans (Ex.new (o := .dK []) nPD)
    have hW : (upd (upd H2 WL (.lst [])) PD (.dK [])) WL = some (.lst (natsV [])) := Ex.new nPD _ _ upd_same
    have hP : (upd (upd H2 WL (.lst [])) PD (.dK [])) PD = some (.dK []) := upd_same
    have hL3 : (upd (upd H2 WL (.lst [])) PD (.dK [])) LL = some (.lst ((lf N.length ord).map V.bl)) := Ex.new nPD _ _ (Ex.new nWL _ _ hL2)
    have nW0 : H WL = none := fresh_back E2 nWL
    have nP0 : H PD = none := fresh_back (E2.trans (Ex.new (o := .lst []) nWL)) nPD
    have nLW : LL ≠ WL := ne_of_none hL2 nWL
    have nLP : LL ≠ PD := ne_of_none (Ex.new (o := .lst []) nWL _ _ hL2) nPD
    have nWP : WL ≠ PD := ne_of_none (upd_same (H := H2) (a := WL) (o := .lst [])) nPD
    generalize upd (upd H2 WL (.lst [])) PD (.dK []) = H3 at *
    refine ⟨fun μ σ H' => Ex H H' ∧ H' LL = some (.lst ((lf N.length ord).map V.bl)) ∧ ∃ (way : List Nat) (g : Nat) (es : List (Key × V)), H' WL = some (.lst (natsV way)) ∧ H' PD = some (.dK es) ∧ PlOk es way ∧ Chain N ord way g ∧ μ + way.length = N.length ∧ σ = [some (.ref nl), some (.ref ol), some (.ref LL), some (.int (g : Nat)), some (.ref WL), some (.ref PD), none],
      ⟨N.length, E3, hL3, [], j, [], hW, hP, ⟨fun k => by rw [if_neg (by intro z; cases z)]; rfl, Nat.le_refl _⟩, ⟨List.nodup_nil, fun k hk => by rw [List.nil_append] at hk; rw [List.mem_singleton.mp hk]; exact ⟨hjl, hjo⟩, fun i k z h => by cases h⟩, rfl, rfl⟩, ?_⟩
    rintro μ σ H4 ⟨E4, hL4, way, g, es, hW4, hP4, hPl, hC, hμ, rfl⟩
    obtain ⟨hgl, hgo⟩ := hC.lt g (List.mem_append_right _ (List.mem_singleton.mpr rfl))
    refine ⟨_, rfl, _, rfl, PD, _, rfl, DGet.k (k := Sum.inl (g : Int)) hP4, _, rfl, ?_⟩
    rw [hPl.val g]
    have hwl : way.length ≤ 200 := by omega
    by_cases hin : g ∈ way
    · rw [if_pos hin]
      refine iteF ?_
      have hi := List.idxOf_lt_length_iff.mpr hin
      have hget : DGet H4 PD (kV (Sum.inl (g : Int))) (some (.int ((way.idxOf g : Nat) : Int))) := by
        have := DGet.k (k := Sum.inl (g : Int)) hP4
        rw [hPl.val g, if_pos hin] at this
        exact this
      refine ⟨_, rfl, _, rfl, _, rfl, PD, _, rfl, hget, _, rfl, ?_⟩
      unfold tNoPart
      dsimp only
      refine ⟨WL, _, rfl, SqL.of hW4, fun p np => ?_⟩
      rw [cutV_tail (by rw [nats_len]; omega)]
      refine q p _ (way.drop (way.idxOf g)) (E4.trans (Ex.new np)) (fresh_back E4 np) ?_ (hC.cyc hin)
      rw [upd_same]
      unfold natsV
      rw [List.map_drop]
    · rw [if_neg hin]
      refine iteT ⟨fun σ' H' => Ex H H' ∧ H' LL = some (.lst ((lf N.length ord).map V.bl)) ∧ ∃ (g' : Nat) (es : List (Key × V)), H' WL = some (.lst (natsV (way ++ [g]))) ∧ H' PD = some (.dK es) ∧ PlOk es (way ++ [g]) ∧ Chain N ord (way ++ [g]) g' ∧ σ' = [some (.ref nl), some (.ref ol), some (.ref LL), some (.int (g' : Nat)), some (.ref WL), some (.ref PD), none], ?_, ?_⟩
      · rintro σ' H' ⟨b1, b2, g', es', b3, b4, b5, b6, rfl⟩
        have hle : (way ++ [g]).length ≤ N.length := nodup_len N.length (way ++ [g]) b6.nd fun k hk => (hC.lt k hk).1
        rw [List.length_append] at hle
        have hle : way.length + 1 ≤ N.length := hle
        exact ⟨μ - 1, by omega, b1, b2, way ++ [g], g', es', b3, b4, b5, b6, by rw [List.length_append]; show μ - 1 + (way.length + 1) = _; omega, rfl⟩
      refine ⟨_, rfl, _, _, rfl, .inl (SqL.of hW4), _, rfl, _, rfl, PD, _, rfl, .inl ⟨es, .inl (g : Int), hP4, rfl, sz_lt (by have := hPl.len; omega), rfl⟩, ?_⟩
      rw [nats_len]
      have E5 := E4.mut (o := .dK (putK es (.inl (g : Int)) (.int ((way.length : Nat) : Int)))) nP0
      have hP5 : upd H4 PD (.dK (putK es (.inl (g : Int)) (.int ((way.length : Nat) : Int)))) PD = some (.dK (putK es (.inl (g : Int)) (.int ((way.length : Nat) : Int)))) := upd_same
      have hW5 : upd H4 PD (.dK (putK es (.inl (g : Int)) (.int ((way.length : Nat) : Int)))) WL = some (.lst (natsV way)) := by rw [upd_ne nWP]; exact hW4
      have hL5 : upd H4 PD (.dK (putK es (.inl (g : Int)) (.int ((way.length : Nat) : Int)))) LL = some (.lst ((lf N.length ord).map V.bl)) := by rw [upd_ne nLP]; exact hL4
      generalize upd H4 PD (.dK (putK es (.inl (g : Int)) (.int ((way.length : Nat) : Int)))) = H5 at *
      refine ⟨_, rfl, .inl ⟨rfl, _, SqL.of hW5⟩, _, rfl, WL, _, .int (g : Nat), rfl, rfl, hW5, sz_lt (by rw [nats_len]; omega), ?_⟩
      rw [← nats_snoc]
      have E6 := E5.mut (o := .lst (natsV (way ++ [g]))) nW0
      have hP6 : upd H5 WL (.lst (natsV (way ++ [g]))) PD = some (.dK (putK es (.inl (g : Int)) (.int ((way.length : Nat) : Int)))) := by rw [upd_ne (Ne.symm nWP)]; exact hP5
      have hW6 : upd H5 WL (.lst (natsV (way ++ [g]))) WL = some (.lst (natsV (way ++ [g]))) := upd_same
      have hL6 : upd H5 WL (.lst (natsV (way ++ [g]))) LL = some (.lst ((lf N.length ord).map V.bl)) := by rw [upd_ne nLW]; exact hL5
      generalize upd H5 WL (.lst (natsV (way ++ [g]))) = H6 at *
      obtain ⟨b, hb⟩ : ∃ b, na[g]? = some b := ⟨_, List.getElem?_eq_getElem (by have := hN.1; omega)⟩
      have hbl := hno g b hb
      refine ⟨_, rfl, _, rfl, nl, _, _, .ref b, rfl, rfl, SqL.of (E6 _ _ hnl), at_of (j := g) rfl (by rw [List.getElem?_map, hb]; rfl), b, rfl, ⟨_, SqL.of (E6 _ _ hbl)⟩, fun OL nOL => wk_list (K := K) (a := b) (xs := natsV (N.getD g []))
        (fun i H' => Ex H6 H' ∧ H' OL = some (.lst (natsV (((N.getD g []).take i).filter fun o => decide (o ∉ ord))))) ⟨Ex.new nOL, upd_same⟩ (fun i H' _ z => SqL.of ((E6.trans z.1) _ _ hbl)) ?_ ?_⟩
      · rintro i y H7 hy ⟨E7, hO⟩
        obtain ⟨o, ho, rfl⟩ := nats_get hy
        have hol := hlt g o hgl (List.mem_of_getElem? ho)
        have hfl : (((N.getD g []).take i).filter fun o => decide (o ∉ ord)).length ≤ 100 := by
          have h1 := List.length_filter_le (fun o => decide (o ∉ ord)) ((N.getD g []).take i)
          rw [List.length_take] at h1
          have := hw g
          omega
        refine ⟨rfl, ?_⟩
        simp only [wipe, _root_.L2.start, List.map_cons, List.map_nil, List.length_cons, List.length_nil, Nat.reduceAdd, Nat.reduceSub, List.replicate_succ, List.replicate_zero, List.cons_append, List.nil_append, List.set_cons_zero, List.set_cons_succ]
        refine ⟨_, rfl, _, rfl, LL, _, _, .bl (decide (o ∉ ord)), rfl, rfl, SqL.of (E7 _ _ hL6), at_of (j := o) rfl (by rw [List.getElem?_map, lf_at ord hol]; rfl), _, rfl, ?_⟩
        cases hb2 : decide (o ∉ ord) with
        | true =>
          refine iteT ⟨_, rfl, _, hO, sz_lt (by rw [nats_len]; omega), E7.mut nOL, ?_⟩
          rw [upd_same, take_snoc1 ho, List.filter_append, ← nats_snoc, List.filter_cons, hb2, if_pos rfl]; rfl
        | false =>
          refine iteF ⟨E7, ?_⟩
          rw [hO, take_snoc1 ho, List.filter_append, List.filter_cons, hb2, if_neg Bool.false_ne_true, List.filter_nil, List.append_nil]
      · rintro H7 ⟨E7, hO⟩
        rw [nats_len, List.take_length] at hO
        have hne := hL.next hgl hgo
        obtain ⟨z, r, hz⟩ := List.exists_cons_of_ne_nil hne
        have hzm : z ∈ (N.getD g []).filter fun o => decide (o ∉ ord) := by rw [hz]; exact List.mem_cons_self ..
        obtain ⟨hz1, hz2⟩ := List.mem_filter.mp hzm
        rw [hz] at hO
        refine ⟨OL, _, _, .int (z : Nat), rfl, rfl, SqL.of hO, atI_nat (j := 0) rfl, ?_⟩
        exact ⟨E6.trans E7, E7 _ _ hL6, z, _, E7 _ _ hW6, E7 _ _ hP6, hPl.put hin, hC.step hin hz1 (hlt g z hgl hz1) (of_decide_eq_true hz2), rfl⟩
end
end G
namespace G
open PySem PySem.Spec PyProof.Rows L2 Evl TL
/-! ## the lengths of the paths -/
def mxF (f : Nat → Nat) (l : List Nat) : Nat := (l.map f).foldl max 0
def stepL (N : List (List Nat)) (f : Nat → Nat) (g : Nat) : Nat → Nat := fun x => if x = g then 1 + mxF f (N.getD g []) else f x
def lenF (N : List (List Nat)) (ord : List Nat) : Nat → Nat := ord.foldl (stepL N) fun _ => 0
theorem lenF_snoc (N : List (List Nat)) (ord : List Nat) (g : Nat) : lenF N (ord ++ [g]) = stepL N (lenF N ord) g := by unfold lenF; rw [List.foldl_append]; rfl
def DeepP (N : List (List Nat)) (ord : List Nat) : Prop := ∃ i k, ord[i]? = some k ∧ 100 < lenF N (ord.take (i + 1)) k
def lensI (N : List (List Nat)) (ord : List Nat) (n : Nat) : List Int := (List.range n).map fun k => ((lenF N ord k : Nat) : Int)
theorem lensI_len (N : List (List Nat)) (ord : List Nat) (n : Nat) : (lensI N ord n).length = n := by unfold lensI; rw [List.length_map, List.length_range]
theorem lensI_at {N : List (List Nat)} {ord : List Nat} {n k : Nat} (h : k < n) : (lensI N ord n)[k]? = some ((lenF N ord k : Nat) : Int) := by unfold lensI; rw [List.getElem?_map, List.getElem?_range h]; rfl
theorem lensI_nil (N : List (List Nat)) (n : Nat) : lensI N [] n = List.replicate n 0 := by
  refine List.ext_getElem? fun k => ?_
  by_cases h : k < n
  · rw [lensI_at h, List.getElem?_replicate, if_pos h]; rfl
  · rw [List.getElem?_eq_none (by rw [lensI_len]; omega), List.getElem?_eq_none (by rw [List.length_replicate]; omega)]
theorem lensI_snoc (N : List (List Nat)) (ord : List Nat) (n g : Nat) : (lensI N ord n).set g ((1 + mxF (lenF N ord) (N.getD g []) : Nat) : Int) = lensI N (ord ++ [g]) n := by
  refine List.ext_getElem? fun k => ?_
  by_cases h : k < n
  · rw [List.getElem?_set, lensI_at h, lensI_at h, lensI_len, lenF_snoc]
    unfold stepL
    by_cases e : g = k
    · subst e
      rw [if_pos rfl, if_pos h, if_pos rfl]
    · rw [if_neg e, if_neg fun z => e z.symm]
  · rw [List.getElem?_eq_none (by rw [List.length_set, lensI_len]; omega), List.getElem?_eq_none (by rw [lensI_len]; omega)]
theorem foldl_cast : ∀ (l : List Nat) (n : Nat), (l.map fun k : Nat => (k : Int)).foldl max (n : Int) = ((l.foldl max n : Nat) : Int)
  | [], _ => rfl
  | x :: l, n => by
    rw [List.map_cons, List.foldl_cons, List.foldl_cons, show max (n : Int) (x : Int) = ((max n x : Nat) : Int) by omega]
    exact foldl_cast l _
theorem rMaxDf_of {K : PySem.W.Frag} {H : Hp} {Q : VK} {a : Addr} {ns : List Int} {m d : Int} (hs : SqL K H a (ns.map V.int)) (h0 : ns = [] → m = d) (h1 : ∀ n r, ns = n :: r → r.foldl max n = m) (q : Q (.int m) H) : rMaxDf K [.ref a] [.int d] H Q :=
  ⟨a, ns, d, rfl, rfl, hs, fun e => by rw [← h0 e]; exact q, fun n r e => by rw [h1 n r e]; exact q⟩
theorem str_len_app5 (a b : Str) : (a ++ b).length = a.length + b.length := by rw [len_tl, tl_append, List.length_append, ← len_tl, ← len_tl]
structure TxtPt (mg : Str → Option Value) : Prop where
  len : mg "len" = none
  tuple : mg "tuple" = none
  max : mg "max" = none
section
variable {P : Program} {w : World} {K : PySem.W.Frag} {mg : Str → Option Value} {base : Heap}
def spCkP (Dc Lc : Addr) : Sp := fun vs H Q E => ∃ (gt : Addr) (d : CircD) (ga : List Addr), vs = [.ref gt] ∧ H gt = some (.tup (ga.map V.ref)) ∧ All2 (GateAt H) ga d.gates ∧ GN d ∧ (∀ g ∈ d.gates, g.name.length ≤ 1000) ∧ ∀ ord, LOrd (needN d) ord →
  (ord.length = d.gates.length → ¬ DeepP (needN d) ord → ∀ H', Ex H H' → Q .non H') ∧ (ord.length = d.gates.length → DeepP (needN d) ord → ∀ H', Ex H H' → E (.ref Dc) none H') ∧
  (ord.length < d.gates.length → ∀ (H1 : Hp) (dd tp : Addr) (way : List Nat), Ex H H1 → H1 dd = none → CycOk (needN d) ord way → H1 tp = some (.tup ((way.map fun k => (gnames d).getD k "").map V.str)) → E (.ref Lc) (some dd) (upd H1 dd (.xd [("names", .ref tp)])))
theorem sc_check_paths : FnScope ["gates", "read", "order", "g", "lengths", "other"] ["gates"] (defScope s_check_paths) := ⟨rfl, rfl, rfl, by decide +kernel, rfl, by decide +kernel, by decide +kernel⟩
theorem ok_check_paths {Dc Lc fL : Addr} {dL : FuncData} (D : Dfd K mg "_check_paths" s_check_paths ["gates"]) (T : TxtPt mg) (UD : ExcT K mg "TooDeep" Dc) (OL : Own1 P w K mg base "Looped" "names" Lc fL dL okNms) (g : ∃ t, mg "LONGEST_PATH" = some (.int 100 t))
    (C1 : Has P w K mg base 1 "_gates_read" ["gates"] spGates) (C2 : Has P w K mg base 1 "least_order" ["needed"] spLeast) (C3 : Has P w K mg base 1 "_cycle" ["read", "order"] spCyc) : HasN P w K mg base 4 "_check_paths" ["gates"] (spCkP Dc Lc) := by
  obtain ⟨t, g_LONGEST_PATH⟩ := g
  obtain ⟨f_gates_read, d_gates_read, G_gates_read, g_gates_read, k_gates_read, b_gates_read⟩ := C1
  obtain ⟨f_least_order, d_least_order, G_least_order, g_least_order, k_least_order, b_least_order⟩ := C2
  obtain ⟨f_cycle, d_cycle, G_cycle, g_cycle, k_cycle, b_cycle⟩ := C3
  obtain ⟨f, fd, F, gf, bf⟩ := D
  refine ⟨f, fd, F.okN sc_check_paths (fun vs H Q E h => ?_) (fun cdv A outer s H vs Q E hr h => ?_), gf, F.kp, bf⟩
  · obtain ⟨gt, d, ga, rfl, _⟩ := h
    rfl
  · obtain ⟨gt, d, ga, rfl, hgt, hA, hN, hnm, q⟩ := h
    refine ⟨_, (pss_cons (ps_set (i := 1) sc_check_paths.nd rfl (.inl rfl) (pe_call G_gates_read (hr.mono (by omega)) (by rfl) g_gates_read k_gates_read b_gates_read .nil pass0 (pa_cons (pv 0) pa_nil)))
    (pss_cons (ps_set (i := 2) sc_check_paths.nd rfl (.inl rfl) (pe_call G_least_order (hr.mono (by omega)) (by rfl) g_least_order k_least_order b_least_order .nil pass0 (pa_cons (pv 1) pa_nil)))
    (pss_cons (ps_if (pt_cmpR op_lt (pe_callB call_len_seq (by rfl) T.len (by decide +kernel) (pa_cons (pv 2) pa_nil)) (pe_callB call_len_seq (by rfl) T.len (by decide +kernel) (pa_cons (pv 0) pa_nil)) (nomark _))
      (pss_one (L2N.ps_raise rfl (L2N.takes_of rfl rfl rfl rfl) (pmkN_own1 OL (hr.mono (by omega)) rfl (pa_cons (pe_callTy call_tuple_of (by rfl) T.tuple (by decide +kernel) (pa_cons (pe_lc (own := [("g", 3)]) (g := gName 3) (tt := tYes) rfl sc_check_paths.nd (pi_list (pe_call G_cycle (hr.mono (by omega)) (by rfl) g_cycle k_cycle b_cycle .nil pass0 (pa_cons (pv 1) (pa_cons (pv 2) pa_nil)))) (blkOk_by (N := ["gates", "read", "order", "g", "lengths", "other"]) (sc := defScope s_check_paths) (own := [("g", 3)]) (by decide +kernel)) (fun _ _ _ _ _ => (pg_name (i := 3) sc_check_paths.nd rfl (.inl rfl))) (fun _ _ _ _ _ => pts_nil) (fun _ _ _ _ _ => (pe_ix (kIxT (K := K) rfl) (pe_ix (kIxT (K := K) rfl) (pv 0) (pv 3) (fun _ _ => rfl)) pe_int (fun _ _ => rfl)))) pa_nil)) pa_nil))))
      pss_nil)
    (pss_cons (ps_set (i := 4) sc_check_paths.nd rfl (.inr rfl) (pe_op op_rep (pe_lst (pa_cons pe_int pa_nil)) (pe_callB call_len_seq (by rfl) T.len (by decide +kernel) (pa_cons (pv 0) pa_nil))))
    (pss_one (ps_for (passes_of rfl) rfl (pi_list (pv 2)) (pg_name (i := 3) sc_check_paths.nd rfl (.inl rfl))
      (pss_cons (ps_asg (pe_op op_add pe_int (pe_callBK (cr_maxDf rfl (Nat.lt_of_le_of_lt (Nat.add_le_add_right (Nat.le_add_right _ _) _) hr.un)) (by rfl) T.max (by decide +kernel) (pa_cons (pe_lc (own := [("other", 5)]) (g := gName 5) (tt := tYes) rfl sc_check_paths.nd (pi_list (pe_ix ix_list (pv 1) (pv 3) (fun _ _ => rfl))) (blkOk_by (N := ["gates", "read", "order", "g", "lengths", "other"]) (sc := defScope s_check_paths) (own := [("other", 5)]) (by decide +kernel)) (fun _ _ _ _ _ => (pg_name (i := 5) sc_check_paths.nd rfl (.inl rfl))) (fun _ _ _ _ _ => pts_nil) (fun _ _ _ _ _ => (pe_ix (kIxL (K := K) rfl) (pv 4) (pv 5) (fun _ _ => rfl)))) pa_nil) (pk_cons pe_int pk_nil))) (pg_sub (pv 4) (pv 3) set_list))
      (pss_one (ps_if (pt_cmpR op_gt (pe_ix ix_list (pv 4) (pv 3) (fun _ _ => rfl)) (gInt rfl g_LONGEST_PATH) (nomark _))
        (pss_one (L2N.ps_raise rfl (L2N.takes_of rfl rfl rfl rfl) (pmkN_ownA PySem.F.excBase_ValueError UD.xP UD.gC UD.kC (raises_own UD.bC UD.tC) rfl (pa_cons (pe_joined (.cons pe_str (.cons (pe_fmt (pe_ix ix_tup (pe_ix ix_tup (pv 0) (pv 3) (fun _ _ => rfl)) pe_int (fun _ _ => rfl))) (.cons pe_str (.cons (pe_fmt (gInt rfl g_LONGEST_PATH)) (.cons pe_str .nil)))))) pa_nil))))
        pss_nil))))))))), ?_⟩
    have hgl : ga.length = d.gates.length := hA.1
    have hnl := need_len d
    have hfew := hN.few
    have hw : ∀ k, ((needN d).getD k []).length ≤ 100 := fun k => by
      unfold needN
      rw [List.getD_eq_getElem?_getD, List.getElem?_map]
      cases e : d.gates[k]? with
      | none => exact Nat.zero_le _
      | some g =>
        show ((g.pins.filter _).map _).length ≤ 100
        rw [List.length_map]
        have h1 := List.length_filter_le (fun x => decide (x ∈ gnames d)) g.pins
        have h2 := hN.fewp g (List.mem_of_getElem? e)
        omega
    refine ⟨_, rfl, gt, d, ga, rfl, hgt, hA, hN, fun nl na H1 E1 hnl1 hna => ?_⟩
    refine ⟨_, rfl, nl, na, needN d, rfl, hnl1, hna, by omega, hw, need_lt, fun ol H2 ord E2 nol hol hL => ?_⟩
    obtain ⟨q1, q2, q3⟩ := q ord hL
    have E02 := E1.trans E2
    have hole : ord.length ≤ (needN d).length := nodup_len _ ord hL.nd hL.lt
    have hgate : ∀ (k : Nat) (g : GateD), d.gates[k]? = some g → ∃ b xs, ga[k]? = some b ∧ H b = some (.tup xs) ∧ xs[0]? = some (.str g.name) := fun k g hk => by
      obtain ⟨b, hb, t', pt, rgt, rla, h1, _⟩ := hA.of hk
      exact ⟨b, _, hb, h1, rfl⟩
    have hna2 : All2 (fun b l => H2 b = some (.lst (natsV l))) na (needN d) := hna.imp fun _ _ z => E2 _ _ z
    refine ⟨_, rfl, _, _, rfl, .inl (SqL.of hol), _, rfl, _, _, rfl, .inr (SqT.of (E02 _ _ hgt)), _, _, rfl, rfl, _, rfl, ite2 (fun c1 => ?_) (fun c1 => ?_)⟩
    · have hsh : ord.length < d.gates.length := by have := of_decide_eq_true c1; rw [nats_len, List.length_map, hgl] at this; omega
      refine ⟨_, rfl, _, rfl, nl, ol, na, needN d, ord, rfl, E2 _ _ hnl1, hna2, hol, by omega, hw, need_lt, hL, by omega, fun wq H3 way E3 nwq hwq hC => ⟨wq, rfl, ⟨_, SqL.of hwq⟩, fun TL nTL => wk_list (K := K) (a := wq) (xs := natsV way)
        (fun j H' => Ex H3 H' ∧ H' TL = some (.lst (((way.take j).map fun k => (gnames d).getD k "").map V.str))) ⟨Ex.new nTL, upd_same⟩ (fun j H' _ z => SqL.of (z.1 _ _ hwq)) ?_ ?_⟩⟩
      · rintro j y H4 hy ⟨E4, hT⟩
        obtain ⟨k, hk, rfl⟩ := nats_get hy
        have hkl := hC.lt k (List.mem_of_getElem? hk)
        have hwl := nodup_len _ way hC.nd hC.lt
        have hj : j < way.length := (List.getElem?_eq_some_iff.mp hk).1
        obtain ⟨g, hg⟩ : ∃ g, d.gates[k]? = some g := ⟨_, List.getElem?_eq_getElem (by omega)⟩
        obtain ⟨b, xs, hb, hbx, hx0⟩ := hgate k g hg
        have e04 := E02.trans (E3.trans E4)
        refine ⟨rfl, tYes_in ?_⟩
        simp only [wipe, _root_.L2.start, List.map_cons, List.map_nil, List.length_cons, List.length_nil, Nat.reduceAdd, Nat.reduceSub, List.replicate_succ, List.replicate_zero, List.cons_append, List.nil_append, List.set_cons_zero, List.set_cons_succ]
        refine ⟨_, rfl, _, rfl, gt, _, _, .ref b, rfl, rfl, SqT.of (e04 _ _ hgt), at_of (j := k) rfl (by rw [List.getElem?_map, hb]; rfl), _, _, _, _, rfl, rfl, SqT.of (e04 _ _ hbx), atI_nat (j := 0) hx0, _, hT, sz_lt (by rw [List.length_map, List.length_map, List.length_take]; omega), E4.mut nTL, ?_⟩
        rw [upd_same, take_snoc1 hk, List.map_append, List.map_append]
        have e : (gnames d).getD k "" = g.name := by unfold gnames; rw [List.getD_eq_getElem?_getD, List.getElem?_map, hg]; rfl
        show _ = some (HO.lst (_ ++ [V.str ((gnames d).getD k "")]))
        rw [e]
      · rintro H4 ⟨E4, hT⟩
        rw [nats_len, List.take_length] at hT
        have hwl := nodup_len _ way hC.nd hC.lt
        refine ⟨TL, _, rfl, .inl ⟨SqL.of hT, fun tp ntp => mk1 (fun a na => ⟨tp, _, rfl, Ex.new na _ _ upd_same, by rw [List.length_map]; omega⟩) fun dd nd => ?_⟩⟩
        exact q3 hsh _ dd tp way (E02.trans (E3.trans (E4.trans (Ex.new ntp)))) nd hC upd_same
    have hfull : ord.length = d.gates.length := by
      have : ¬ ((natsV ord).length : Int) < ((ga.map V.ref).length : Int) := fun z => c1 (decide_eq_true z)
      rw [nats_len, List.length_map, hgl] at this
      omega
    refine ⟨(by show 1 ≤ sizeLine; decide), fun t0 nt0 => ⟨_, rfl, _, _, rfl, .inr (SqT.of (Ex.new nt0 _ _ (E02 _ _ hgt))), t0, _, _, rfl, rfl, upd_same, by omega, by rw [List.length_map]; omega, sz_of (by rw [List.length_map, Int.toNat_natCast]; show 1 * _ ≤ _; omega), fun LL nLL => ?_⟩⟩
    have E3 := (Ex.new (o := .lst [V.int 0]) nt0).trans (Ex.new (o := .lst (List.replicate ((((ga.map V.ref).length : Nat) : Int)).toNat [V.int 0]).flatten) nLL)
    have nL0 : H LL = none := fresh_back (E02.trans (Ex.new (o := .lst [V.int 0]) nt0)) nLL
    have hLL : (upd (upd H2 t0 (.lst [V.int 0])) LL (.lst (List.replicate ((((ga.map V.ref).length : Nat) : Int)).toNat [V.int 0]).flatten)) LL = some (.lst ((lensI (needN d) [] d.gates.length).map V.int)) := by
      rw [upd_same, rep_flat, List.length_map, hgl, Int.toNat_natCast, lensI_nil, List.map_replicate]
    have E03 := E02.trans E3
    have hol3 := E3 _ _ hol
    have nLo : ol ≠ LL := ne_of_none (Ex.new (o := .lst [V.int 0]) nt0 _ _ hol) nLL
    have hnl3 := E3 _ _ (E2 _ _ hnl1)
    have nLn : nl ≠ LL := ne_of_none (Ex.new (o := .lst [V.int 0]) nt0 _ _ (E2 _ _ hnl1)) nLL
    have hna3 : ∀ k b, na[k]? = some b → H2 b = some (.lst (natsV ((needN d).getD k []))) := fun k b hb => by
      obtain ⟨l, hl, h1⟩ := hna2.at_ hb
      rw [List.getD_eq_getElem?_getD, hl]; exact h1
    have nL2 : H2 LL = none := fresh_back (Ex.new (o := .lst [V.int 0]) nt0) nLL
    generalize upd (upd H2 t0 (.lst [V.int 0])) LL (.lst (List.replicate ((((ga.map V.ref).length : Nat) : Int)).toNat [V.int 0]).flatten) = H3 at *
    refine ⟨_, rfl, ol, rfl, ⟨_, SqL.of hol3⟩, for_list (K := K) (a := ol) (xs := natsV ord)
      (fun i σ H' => Ex H2 H' ∧ H' LL = some (.lst ((lensI (needN d) (ord.take i) d.gates.length).map V.int)) ∧ (∀ j k, j < i → ord[j]? = some k → lenF (needN d) (ord.take (j + 1)) k ≤ 100) ∧ ∃ z3 : Option V, σ = [some (.ref gt), some (.ref nl), some (.ref ol), z3, some (.ref LL), none])
      ⟨E3, by rw [List.take_zero]; exact hLL, (fun j k h => absurd h (Nat.not_lt_zero _)), _, rfl⟩ (fun i σ H' _ g => SqL.of (g.1 _ _ hol)) ?_ ?_⟩
    · rintro i y σ H4 hy ⟨E4, hL4, hok, z3, rfl⟩
      obtain ⟨g, hg, rfl⟩ := nats_get hy
      have hgl2 := hL.lt g (List.mem_of_getElem? hg)
      obtain ⟨b, hb⟩ : ∃ b, na[g]? = some b := ⟨_, List.getElem?_eq_getElem (by have := hna.1; omega)⟩
      have hbl := hna3 g b hb
      refine ⟨_, rfl, _, rfl, nl, _, _, .ref b, rfl, rfl, SqL.of (E4 _ _ (E2 _ _ hnl1)), at_of (j := g) rfl (by rw [List.getElem?_map, hb]; rfl), b, rfl, ⟨_, SqL.of (E4 _ _ hbl)⟩, fun OL nOL => wk_list (K := K) (a := b) (xs := natsV ((needN d).getD g []))
        (fun j H' => Ex H4 H' ∧ H' OL = some (.lst (((((needN d).getD g []).take j).map fun o => ((lenF (needN d) (ord.take i) o : Nat) : Int)).map V.int))) ⟨Ex.new nOL, upd_same⟩ (fun j H' _ z => SqL.of ((E4.trans z.1) _ _ hbl)) ?_ ?_⟩
      · rintro j y H5 hy ⟨E5, hO⟩
        obtain ⟨o, ho, rfl⟩ := nats_get hy
        have hol' := need_lt g o hgl2 (List.mem_of_getElem? ho)
        have hj : j < ((needN d).getD g []).length := (List.getElem?_eq_some_iff.mp ho).1
        have := hw g
        refine ⟨rfl, tYes_in ?_⟩
        simp only [wipe, _root_.L2.start, List.map_cons, List.map_nil, List.length_cons, List.length_nil, Nat.reduceAdd, Nat.reduceSub, List.replicate_succ, List.replicate_zero, List.cons_append, List.nil_append, List.set_cons_zero, List.set_cons_succ]
        refine ⟨_, rfl, _, rfl, LL, _, _, .int ((lenF (needN d) (ord.take i) o : Nat) : Int), rfl, rfl, SqL.of (E5 _ _ hL4), at_of (j := o) rfl (by rw [List.getElem?_map, lensI_at (by omega)]; rfl), _, hO, sz_lt (by rw [List.length_map, List.length_map, List.length_take]; omega), E5.mut nOL, ?_⟩
        rw [upd_same, take_snoc1 ho, List.map_append, List.map_append]; rfl
      · rintro H5 ⟨E5, hO⟩
        rw [nats_len, List.take_length] at hO
        have hcast : (((needN d).getD g []).map fun o => ((lenF (needN d) (ord.take i) o : Nat) : Int)) = (((needN d).getD g []).map (lenF (needN d) (ord.take i))).map fun k : Nat => (k : Int) := by rw [List.map_map]; rfl
        dsimp only [tNil, tCons, tC]
        refine rMaxDf_of (m := ((mxF (lenF (needN d) (ord.take i)) ((needN d).getD g []) : Nat) : Int)) (SqL.of hO) (fun e => ?_) (fun n r e => ?_) ?_
        · have : (needN d).getD g [] = [] := List.map_eq_nil_iff.mp e
          rw [this]; rfl
        · rw [hcast] at e
          unfold mxF
          cases hl : ((needN d).getD g []).map (lenF (needN d) (ord.take i)) with
          | nil => rw [hl] at e; cases e
          | cons x l =>
            rw [hl, List.map_cons] at e
            cases e
            rw [foldl_cast, List.foldl_cons, show max 0 x = x by omega]
        have hL5 := E5 _ _ hL4
        have hgn : g < d.gates.length := by omega
        refine ⟨_, _, rfl, rfl, _, rfl, _, rfl, LL, _, _, g, rfl, rfl, hL5, ixN_nat (by rw [List.length_map, lensI_len]; exact hgn), ?_⟩
        have e5 : ∀ m : Nat, (fun i j : Int => V.int (i + j)) 1 (m : Int) = V.int ((1 + m : Nat) : Int) := fun m => by
          show V.int (1 + (m : Int)) = _
          rw [show (1 : Int) + (m : Int) = ((1 + m : Nat) : Int) by omega]
        rw [e5, ← List.map_set, lensI_snoc, ← take_snoc1 hg]
        have E6 := (E4.trans E5).mut (o := .lst ((lensI (needN d) (ord.take (i + 1)) d.gates.length).map V.int)) nL2
        have hL6 : upd H5 LL (.lst ((lensI (needN d) (ord.take (i + 1)) d.gates.length).map V.int)) LL = some (.lst ((lensI (needN d) (ord.take (i + 1)) d.gates.length).map V.int)) := upd_same
        generalize upd H5 LL (.lst ((lensI (needN d) (ord.take (i + 1)) d.gates.length).map V.int)) = H6 at *
        refine ⟨_, rfl, _, rfl, LL, _, _, _, rfl, rfl, SqL.of hL6, at_of (j := g) rfl (by rw [List.getElem?_map, lensI_at hgn]; rfl), _, _, rfl, rfl, _, rfl, ite2 (fun c2 => ?_) (fun c2 => ?_)⟩
        · have hdp : 100 < lenF (needN d) (ord.take (i + 1)) g := by have := of_decide_eq_true c2; omega
          obtain ⟨g', hg'⟩ : ∃ g', d.gates[g]? = some g' := ⟨_, List.getElem?_eq_getElem hgn⟩
          obtain ⟨b', xs, hb', hbx, hx0⟩ := hgate g g' hg'
          have e06 := E02.trans E6
          have hn1 := hnm g' (List.mem_of_getElem? hg')
          have l1 : ("a path to gate " : Str).length = 15 := rfl
          have l2 : (" has more than " : Str).length = 15 := rfl
          have l3 : (" gates" : Str).length = 6 := rfl
          have l4 : (Str.ofString (toString (100 : Int))).length = 3 := by decide
          have l0 : Str.empty.length = 0 := rfl
          refine ⟨_, rfl, ?_, _, rfl, _, rfl, gt, _, _, .ref b', rfl, rfl, SqT.of (e06 _ _ hgt), at_of (j := g) rfl (by rw [List.getElem?_map, hb']; rfl), _, _, _, _, rfl, rfl, SqT.of (e06 _ _ hbx), atI_nat (j := 0) hx0, .inl ⟨g'.name, rfl, sz_of (by omega), _, rfl, ?_, _, rfl, ?_, .inr ⟨100, rfl, by decide, _, rfl, ?_, _, rfl, ?_, (by show 1 ≤ sizeLine; decide), q2 hfull ⟨i, g, hg, hdp⟩ _ e06⟩⟩⟩
          all_goals exact sz_of (by simp only [str_len_app5, l0, l1, l2, l3, l4]; omega)
        · refine ⟨E6, hL6, fun j k hj hk => ?_, _, rfl⟩
          rcases Nat.lt_succ_iff_lt_or_eq.mp hj with z | z
          · exact hok j k z hk
          · subst z
            rw [hg] at hk
            cases hk
            have : ¬ ((lenF (needN d) (ord.take (j + 1)) g : Nat) : Int) > 100 := fun z => c2 (decide_eq_true z)
            omega
    · rintro σ H4 ⟨E4, hL4, hok, z3, rfl⟩
      refine q1 hfull (fun ⟨i, k, hi, hd⟩ => ?_) _ (E02.trans E4)
      have := hok i k (by rw [nats_len]; exact (List.getElem?_eq_some_iff.mp hi).1) hi
      omega
end
end G
namespace G
open PySem PySem.Spec PyProof.Rows L2 Evl TL
/-! ## check_circuit -/
def readsD (d : CircD) : List Str := d.gates.flatMap (·.pins) ++ d.regs.map (·.net) ++ d.outs.map (·.2)
def CntD (d : CircD) : Prop := ∀ g ∈ d.gates, CntG g
def NetD (d : CircD) : Prop := ∀ x ∈ readsD d, x ∈ namesD d
def RngD (d : CircD) : Prop := (∀ g ∈ d.gates, ∀ r ∈ g.rng, okR r) ∧ ∀ r ∈ d.regs, RegG r
/-- not many of anything -/
structure FewD (d : CircD) : Prop where
  nm : (namesD d).length ≤ 1000
  gs : d.gates.length ≤ 200
  rs : d.regs.length ≤ 200
  os : d.outs.length ≤ 200
  gn : ∀ g ∈ d.gates, g.name.length ≤ 1000
  rn : ∀ r ∈ d.regs, r.name.length ≤ 1000
  tx : ∀ x ∈ readsD d, x.length ≤ 1000
theorem flat_leS {α β : Type} {f : α → List β} {k : Nat} : ∀ l : List α, (∀ x ∈ l, (f x).length ≤ k) → (l.flatMap f).length ≤ l.length * k
  | [], _ => Nat.zero_le _
  | x :: l, h => by
    rw [List.flatMap_cons, List.length_append, List.length_cons, Nat.succ_mul]
    have := h x (List.mem_cons_self ..)
    have := flat_leS l fun y hy => h y (List.mem_cons_of_mem _ hy)
    omega
theorem gn_of {d : CircD} (h : NmD d) (hf : FewD d) (hc : CntD d) : GN d := by
  refine ⟨?_, hf.gs, fun g hg => by have := (hc g hg).1; omega⟩
  have := h.1
  unfold namesD at this
  exact (List.nodup_append.mp (List.nodup_append.mp this).1).2.1
section
variable {P : Program} {w : World} {K : PySem.W.Frag} {mg : Str → Option Value} {base : Heap}
def spCkD (Cn Cw Cu Cr Dc Lc : Addr) : Sp := fun vs H Q E => ∃ (c : Addr) (d : CircD) (it gt rt ot : Addr) (ga ra oa : List Addr), vs = [.ref c] ∧ CircAt H c d it gt rt ot ga ra oa ∧ FewD d ∧
  (¬ NmD d → ∀ H', Ex H H' → E (.ref Cn) none H') ∧ (NmD d → ¬ CntD d → ∀ H', Ex H H' → E (.ref Cw) none H') ∧ (NmD d → CntD d → ¬ NetD d → ∀ H', Ex H H' → E (.ref Cu) none H') ∧ (NmD d → CntD d → NetD d → ¬ RngD d → ∀ H', Ex H H' → E (.ref Cr) none H') ∧
  (NmD d → CntD d → NetD d → RngD d → ∀ ord, LOrd (needN d) ord →
    (ord.length = d.gates.length → ¬ DeepP (needN d) ord → ∀ H', Ex H H' → Q .non H') ∧ (ord.length = d.gates.length → DeepP (needN d) ord → ∀ H', Ex H H' → E (.ref Dc) none H') ∧
    (ord.length < d.gates.length → ∀ (H1 : Hp) (dd tp : Addr) (way : List Nat), Ex H H1 → H1 dd = none → CycOk (needN d) ord way → H1 tp = some (.tup ((way.map fun k => (gnames d).getD k "").map V.str)) → E (.ref Lc) (some dd) (upd H1 dd (.xd [("names", .ref tp)]))))
theorem sc_check_circuit : FnScope ["circuit", "_", "gates", "regs", "outputs", "gate", "read", "reg", "stored", "pair", "net"] ["circuit"] (defScope s_check_circuit) := ⟨rfl, rfl, rfl, by decide +kernel, rfl, by decide +kernel, by decide +kernel⟩
theorem ok_check_circuit {Cn Cw Cu Cr Dc Lc : Addr} (D : Dfd K mg "check_circuit" s_check_circuit ["circuit"]) (C1 : HasN P w K mg base 2 "_check_names" ["circuit"] (spCkN Cn)) (C2 : HasN P w K mg base 1 "_check_counts" ["gate"] (spCkC Cw)) (C3 : HasN P w K mg base 2 "check_nets" ["circuit", "names"] (spCheck Cu))
    (C4 : HasN P w K mg base 1 "check_pin_range" ["pair"] (spPin Cr)) (C5 : HasN P w K mg base 1 "check_reg" ["reg"] (spCkR Cr)) (C6 : HasN P w K mg base 4 "_check_paths" ["gates"] (spCkP Dc Lc)) : HasN P w K mg base 5 "check_circuit" ["circuit"] (spCkD Cn Cw Cu Cr Dc Lc) := by
  obtain ⟨f_check_names, d_check_names, G_check_names, g_check_names, k_check_names, b_check_names⟩ := C1
  obtain ⟨f_check_counts, d_check_counts, G_check_counts, g_check_counts, k_check_counts, b_check_counts⟩ := C2
  obtain ⟨f_check_nets, d_check_nets, G_check_nets, g_check_nets, k_check_nets, b_check_nets⟩ := C3
  obtain ⟨f_check_pin_range, d_check_pin_range, G_check_pin_range, g_check_pin_range, k_check_pin_range, b_check_pin_range⟩ := C4
  obtain ⟨f_check_reg, d_check_reg, G_check_reg, g_check_reg, k_check_reg, b_check_reg⟩ := C5
  obtain ⟨f_check_paths, d_check_paths, G_check_paths, g_check_paths, k_check_paths, b_check_paths⟩ := C6
  obtain ⟨f, fd, F, gf, bf⟩ := D
  refine ⟨f, fd, F.okN sc_check_circuit (fun vs H Q E h => ?_) (fun cdv A outer s H vs Q E hr h => ?_), gf, F.kp, bf⟩
  · obtain ⟨c, d, it, gt, rt, ot, ga, ra, oa, rfl, _⟩ := h
    rfl
  · obtain ⟨c, d, it, gt, rt, ot, ga, ra, oa, rfl, hc, hf, eN, eW, eU, eR, hP⟩ := h
    refine ⟨_, (pss_cons (ps_asg (pv 0) (pg_tup rfl (pgs_cons (pg_name (i := 1) sc_check_circuit.nd rfl (.inl rfl)) (pgs_cons (pg_name (i := 2) sc_check_circuit.nd rfl (.inl rfl)) (pgs_cons (pg_name (i := 3) sc_check_circuit.nd rfl (.inl rfl)) (pgs_cons (pg_name (i := 4) sc_check_circuit.nd rfl (.inl rfl)) pgs_nil))))))
    (pss_cons (ps_expr (pe_call G_check_names (hr.mono (by omega)) (by rfl) g_check_names k_check_names b_check_names .nil (L2N.passes_call (L2N.takes_of rfl rfl rfl rfl) fun _ _ _ _ h => h) (pa_cons (pv 0) pa_nil)))
    (pss_cons (ps_for (passes_of rfl) rfl (pi_tup (pv 2)) (pg_name (i := 5) sc_check_circuit.nd rfl (.inl rfl))
      (pss_one (ps_expr (pe_call G_check_counts (hr.mono (by omega)) (by rfl) g_check_counts k_check_counts b_check_counts .nil (L2N.passes_call (L2N.takes_of rfl rfl rfl rfl) fun _ _ _ _ h => h) (pa_cons (pv 5) pa_nil)))))
    (pss_cons (ps_setLc2 (i := 6) (own := [("gate", 5), ("net", 10)]) (vs1 := [10]) (g := (gName 5)) (tt := tYes) (g1 := (gName 10)) (tt1 := tYes) rfl sc_check_circuit.nd rfl rfl (sw_true rfl rfl rfl (by decide +kernel)) (pi_tup (pv 2)) (blkOk_by (N := ["circuit", "_", "gates", "regs", "outputs", "gate", "read", "reg", "stored", "pair", "net"]) (sc := defScope s_check_circuit) (own := [("gate", 5), ("net", 10)]) (by decide +kernel)) (by decide) (fun _ _ _ _ _ => (pg_name (i := 5) sc_check_circuit.nd rfl (.inl rfl))) (fun _ _ _ _ _ => pts_nil) (fun _ _ _ _ _ => (kPiT (K := K) rfl (pe_ix (kIxT (K := K) rfl) (pv 5) pe_int (fun _ _ => rfl)))) (fun _ _ _ _ _ => (pg_name (i := 10) sc_check_circuit.nd rfl (.inl rfl))) (fun _ _ _ _ _ => pts_nil) (fun _ _ _ _ _ => (pv 10)))
    (pss_cons (ps_setLc (i := 8) (own := [("reg", 7)]) (g := gName 7) (tt := tYes) rfl sc_check_circuit.nd rfl rfl (sw_true rfl rfl rfl (by decide +kernel)) (pi_tup (pv 3)) (blkOk_by (N := ["circuit", "_", "gates", "regs", "outputs", "gate", "read", "reg", "stored", "pair", "net"]) (sc := defScope s_check_circuit) (own := [("reg", 7)]) (by decide +kernel)) (fun _ _ _ _ _ => (pg_name (i := 7) sc_check_circuit.nd rfl (.inl rfl))) (fun _ _ _ _ _ => pts_nil) (fun _ _ _ _ _ => (pe_ix (kIxT (K := K) rfl) (pv 7) pe_int (fun _ _ => rfl))))
    (pss_cons (ps_expr (pe_call G_check_nets (hr.mono (by omega)) (by rfl) g_check_nets k_check_nets b_check_nets .nil (L2N.passes_call (L2N.takes_of rfl rfl rfl rfl) fun _ _ _ _ h => h) (pa_cons (pv 0) (pa_cons (pe_op op_cat (pe_op op_cat (pv 6) (pv 8)) (pe_lc (own := [("_", 1), ("net", 10)]) (g := gTup K 2 (gCons (gName 1) (gCons (gName 10) gNil))) (tt := tYes) rfl sc_check_circuit.nd (pi_tup (pv 4)) (blkOk_by (N := ["circuit", "_", "gates", "regs", "outputs", "gate", "read", "reg", "stored", "pair", "net"]) (sc := defScope s_check_circuit) (own := [("_", 1), ("net", 10)]) (by decide +kernel)) (fun _ _ _ _ _ => (pg_tup rfl (pgs_cons (pg_name (i := 1) sc_check_circuit.nd rfl (.inl rfl)) (pgs_cons (pg_name (i := 10) sc_check_circuit.nd rfl (.inl rfl)) pgs_nil)))) (fun _ _ _ _ _ => pts_nil) (fun _ _ _ _ _ => (pv 10)))) pa_nil))))
    (pss_cons (ps_for (passes_of rfl) rfl (pi_tup (pv 2)) (pg_name (i := 5) sc_check_circuit.nd rfl (.inl rfl))
      (pss_one (ps_for (passes_of rfl) rfl (pi_tup (pe_ix ix_tup (pv 5) pe_int (fun _ _ => rfl))) (pg_name (i := 9) sc_check_circuit.nd rfl (.inl rfl))
        (pss_one (ps_expr (pe_call G_check_pin_range (hr.mono (by omega)) (by rfl) g_check_pin_range k_check_pin_range b_check_pin_range .nil (L2N.passes_call (L2N.takes_of rfl rfl rfl rfl) fun _ _ _ _ h => h) (pa_cons (pv 9) pa_nil)))))))
    (pss_cons (ps_for (passes_of rfl) rfl (pi_tup (pv 3)) (pg_name (i := 7) sc_check_circuit.nd rfl (.inl rfl))
      (pss_one (ps_expr (pe_call G_check_reg (hr.mono (by omega)) (by rfl) g_check_reg k_check_reg b_check_reg .nil (L2N.passes_call (L2N.takes_of rfl rfl rfl rfl) fun _ _ _ _ h => h) (pa_cons (pv 7) pa_nil)))))
    (pss_one (ps_expr (pe_call G_check_paths (hr.mono (by omega)) (by rfl) g_check_paths k_check_paths b_check_paths .nil (L2N.passes_call (L2N.takes_of rfl rfl rfl rfl) fun _ _ _ _ h => h) (pa_cons (pv 2) pa_nil)))))))))))), ?_⟩
    have hgl := hc.gates.1
    have hrl := hc.regs.1
    have hol := hc.outs.1
    have hgs := hf.gs
    have hrs := hf.rs
    have hos := hf.os
    refine ⟨_, rfl, c, _, rfl, SqT.of hc.top, rfl, _, _, rfl, _, _, rfl, _, _, rfl, _, _, rfl, rfl, ?_⟩
    simp only [wipe, _root_.L2.start, List.map_cons, List.map_nil, List.length_cons, List.length_nil, Nat.reduceAdd, Nat.reduceSub, List.replicate_succ, List.replicate_zero, List.cons_append, List.nil_append, List.set_cons_zero, List.set_cons_succ]
    refine ⟨_, rfl, c, d, it, gt, rt, ot, ga, ra, oa, rfl, hc, hf.nm, by omega, fun hNm H1 E1 => ?_, eN⟩
    refine ⟨_, rfl, gt, rfl, ⟨_, SqT.of (E1 _ _ hc.gts)⟩, for_tup (K := K) (a := gt) (xs := ga.map V.ref)
      (fun i σ H' => H' = H1 ∧ (∀ g ∈ d.gates.take i, CntG g) ∧ ∃ z5 : Option V, σ = [some (.ref c), some (.ref it), some (.ref gt), some (.ref rt), some (.ref ot), z5, none, none, none, none, none])
      ⟨rfl, (by rw [List.take_zero]; exact fun _ h => nomatch h), _, rfl⟩ (fun i σ H' _ g => by rw [g.1]; exact SqT.of (E1 _ _ hc.gts)) ?_ ?_⟩
    · rintro i x σ H2 hx ⟨rfl, hall, z5, rfl⟩
      obtain ⟨b, hb, rfl⟩ := refs_get hx
      obtain ⟨g, hg, hga⟩ := hc.gates.at_ hb
      have hgm := List.mem_of_getElem? hg
      refine ⟨_, rfl, b, g, rfl, hga.te (.of E1), hf.gn g hgm, fun hcg => ⟨rfl, fun g' hg' => ?_, _, rfl⟩, fun hcg => eW hNm (fun z => hcg (z g hgm)) _ E1⟩
      rw [take_snoc1 hg] at hg'
      rcases List.mem_append.mp hg' with z | z
      · exact hall g' z
      · rw [List.mem_singleton.mp z]; exact hcg
    rintro σ H2 ⟨rfl, hCnt, z5, rfl⟩
    rw [List.length_map, hgl, List.take_length] at hCnt
    have hCnt : CntD d := hCnt
    have hflat := flat_leS (f := fun g : GateD => g.pins) (k := 6) d.gates fun g hg => (hCnt g hg).1
    refine ⟨_, rfl, gt, rfl, ⟨_, SqT.of (E1 _ _ hc.gts)⟩, fun RL nRL => wk_tup (K := K) (a := gt) (xs := ga.map V.ref)
      (fun j H' => Ex H2 H' ∧ H' RL = some (.lst (((d.gates.take j).flatMap fun g : GateD => g.pins).map V.str))) ⟨Ex.new nRL, upd_same⟩ (fun j H' _ z => SqT.of ((E1.trans z.1) _ _ hc.gts)) ?_ ?_⟩
    · rintro j y H3 hy ⟨E3, hL⟩
      obtain ⟨b, hb, rfl⟩ := refs_get hy
      obtain ⟨g, hg, t, pt, rgt, rga, a1, a2, a3, a4, a5⟩ := hc.gates.at_ hb
      have hj : j < d.gates.length := (List.getElem?_eq_some_iff.mp hg).1
      have h6 := (hCnt g (List.mem_of_getElem? hg)).1
      have hfj := flat_leS (f := fun g : GateD => g.pins) (k := 6) (d.gates.take j) fun g hg => (hCnt g (List.mem_of_mem_take hg)).1
      rw [List.length_take] at hfj
      have e03 := E1.trans E3
      refine ⟨(by rw [wipe_set (by decide), wipe_wipe]), tYes_in ?_⟩
      simp only [wipe, _root_.L2.start, List.map_cons, List.map_nil, List.length_cons, List.length_nil, Nat.reduceAdd, Nat.reduceSub, List.replicate_succ, List.replicate_zero, List.cons_append, List.nil_append, List.set_cons_zero, List.set_cons_succ]
      refine ⟨_, rfl, _, _, _, _, rfl, rfl, SqT.of (e03 _ _ a1), atI_nat (j := 2) rfl, pt, rfl, ⟨_, SqT.of (e03 _ _ a3)⟩, wk_tup (K := K) (a := pt) (xs := g.pins.map V.str)
        (fun k H' => Ex H2 H' ∧ H' RL = some (.lst ((((d.gates.take j).flatMap fun g : GateD => g.pins) ++ g.pins.take k).map V.str))) ⟨E3, ?_⟩ (fun k H' _ z => SqT.of ((E1.trans z.1) _ _ a3)) ?_ ?_⟩
      · rw [List.take_zero, List.append_nil]; exact hL
      · rintro k y H4 hy ⟨E4, hL4⟩
        rw [List.getElem?_map] at hy
        obtain ⟨p, hp, rfl⟩ := Option.map_eq_some_iff.mp hy
        have hk : k < g.pins.length := (List.getElem?_eq_some_iff.mp hp).1
        refine ⟨rfl, tYes_in ?_⟩
        simp only [wipe, _root_.L2.start, List.map_cons, List.map_nil, List.length_cons, List.length_nil, Nat.reduceAdd, Nat.reduceSub, List.replicate_succ, List.replicate_zero, List.cons_append, List.nil_append, List.set_cons_zero, List.set_cons_succ]
        refine ⟨_, rfl, _, hL4, sz_lt (by rw [List.length_map, List.length_append, List.length_take]; omega), E4.mut nRL, ?_⟩
        rw [upd_same, take_snoc1 hp]
        simp only [List.map_append, List.append_assoc]; rfl
      · rintro H4 ⟨E4, hL4⟩
        rw [List.length_map, List.take_length] at hL4
        refine ⟨E4, ?_⟩
        rw [hL4, take_snoc1 hg, List.flatMap_append]
        simp
    rintro H3 ⟨E3, hRL⟩
    rw [List.length_map, hgl, List.take_length] at hRL
    have e03 := E1.trans E3
    simp only [wipe, _root_.L2.start, List.map_cons, List.map_nil, List.length_cons, List.length_nil, Nat.reduceAdd, Nat.reduceSub, List.replicate_succ, List.replicate_zero, List.cons_append, List.nil_append, List.set_cons_zero, List.set_cons_succ]
    refine ⟨_, rfl, rt, rfl, ⟨_, SqT.of (e03 _ _ hc.rgs)⟩, fun SL nSL => wk_tup (K := K) (a := rt) (xs := ra.map V.ref)
      (fun j H' => Ex H3 H' ∧ H' SL = some (.lst (((d.regs.take j).map fun r : RegD => r.net).map V.str))) ⟨Ex.new nSL, upd_same⟩ (fun j H' _ z => SqT.of ((e03.trans z.1) _ _ hc.rgs)) ?_ ?_⟩
    · rintro j y H4 hy ⟨E4, hL⟩
      obtain ⟨b, hb, rfl⟩ := refs_get hy
      obtain ⟨r, hr', ea, ob, a1, a2, a3⟩ := hc.regs.at_ hb
      have hj : j < d.regs.length := (List.getElem?_eq_some_iff.mp hr').1
      refine ⟨(by rw [wipe_set (by decide), wipe_wipe]), tYes_in ?_⟩
      simp only [wipe, _root_.L2.start, List.map_cons, List.map_nil, List.length_cons, List.length_nil, Nat.reduceAdd, Nat.reduceSub, List.replicate_succ, List.replicate_zero, List.cons_append, List.nil_append, List.set_cons_zero, List.set_cons_succ]
      refine ⟨_, rfl, _, _, _, _, rfl, rfl, SqT.of ((e03.trans E4) _ _ a1), atI_nat (j := 1) rfl, _, hL, sz_lt (by rw [List.length_map, List.length_map, List.length_take]; omega), E4.mut nSL, ?_⟩
      rw [upd_same, take_snoc1 hr', List.map_append, List.map_append]; rfl
    rintro H4 ⟨E4, hSL⟩
    rw [List.length_map, hrl, List.take_length] at hSL
    have e04 := e03.trans E4
    simp only [wipe, _root_.L2.start, List.map_cons, List.map_nil, List.length_cons, List.length_nil, Nat.reduceAdd, Nat.reduceSub, List.replicate_succ, List.replicate_zero, List.cons_append, List.nil_append, List.set_cons_zero, List.set_cons_succ]
    have hRL4 := E4 _ _ hRL
    refine ⟨_, rfl, _, rfl, _, rfl, RL, SL, _, _, rfl, rfl, hRL4, hSL, sz_of (by rw [List.length_map, List.length_map, List.length_map]; omega), fun L1 n1 => ?_⟩
    rw [← List.map_append]
    have E5 := Ex.new (o := .lst ((d.gates.flatMap (fun g : GateD => g.pins) ++ d.regs.map fun r : RegD => r.net).map V.str)) n1
    have hL1 : (upd H4 L1 (.lst ((d.gates.flatMap (fun g : GateD => g.pins) ++ d.regs.map fun r : RegD => r.net).map V.str))) L1 = some (.lst ((d.gates.flatMap (fun g : GateD => g.pins) ++ d.regs.map fun r : RegD => r.net).map V.str)) := upd_same
    generalize upd H4 L1 (.lst ((d.gates.flatMap (fun g : GateD => g.pins) ++ d.regs.map fun r : RegD => r.net).map V.str)) = H5 at *
    have e05 := e04.trans E5
    refine ⟨_, rfl, ot, rfl, ⟨_, SqT.of (e05 _ _ hc.ots)⟩, fun OL nOL => wk_tup (K := K) (a := ot) (xs := oa.map V.ref)
      (fun j H' => Ex H5 H' ∧ H' OL = some (.lst (((d.outs.take j).map fun o : Str × Str => o.2).map V.str))) ⟨Ex.new nOL, upd_same⟩ (fun j H' _ z => SqT.of ((e05.trans z.1) _ _ hc.ots)) ?_ ?_⟩
    · rintro j y H6 hy ⟨E6, hL⟩
      obtain ⟨b, hb, rfl⟩ := refs_get hy
      obtain ⟨o, ho, a1⟩ := hc.outs.at_ hb
      have hj : j < d.outs.length := (List.getElem?_eq_some_iff.mp ho).1
      refine ⟨b, _, rfl, SqT.of ((e05.trans E6) _ _ a1), rfl, _, _, rfl, _, _, rfl, rfl, (by rw [wipe_set (by decide), wipe_set (by decide), wipe_wipe]), tYes_in ?_⟩
      simp only [wipe, _root_.L2.start, List.map_cons, List.map_nil, List.length_cons, List.length_nil, Nat.reduceAdd, Nat.reduceSub, List.replicate_succ, List.replicate_zero, List.cons_append, List.nil_append, List.set_cons_zero, List.set_cons_succ]
      refine ⟨_, rfl, _, hL, sz_lt (by rw [List.length_map, List.length_map, List.length_take]; omega), E6.mut nOL, ?_⟩
      rw [upd_same, take_snoc1 ho, List.map_append, List.map_append]; rfl
    rintro H6 ⟨E6, hOL⟩
    rw [List.length_map, hol, List.take_length] at hOL
    have e06 := e05.trans E6
    refine ⟨L1, OL, _, _, rfl, rfl, E6 _ _ hL1, hOL, sz_of (by rw [List.length_map, List.length_map, List.length_append, List.length_map, List.length_map]; omega), fun L2 n2 => ?_⟩
    rw [← List.map_append]
    have e07 := e06.trans (Ex.new (o := .lst ((d.gates.flatMap (fun g : GateD => g.pins) ++ (d.regs.map fun r : RegD => r.net) ++ d.outs.map fun o : Str × Str => o.2).map V.str)) n2)
    refine ⟨c, L2, d, readsD d, it, gt, rt, ot, ga, ra, oa, rfl, hc.te (.of e07), hf.nm, upd_same, hf.tx, fun hNet H7 E7 => ?_, fun ⟨x, hx, hno⟩ H' E' => eU hNm hCnt (fun z => hno (z x hx)) H' (e07.trans E')⟩
    have hNet : NetD d := hNet
    have e7 := e07.trans E7
    refine ⟨_, rfl, gt, rfl, ⟨_, SqT.of (e7 _ _ hc.gts)⟩, for_tup (K := K) (a := gt) (xs := ga.map V.ref)
      (fun i σ H' => H' = H7 ∧ (∀ g ∈ d.gates.take i, ∀ r ∈ g.rng, okR r) ∧ ∃ z5 z9 : Option V, σ = [some (.ref c), some (.ref it), some (.ref gt), some (.ref rt), some (.ref ot), z5, some (.ref RL), none, some (.ref SL), z9, none])
      ⟨rfl, (by rw [List.take_zero]; exact fun _ h => nomatch h), _, _, rfl⟩ (fun i σ H' _ g => by rw [g.1]; exact SqT.of (e7 _ _ hc.gts)) ?_ ?_⟩
    · rintro i x σ H8 hx ⟨rfl, hall, z5, z9, rfl⟩
      obtain ⟨b, hb, rfl⟩ := refs_get hx
      obtain ⟨g, hg, t, pt, rgt, rga, a1, a2, a3, a4, a5⟩ := hc.gates.at_ hb
      have hgm := List.mem_of_getElem? hg
      refine ⟨_, rfl, _, _, _, _, rfl, rfl, SqT.of (e7 _ _ a1), atI_nat (j := 3) rfl, rgt, rfl, ⟨_, SqT.of (e7 _ _ a4)⟩, for_tup (K := K) (a := rgt) (xs := rga.map V.ref)
        (fun j σ H' => H' = H8 ∧ (∀ r ∈ g.rng.take j, okR r) ∧ ∃ z9 : Option V, σ = [some (.ref c), some (.ref it), some (.ref gt), some (.ref rt), some (.ref ot), some (.ref b), some (.ref RL), none, some (.ref SL), z9, none])
        ⟨rfl, (by rw [List.take_zero]; exact fun _ h => nomatch h), _, rfl⟩ (fun i σ H' _ g => by rw [g.1]; exact SqT.of (e7 _ _ a4)) ?_ ?_⟩
      · rintro j x σ H9 hx ⟨rfl, hallj, z9, rfl⟩
        obtain ⟨u, hu, rfl⟩ := refs_get hx
        obtain ⟨p, hp, hup⟩ := a5.at_ hu
        refine ⟨_, rfl, u, p, rfl, e7 _ _ hup, fun ok => ⟨rfl, fun r hr' => ?_, _, rfl⟩, fun nok H' E' => eR hNm hCnt hNet (fun z => nok (z.1 g hgm p (List.mem_of_getElem? hp))) H' (e7.trans E')⟩
        rw [take_snoc1 hp] at hr'
        rcases List.mem_append.mp hr' with z | z
        · exact hallj r z
        · rw [List.mem_singleton.mp z]; exact ok
      · rintro σ H9 ⟨rfl, hallj, z9, rfl⟩
        rw [List.length_map, a5.1, List.take_length] at hallj
        refine ⟨rfl, fun g' hg' => ?_, _, _, rfl⟩
        rw [take_snoc1 hg] at hg'
        rcases List.mem_append.mp hg' with z | z
        · exact hall g' z
        · rw [List.mem_singleton.mp z]; exact hallj
    rintro σ H8 ⟨rfl, hRg, z5, z9, rfl⟩
    rw [List.length_map, hgl, List.take_length] at hRg
    refine ⟨_, rfl, rt, rfl, ⟨_, SqT.of (e7 _ _ hc.rgs)⟩, for_tup (K := K) (a := rt) (xs := ra.map V.ref)
      (fun i σ H' => Ex H8 H' ∧ (∀ r ∈ d.regs.take i, RegG r) ∧ ∃ z7 : Option V, σ = [some (.ref c), some (.ref it), some (.ref gt), some (.ref rt), some (.ref ot), z5, some (.ref RL), z7, some (.ref SL), z9, none])
      ⟨.refl _, (by rw [List.take_zero]; exact fun _ h => nomatch h), _, rfl⟩ (fun i σ H' _ g => SqT.of ((e7.trans g.1) _ _ hc.rgs)) ?_ ?_⟩
    · rintro i x σ H9 hx ⟨E9, hall, z7, rfl⟩
      obtain ⟨b, hb, rfl⟩ := refs_get hx
      obtain ⟨r, hr', hra⟩ := hc.regs.at_ hb
      have hrm := List.mem_of_getElem? hr'
      refine ⟨_, rfl, b, r, rfl, hra.te (.of (e7.trans E9)), hf.rn r hrm, fun ok H' E' => ⟨E9.trans E', fun r' hr2 => ?_, _, rfl⟩, fun nok H' E' => eR hNm hCnt hNet (fun z => nok (z.2 r hrm)) H' (e7.trans (E9.trans E'))⟩
      rw [take_snoc1 hr'] at hr2
      rcases List.mem_append.mp hr2 with z | z
      · exact hall r' z
      · rw [List.mem_singleton.mp z]; exact ok
    rintro σ H9 ⟨E9, hRr, z7, rfl⟩
    rw [List.length_map, hrl, List.take_length] at hRr
    have e9 := e7.trans E9
    have hc9 := hc.te (.of e9)
    refine ⟨_, rfl, gt, d, ga, rfl, hc9.gts, hc9.gates, gn_of hNm hf hCnt, hf.gn, fun ord hL => ?_⟩
    obtain ⟨p1, p2, p3⟩ := hP hNm hCnt hNet ⟨hRg, hRr⟩ ord hL
    exact ⟨fun a b H' E' => p1 a b H' (e9.trans E'), fun a b H' E' => p2 a b H' (e9.trans E'), fun a H1' dd tp way E' nd hC ht => p3 a H1' dd tp way (e9.trans E') nd hC ht⟩
end
end G
namespace G
open PySem PySem.Spec PyProof.Rows L2 Evl TL
/-! ## sound circuits -/
section
variable {d : CircD}
theorem nd_sub {α : Type} [BEq α] [LawfulBEq α] : ∀ (a b : List α), a.Nodup → (∀ x ∈ a, x ∈ b) → a.length ≤ b.length
  | [], _, _, _ => Nat.zero_le _
  | x :: a, b, d, m => by
    obtain ⟨d1, d2⟩ := List.nodup_cons.mp d
    have hx := m x List.mem_cons_self
    have := nd_sub a (b.erase x) d2 fun y hy => (List.mem_erase_of_ne fun e : y = x => d1 (e ▸ hy)).mpr (m y (List.mem_cons_of_mem _ hy))
    rw [List.length_erase_of_mem hx] at this
    have := List.length_pos_of_mem hx
    rw [List.length_cons]; omega
theorem fold_le {N : List (List Nat)} : ∀ (l : List Nat) (f : Nat → Nat) (b : Nat), (∀ x, f x ≤ b) → ∀ x, l.foldl (stepL N) f x ≤ b + l.length
  | [], f, b, h, x => h x
  | g :: l, f, b, h, x => by
    rw [List.foldl_cons, List.length_cons]
    have := fold_le (N := N) l (stepL N f g) (b + 1) (fun y => by
      unfold stepL
      by_cases e : y = g
      · rw [if_pos e]
        have hm : ∀ (l : List Nat) (n : Nat), n ≤ b → (l.map f).foldl max n ≤ b := fun l => by
          induction l with
          | nil => exact fun n hn => hn
          | cons z l ih =>
            intro n hn
            rw [List.map_cons, List.foldl_cons]
            exact ih _ (by have := h z; omega)
        have := hm (N.getD g []) 0 (Nat.zero_le _)
        show 1 + mxF f (N.getD g []) ≤ _
        unfold mxF
        omega
      · rw [if_neg e]
        have := h y; omega) x
    omega
theorem lenF_le {N : List (List Nat)} (ord : List Nat) (x : Nat) : lenF N ord x ≤ ord.length := by
  have := fold_le (N := N) ord (fun _ => 0) 0 (fun _ => Nat.le_refl _) x
  rw [Nat.zero_add] at this
  exact this
/-- where none reads itself, the order takes all -/
theorem rank_all {rank : Str → Nat} (hr : ∀ g ∈ d.gates, ∀ x ∈ g.pins, x ∈ gnames d → rank x < rank g.name) {ord : List Nat} (L : LOrd (needN d) ord) : ord.length = d.gates.length ∧ ∀ k, k < d.gates.length → k ∈ ord := by
  have all : ∀ r k, (hk : k < d.gates.length) → rank (d.gates[k]).name = r → k ∈ ord := by
    intro r
    induction r using Nat.strongRecOn with
    | _ r ih =>
      intro k hk e
      refine L.full k (by rw [need_len]; exact hk) fun o ho => ?_
      rw [need_at (List.getElem?_eq_getElem hk)] at ho
      obtain ⟨x, hx, rfl⟩ := List.mem_map.mp ho
      obtain ⟨hx1, hx2⟩ := List.mem_filter.mp hx
      have hxg := of_decide_eq_true hx2
      have hlt := List.idxOf_lt_length_iff.mpr hxg
      have hlt2 : (gnames d).idxOf x < d.gates.length := by
        have : (gnames d).length = d.gates.length := List.length_map _
        omega
      have hnx : (d.gates[(gnames d).idxOf x]).name = x := by
        have h2 : (gnames d)[(gnames d).idxOf x] = x := List.getElem_idxOf hlt
        have h3 : (gnames d)[(gnames d).idxOf x]? = (d.gates[(gnames d).idxOf x]?).map (fun g : GateD => g.name) := List.getElem?_map ..
        rw [List.getElem?_eq_getElem hlt, List.getElem?_eq_getElem hlt2] at h3
        exact (Option.some.inj h3).symm.trans h2
      have := hr _ (List.getElem_mem hk) x hx1 hxg
      exact ih (rank x) (by omega) _ hlt2 (by rw [hnx])
  refine ⟨Nat.le_antisymm ?_ ?_, fun k hk => all _ k hk rfl⟩
  · have := nodup_len _ ord L.nd L.lt
    rw [need_len] at this; exact this
  · have := nd_sub (List.range d.gates.length) ord List.nodup_range fun k hk => all _ k (List.mem_range.mp hk) rfl
    rw [List.length_range] at this; exact this
theorem few_shallow {ord : List Nat} (L : LOrd (needN d) ord) (h : d.gates.length ≤ 100) : ¬ DeepP (needN d) ord := fun ⟨i, k, hi, hd⟩ => by
  have h1 := lenF_le (N := needN d) (ord.take (i + 1)) k
  rw [List.length_take] at h1
  have h2 := nodup_len _ ord L.nd L.lt
  rw [need_len] at h2
  omega
/-- all that the check asks, and few of each -/
structure Sound (d : CircD) : Prop where
  nm : NmD d
  cnt : CntD d
  net : NetD d
  rng : RngD d
  few : FewD d
  rank : ∃ rank : Str → Nat, ∀ g ∈ d.gates, ∀ x ∈ g.pins, x ∈ gnames d → rank x < rank g.name
theorem Sound.gn (S : Sound d) : GN d := gn_of S.nm S.few S.cnt
theorem Sound.ord (S : Sound d) (h : d.gates.length ≤ 100) {ord : List Nat} (L : LOrd (needN d) ord) : ord.length = d.gates.length ∧ (∀ k, k < d.gates.length → k ∈ ord) ∧ ¬ DeepP (needN d) ord := by
  obtain ⟨rank, hr⟩ := S.rank
  obtain ⟨a, b⟩ := rank_all hr L
  exact ⟨a, b, few_shallow L h⟩
theorem nm_len15 : ∀ c ∈ (["i", "r", "g", "p"] : List Str), ∀ k, k < 16 → (nm c k).length ≤ 10 := by decide +kernel
theorem names_perm (d : CircD) : (namesD d).Perm (srcs d ++ gnames d) := by
  unfold namesD srcs gnames
  rw [List.perm_iff_count]
  intro a
  simp only [List.count_append]
  omega
theorem sound_of {most : Nat} {Gs : List GateD} (W : CircWf most d Gs) (hm : most ≤ 15) : Sound d := by
  obtain ⟨hN, _⟩ := nets_of W hm
  obtain ⟨ni, hi1, hi3, ei⟩ := W.ins
  obtain ⟨nr, hr3, er⟩ := W.regs
  obtain ⟨no, ho3, eo⟩ := W.outs
  have hG := W.few
  have pn := names_perm d
  have hgl : d.gates.length ≤ 15 := by rw [W.perm.length_eq]; omega
  have hrl : d.regs.length = nr := by have := congrArg List.length er; rw [List.length_map, List.length_map, List.length_range] at this; exact this
  have hol : d.outs.length = no := by have := congrArg List.length eo; rw [List.length_map, List.length_map, List.length_range] at this; exact this
  have hgm : ∀ g ∈ d.gates, ∃ k, k < 15 ∧ GateWf (d.ins ++ d.regs.map (·.name) ++ (List.range k).map (nm "g")) k g := fun g hg => by
    obtain ⟨k, hk, e⟩ := List.getElem_of_mem (W.perm.mem_iff.mp hg)
    exact ⟨k, by omega, W.gates k g (List.getElem?_eq_some_iff.mpr ⟨hk, e⟩)⟩
  have lens : ∀ x ∈ namesD d, x.length ≤ 10 := fun x hx => by
    unfold namesD at hx
    rcases List.mem_append.mp hx with h | h
    · rcases List.mem_append.mp h with h | h
      · rw [ei] at h
        obtain ⟨k, hk, e⟩ := List.mem_map.mp h
        rw [← e]
        exact nm_len15 _ nmi_str k (by have := List.mem_range.mp hk; omega)
      · obtain ⟨g, hg, e⟩ := List.mem_map.mp h
        obtain ⟨k, hk, w⟩ := hgm g hg
        rw [← e, w.name]
        exact nm_len15 _ nmg_str k (by omega)
    · rw [er] at h
      obtain ⟨k, hk, e⟩ := List.mem_map.mp h
      rw [← e]
      exact nm_len15 _ nmr_str k (by have := List.mem_range.mp hk; omega)
  have sub : ∀ x ∈ d.ins ++ d.regs.map (·.name) ++ (List.range Gs.length).map (nm "g"), x ∈ namesD d := fun x hx => by
    unfold namesD
    rcases List.mem_append.mp hx with h | h
    · rcases List.mem_append.mp h with h | h
      · exact List.mem_append_left _ (List.mem_append_left _ h)
      · exact List.mem_append_right _ h
    · obtain ⟨k, hk, e⟩ := List.mem_map.mp h
      have hk := List.mem_range.mp hk
      have w := W.gates k _ (List.getElem?_eq_getElem hk)
      refine List.mem_append_left _ (List.mem_append_right _ (List.mem_map.mpr ⟨Gs[k], W.perm.mem_iff.mpr (List.getElem_mem hk), ?_⟩))
      rw [w.name]; exact e
  have net : ∀ x ∈ readsD d, x ∈ namesD d := fun x hx => by
    unfold readsD at hx
    rcases List.mem_append.mp hx with h | h
    · rcases List.mem_append.mp h with h | h
      · obtain ⟨g, hg, hx⟩ := List.mem_flatMap.mp h
        exact pn.mem_iff.mpr (hN.pins g hg x hx)
      · obtain ⟨r, hr, e⟩ := List.mem_map.mp h
        rw [← e]
        exact sub _ (W.rwf r hr).2
    · obtain ⟨o, ho, e⟩ := List.mem_map.mp h
      rw [← e]
      exact sub _ (W.onet o ho)
  have hnl : (namesD d).length ≤ 100 := by
    unfold namesD
    rw [List.length_append, List.length_append, List.length_map, List.length_map, hrl, ei, List.length_map, List.length_range]
    omega
  have gmem : ∀ g ∈ d.gates, g.name ∈ namesD d := fun g hg => by
    unfold namesD
    exact List.mem_append_left _ (List.mem_append_right _ (List.mem_map.mpr ⟨g, hg, rfl⟩))
  have rmem : ∀ r ∈ d.regs, r.name ∈ namesD d := fun r hr => by
    unfold namesD
    exact List.mem_append_right _ (List.mem_map.mpr ⟨r, hr, rfl⟩)
  refine ⟨⟨pn.nodup_iff.mpr hN.nd, ?_⟩, fun g hg => ?_, net, ⟨fun g hg r hr => ?_, fun r hr => ?_⟩, ⟨by omega, by omega, by omega, by omega, fun g hg => ?_, fun r hr => ?_, fun x hx => ?_⟩, hN.rank⟩
  · rw [eo, List.nodup_iff_pairwise_ne, List.pairwise_map]
    refine List.Pairwise.imp_of_mem ?_ (List.nodup_iff_pairwise_ne.mp List.nodup_range)
    intro a b ha hb h e
    exact h (nm_inj _ nmp_str _ nmp_str a (by have := List.mem_range.mp ha; omega) b (by have := List.mem_range.mp hb; omega) e).2
  · obtain ⟨k, hk, w⟩ := hgm g hg
    exact ⟨by have := w.few; omega, w.many, w.tab⟩
  · obtain ⟨k, hk, w⟩ := hgm g hg
    have := w.rng r hr
    exact ⟨this.1, this.2.2.1⟩
  · have w := (W.rwf r hr).1
    exact ⟨⟨⟨w.e0.1, w.e1.1⟩, w.o0.1, by have := w.o1.1; omega⟩, w.su.1, w.ho.1, w.ho.2⟩
  · have := lens _ (gmem g hg); omega
  · have := lens _ (rmem r hr); omega
  · have := lens _ (net x hx); omega
end
end G
namespace G
open PySem PySem.Spec PyProof.Rows L2 Evl TL
/-! ## a gate moved over its regs -/
def regF (d : CircD) (x : Str) : Option RegD := d.regs.find? fun r => decide (r.name = x)
def readM (d : CircD) (g : GateD) : List RegD := g.pins.filterMap (regF d)
def dN (x : Str) : Str := x ++ "/d"
def tmsR (r : RegD) : (Int × Int) × (Int × Int) × Int × Int := (r.edge, r.out, r.setup, r.hold)
def noRg : RegD := ⟨"", "", (0, 0), (0, 0), 0, 0, false⟩
def movG (d : CircD) (g : GateD) : GateD := ⟨dN g.name, g.tab, (readM d g).map (·.net), g.rng⟩
def newR (d : CircD) (g : GateD) : RegD :=
  let r := (readM d g).headD noRg
  ⟨g.name, dN g.name, r.edge, r.out, r.setup, r.hold, lookB g.tab ((readM d g).map (·.start))⟩
def regsM (d : CircD) (g : GateD) : List RegD := d.regs ++ [newR d g]
def usedM (gs : List GateD) (rs : List RegD) (os : List (Str × Str)) : List Str := gs.flatMap (·.pins) ++ rs.map (·.net) ++ os.map (·.2)
def keepM (gs : List GateD) (rs : List RegD) (os : List (Str × Str)) (ns : List Str) : List RegD := rs.filter fun r => decide (r.name ∈ usedM gs rs os) || !decide (r.name ∈ ns)
def movD (d : CircD) (k : Nat) (g : GateD) : CircD := ⟨d.ins, d.gates.set k (movG d g), keepM (d.gates.set k (movG d g)) (regsM d g) d.outs g.pins, d.outs⟩
/-- it may be moved -/
structure Mv (d : CircD) (g : GateD) : Prop where
  ne : g.pins ≠ []
  all : (readM d g).length = g.pins.length
  tms : ∀ r ∈ readM d g, tmsR r = tmsR ((readM d g).headD noRg)
  new : dN g.name ∉ namesD d
structure FewE (d : CircD) : Prop where
  nm : (namesD d).length ≤ 900
  gs : d.gates.length ≤ 190
  rs : d.regs.length ≤ 190
  os : d.outs.length ≤ 190
  tx : ∀ x ∈ namesD d, x.length ≤ 900
theorem regF_some {d : CircD} {x : Str} {r : RegD} (h : regF d x = some r) : r ∈ d.regs ∧ r.name = x := ⟨List.mem_of_find?_eq_some h, of_decide_eq_true (List.find?_some (p := fun r : RegD => decide (r.name = x)) h)⟩
theorem readM_mem {d : CircD} {g : GateD} {r : RegD} (h : r ∈ readM d g) : r ∈ d.regs ∧ r.name ∈ g.pins := by
  obtain ⟨x, hx, e⟩ := List.mem_filterMap.mp h
  obtain ⟨h1, h2⟩ := regF_some e
  exact ⟨h1, by rw [h2]; exact hx⟩
theorem regF_of {d : CircD} (nd : (d.regs.map (·.name)).Nodup) {r : RegD} (h : r ∈ d.regs) : regF d r.name = some r := by
  unfold regF
  revert nd h
  generalize d.regs = rs
  intro nd h
  induction rs with
  | nil => cases h
  | cons q l ih =>
    rw [List.map_cons, List.nodup_cons] at nd
    rw [List.find?_cons]
    by_cases e : q.name = r.name
    · rw [decide_eq_true e]
      rcases List.mem_cons.mp h with z | z
      · rw [z]
      · exact absurd (List.mem_map.mpr ⟨r, z, e.symm⟩) nd.1
    · rw [decide_eq_false e]
      rcases List.mem_cons.mp h with z | z
      · exact absurd (by rw [z]) e
      · exact ih nd.2 z
theorem fm_len {α β : Type} {f : α → Option β} : ∀ l : List α, (l.filterMap f).length ≤ l.length
  | [] => Nat.le_refl _
  | x :: l => by
    have := fm_len (f := f) l
    rw [List.filterMap_cons]
    cases f x with
    | none => rw [List.length_cons]; exact Nat.le_succ_of_le this
    | some y => rw [List.length_cons, List.length_cons]; exact Nat.succ_le_succ this
theorem fm_all {α β : Type} {f : α → Option β} : ∀ l : List α, (l.filterMap f).length = l.length → ∀ x ∈ l, (f x).isSome = true
  | [], _, _, h => nomatch h
  | y :: l, e, x, h => by
    have l1 := fm_len (f := f) l
    rw [List.filterMap_cons] at e
    cases hy : f y with
    | none => rw [hy, List.length_cons] at e; simp only at e; omega
    | some z =>
      rw [hy] at e
      simp only [List.length_cons] at e
      rcases List.mem_cons.mp h with q | q
      · rw [q, hy]; rfl
      · exact fm_all l (by omega) x q
theorem Mv.pin {d : CircD} {g : GateD} (h : Mv d g) {x : Str} (hx : x ∈ g.pins) : ∃ r, regF d x = some r ∧ r ∈ readM d g := by
  have := fm_all g.pins h.all x hx
  cases e : regF d x with
  | none => rw [e] at this; cases this
  | some r => exact ⟨r, rfl, List.mem_filterMap.mpr ⟨x, hx, e⟩⟩
theorem Mv.head {d : CircD} {g : GateD} (h : Mv d g) : (readM d g).headD noRg ∈ readM d g := by
  cases e : readM d g with
  | nil =>
    have := h.all
    rw [e] at this
    exact absurd (List.length_eq_zero_iff.mp this.symm) h.ne
  | cons r l => exact List.mem_cons_self
section
variable {d : CircD} {k : Nat} {g : GateD}
theorem set_map_name (h : d.gates[k]? = some g) : ((d.gates.set k (movG d g)).map (·.name)) = (gnames d).set k (dN g.name) := by
  unfold gnames
  rw [List.map_set]; rfl
theorem perm_set {α : Type} : ∀ {l : List α} {k : Nat} {a b : α}, l[k]? = some a → (b :: l).Perm (a :: l.set k b)
  | x :: l, 0, a, b, h => by
    cases h
    exact List.Perm.swap _ _ _
  | x :: l, k + 1, a, b, h => by
    have h : l[k]? = some a := h
    exact ((List.Perm.swap _ _ _).trans ((perm_set h).cons x)).trans (List.Perm.swap _ _ _)
theorem mem_set_of {α : Type} {l : List α} {k : Nat} {a b x : α} (h : x ∈ l.set k b) (nd : l.Nodup) (ha : l[k]? = some a) : x = b ∨ (x ∈ l ∧ x ≠ a) := by
  obtain ⟨i, hi, e⟩ := List.getElem_of_mem h
  rw [List.getElem_set] at e
  by_cases z : k = i
  · rw [if_pos z] at e; exact .inl e.symm
  · rw [if_neg z] at e
    rw [List.length_set] at hi
    refine .inr ⟨by rw [← e]; exact List.getElem_mem hi, fun q => z ?_⟩
    obtain ⟨hk, ek⟩ := List.getElem?_eq_some_iff.mp ha
    exact (List.getElem_inj nd).mp (ek.trans (q.symm.trans e.symm))
theorem mem_set_old {α : Type} {l : List α} {k : Nat} {a b x : α} (h : x ∈ l) (ha : l[k]? = some a) (ne : x ≠ a) : x ∈ l.set k b := by
  obtain ⟨i, hi, e⟩ := List.getElem_of_mem h
  have z : k ≠ i := fun z => by
    subst z
    rw [List.getElem?_eq_getElem hi, e] at ha
    exact ne (Option.some.inj ha)
  refine List.mem_iff_getElem.mpr ⟨i, by rw [List.length_set]; exact hi, ?_⟩
  rw [List.getElem_set, if_neg z]; exact e
theorem mem_set_new {α : Type} {l : List α} {k : Nat} {a b : α} (ha : l[k]? = some a) : b ∈ l.set k b := by
  obtain ⟨hk, _⟩ := List.getElem?_eq_some_iff.mp ha
  exact List.mem_iff_getElem.mpr ⟨k, by rw [List.length_set]; exact hk, by rw [List.getElem_set, if_pos rfl]⟩
theorem gate_in {gs : List GateD} {x : GateD} {b : GateD} (h : x ∈ gs.set k b) : x = b ∨ x ∈ gs := by
  rcases List.mem_or_eq_of_mem_set h with z | z
  · exact .inr z
  · exact .inl z
theorem name_gate (S : Sound d) (hk : d.gates[k]? = some g) : g.name ∈ gnames d := List.mem_map.mpr ⟨g, List.mem_of_getElem? hk, rfl⟩
theorem nd_parts (S : Sound d) : d.ins.Nodup ∧ (gnames d).Nodup ∧ (d.regs.map (·.name)).Nodup ∧ (∀ x ∈ gnames d, x ∉ d.regs.map (·.name)) := by
  have h := S.nm.1
  unfold namesD at h
  obtain ⟨h1, h2, h3⟩ := List.nodup_append.mp h
  obtain ⟨h4, h5, _⟩ := List.nodup_append.mp h1
  exact ⟨h4, h5, h2, fun x hx hr => h3 x (List.mem_append_right _ hx) x hr rfl⟩
theorem gate_not_pin (S : Sound d) (hk : d.gates[k]? = some g) (M : Mv d g) : g.name ∉ g.pins := fun h => by
  obtain ⟨r, h1, _⟩ := M.pin h
  obtain ⟨h2, h3⟩ := regF_some h1
  exact (nd_parts S).2.2.2 g.name (name_gate S hk) (List.mem_map.mpr ⟨r, h2, h3⟩)
theorem new_kept (S : Sound d) (hk : d.gates[k]? = some g) (M : Mv d g) : newR d g ∈ (movD d k g).regs := by
  refine List.mem_filter.mpr ⟨List.mem_append_right _ (List.mem_singleton.mpr rfl), ?_⟩
  have : decide ((newR d g).name ∈ g.pins) = false := decide_eq_false (gate_not_pin S hk M)
  rw [this]
  exact Bool.or_true _
theorem read_mov (S : Sound d) (hk : d.gates[k]? = some g) (M : Mv d g) {x : Str} (h : x ∈ usedM (d.gates.set k (movG d g)) (regsM d g) d.outs) : x = dN g.name ∨ x ∈ namesD d := by
  have rd : ∀ y ∈ readsD d, y ∈ namesD d := S.net
  have inr : ∀ r ∈ d.regs, r.net ∈ namesD d := fun r hr => rd _ (List.mem_append_left _ (List.mem_append_right _ (List.mem_map.mpr ⟨r, hr, rfl⟩)))
  unfold usedM at h
  rcases List.mem_append.mp h with h | h
  · rcases List.mem_append.mp h with h | h
    · obtain ⟨q, hq, hx⟩ := List.mem_flatMap.mp h
      rcases gate_in hq with z | z
      · rw [z] at hx
        obtain ⟨r, hr, e⟩ := List.mem_map.mp hx
        exact .inr (by rw [← e]; exact inr r (readM_mem hr).1)
      · exact .inr (rd _ (List.mem_append_left _ (List.mem_append_left _ (List.mem_flatMap.mpr ⟨q, z, hx⟩))))
    · obtain ⟨r, hr, e⟩ := List.mem_map.mp h
      rcases List.mem_append.mp hr with z | z
      · exact .inr (by rw [← e]; exact inr r z)
      · rw [List.mem_singleton.mp z] at e
        exact .inl e.symm
  · exact .inr (rd _ (List.mem_append_right _ h))
theorem mov_sound (S : Sound d) (F : FewE d) (hk : d.gates[k]? = some g) (M : Mv d g) : Sound (movD d k g) := by
  obtain ⟨ndi, ndg, ndr, hgr⟩ := nd_parts S
  have hgn : (gnames d)[k]? = some g.name := by unfold gnames; rw [List.getElem?_map, hk]; rfl
  have hgm := List.mem_of_getElem? hk
  have hpl : (movG d g).pins.length = g.pins.length := by show ((readM d g).map _).length = _; rw [List.length_map]; exact M.all
  have hsub : ((movD d k g).regs.map (·.name)).Sublist (d.regs.map (·.name) ++ [g.name]) := by
    have h1 : (movD d k g).regs.Sublist (regsM d g) := List.filter_sublist
    have := h1.map (·.name)
    unfold regsM at this
    rw [List.map_append] at this
    exact this
  have hperm : (d.ins ++ (gnames d).set k (dN g.name) ++ (d.regs.map (·.name) ++ [g.name])).Perm (dN g.name :: namesD d) := by
    have p1 := perm_set (b := dN g.name) hgn
    unfold namesD
    rw [show d.gates.map (·.name) = gnames d from rfl]
    have c := fun a => p1.count_eq a
    rw [List.perm_iff_count]
    intro a
    have := c a
    simp only [List.count_append, List.count_cons, List.count_nil] at this ⊢
    omega
  have hnames : (namesD (movD d k g)).Sublist (d.ins ++ (gnames d).set k (dN g.name) ++ (d.regs.map (·.name) ++ [g.name])) := by
    show ((d.ins ++ (d.gates.set k (movG d g)).map (·.name)) ++ _).Sublist _
    rw [set_map_name hk]
    exact List.Sublist.append (List.Sublist.refl _) hsub
  have hnd : (namesD (movD d k g)).Nodup := hnames.nodup (hperm.nodup_iff.mpr (List.nodup_cons.mpr ⟨M.new, S.nm.1⟩))
  have hin : ∀ x ∈ namesD d, x ∈ usedM (d.gates.set k (movG d g)) (regsM d g) d.outs → x ∈ namesD (movD d k g) := fun x hx hu => by
    unfold namesD at hx ⊢
    rcases List.mem_append.mp hx with z | z
    · rcases List.mem_append.mp z with z | z
      · exact List.mem_append_left _ (List.mem_append_left _ z)
      · by_cases e : x = g.name
        · exact List.mem_append_right _ (List.mem_map.mpr ⟨newR d g, new_kept S hk M, e.symm⟩)
        · refine List.mem_append_left _ (List.mem_append_right _ ?_)
          show x ∈ (d.gates.set k (movG d g)).map (·.name)
          rw [set_map_name hk]
          exact mem_set_old z hgn e
    · obtain ⟨r, hr, e⟩ := List.mem_map.mp z
      refine List.mem_append_right _ (List.mem_map.mpr ⟨r, List.mem_filter.mpr ⟨List.mem_append_left _ hr, ?_⟩, e⟩)
      rw [decide_eq_true (by rw [e]; exact hu)]; rfl
  have hdn : dN g.name ∈ namesD (movD d k g) := by
    refine List.mem_append_left _ (List.mem_append_right _ ?_)
    show _ ∈ (d.gates.set k (movG d g)).map (·.name)
    rw [set_map_name hk]
    exact mem_set_new hgn
  have hused : ∀ x ∈ readsD (movD d k g), x ∈ usedM (d.gates.set k (movG d g)) (regsM d g) d.outs := fun x hx => by
    unfold readsD at hx
    unfold usedM
    rcases List.mem_append.mp hx with z | z
    · rcases List.mem_append.mp z with z | z
      · exact List.mem_append_left _ (List.mem_append_left _ z)
      · obtain ⟨r, hr, e⟩ := List.mem_map.mp z
        exact List.mem_append_left _ (List.mem_append_right _ (List.mem_map.mpr ⟨r, (List.mem_filter.mp hr).1, e⟩))
    · exact List.mem_append_right _ z
  have hnet : NetD (movD d k g) := fun x hx => by
    have hu := hused x hx
    rcases read_mov S hk M hu with z | z
    · rw [z]; exact hdn
    · exact hin x z hu
  have dlen : (dN g.name).length ≤ 902 := by
    have := F.tx g.name (by unfold namesD; exact List.mem_append_left _ (List.mem_append_right _ (name_gate S hk)))
    unfold dN
    rw [len_tl, tl_append, List.length_append, ← len_tl, ← len_tl]
    have : ("/d" : Str).length = 2 := rfl
    omega
  have nmlen : ∀ x ∈ namesD (movD d k g), x.length ≤ 902 := fun x hx => by
    have h1 := hperm.mem_iff.mp (hnames.subset hx)
    rcases List.mem_cons.mp h1 with z | z
    · rw [z]; exact dlen
    · have := F.tx x z; omega
  have hrl : (movD d k g).regs.length ≤ d.regs.length + 1 := by
    have := hsub.length_le
    rw [List.length_map, List.length_append, List.length_map, List.length_singleton] at this
    exact this
  refine ⟨⟨hnd, S.nm.2⟩, fun q hq => ?_, hnet, ⟨fun q hq => ?_, fun r hr => ?_⟩, ⟨?_, ?_, ?_, ?_, fun q hq => ?_, fun r hr => ?_, fun x hx => ?_⟩, ?_⟩
  · rcases gate_in hq with z | z
    · rw [z]
      obtain ⟨a, b, c⟩ := S.cnt g hgm
      exact ⟨by rw [hpl]; exact a, by rw [hpl]; exact b, by rw [hpl]; exact c⟩
    · exact S.cnt q z
  · rcases gate_in hq with z | z
    · rw [z]; exact S.rng.1 g hgm
    · exact S.rng.1 q z
  · rcases List.mem_append.mp (List.mem_filter.mp hr).1 with z | z
    · exact S.rng.2 r z
    · rw [List.mem_singleton.mp z]
      have q : RegG ((readM d g).headD noRg) := S.rng.2 _ (readM_mem M.head).1
      exact q
  · have := Nat.le_trans hnames.length_le (Nat.le_of_eq hperm.length_eq)
    rw [List.length_cons] at this
    have := F.nm
    omega
  · show (d.gates.set k _).length ≤ 200
    rw [List.length_set]; have := F.gs; omega
  · have := F.rs; omega
  · have := F.os; show d.outs.length ≤ 200; omega
  · have := nmlen q.name (List.mem_append_left _ (List.mem_append_right _ (List.mem_map.mpr ⟨q, hq, rfl⟩))); omega
  · have := nmlen r.name (List.mem_append_right _ (List.mem_map.mpr ⟨r, hr, rfl⟩)); omega
  · have := nmlen x (hnet x hx); omega
  · obtain ⟨rank, hr⟩ := S.rank
    have hM : ∃ m, ∀ x ∈ gnames d, rank x < m := by
      refine ⟨((gnames d).map rank).sum + 1, fun x hx => Nat.lt_succ_of_le ?_⟩
      have : ∀ l : List Nat, ∀ y ∈ l, y ≤ l.sum := fun l => by
        induction l with
        | nil => exact fun _ h => nomatch h
        | cons a l ih =>
          intro y hy
          rw [List.sum_cons]
          rcases List.mem_cons.mp hy with z | z
          · omega
          · have := ih y z; omega
      exact this _ _ (List.mem_map.mpr ⟨x, hx, rfl⟩)
    obtain ⟨m, hm⟩ := hM
    have old : ∀ x ∈ gnames (movD d k g), x ≠ dN g.name → x ∈ gnames d := fun x hx ne => by
      have h1 : x ∈ (gnames d).set k (dN g.name) := by rw [← set_map_name hk]; exact hx
      rcases mem_set_of h1 ndg hgn with z | z
      · exact absurd z ne
      · exact z.1
    refine ⟨fun x => if x = dN g.name then m else rank x, fun q hq x hx hxg => ?_⟩
    have hxr : x ∈ namesD d := by
      rcases gate_in hq with z | z
      · rw [z] at hx
        obtain ⟨r, hr2, e⟩ := List.mem_map.mp hx
        rw [← e]
        exact S.net _ (List.mem_append_left _ (List.mem_append_right _ (List.mem_map.mpr ⟨r, (readM_mem hr2).1, rfl⟩)))
      · exact S.net _ (List.mem_append_left _ (List.mem_append_left _ (List.mem_flatMap.mpr ⟨q, z, hx⟩)))
    have hxd : x ≠ dN g.name := fun z => M.new (by rw [← z]; exact hxr)
    have hxo := old x hxg hxd
    show (if x = dN g.name then m else rank x) < (if q.name = dN g.name then m else rank q.name)
    rw [if_neg hxd]
    rcases gate_in hq with z | z
    · rw [z, if_pos (show (movG d g).name = dN g.name from rfl)]
      exact hm x hxo
    · have hqn : q.name ≠ dN g.name := fun e => M.new (by rw [← e]; exact List.mem_append_left _ (List.mem_append_right _ (List.mem_map.mpr ⟨q, z, rfl⟩)))
      rw [if_neg hqn]
      exact hr q z x hx hxo
end
end G
namespace G
open PySem PySem.Spec PyProof.Rows L2 Evl TL
structure TxtM (mg : Str → Option Value) : Prop where
  len : mg "len" = none
  list : mg "list" = none
  tuple : mg "tuple" = none
  enumerate : mg "enumerate" = none
  sum : mg "sum" = none
section
variable {P : Program} {w : World} {K : PySem.W.Frag} {mg : Str → Option Value} {base : Heap}
def spLook : Sp := fun vs H Q _ => ∃ (t b : Addr) (tab bs : List Bool), vs = [.ref t, .ref b] ∧ H t = some (.tup (tab.map V.bl)) ∧ H b = some (.lst (bs.map V.bl)) ∧ bs.length ≤ 10 ∧ tab.length = 2 ^ bs.length ∧ ∀ H', Ex H H' → Q (.bl (lookB tab bs)) H'
theorem sc_look_up : FnScope ["table", "bits", "k", "bit"] ["table", "bits"] (defScope s_look_up) := ⟨rfl, rfl, rfl, by decide +kernel, rfl, by decide +kernel, by decide +kernel⟩
theorem ok_look_up (D : Dfd K mg "look_up" s_look_up ["table", "bits"]) (T : TxtM mg) : Has P w K mg base 1 "look_up" ["table", "bits"] spLook := by
  refine D.has fun f fd F => F.ok sc_look_up (fun vs H Q E h => ?_) (fun cdv A outer s H vs Q E hr h => ?_)
  · obtain ⟨t, b, tab, bs, rfl, _⟩ := h
    rfl
  · obtain ⟨t, b, tab, bs, rfl, ht, hb, hl, htl, q⟩ := h
    refine ⟨_, (pss_one (ps_ret (pe_ix ix_tup (pv 0) (pe_callB (cr_sum rfl) (by rfl) T.sum (by decide +kernel) (pa_cons (pe_lc (own := [("k", 2), ("bit", 3)]) (g := gTup K 2 (gCons (gName 2) (gCons (gName 3) gNil))) (tt := _) rfl sc_look_up.nd (pi_enum (by rfl) T.enumerate (pa_cons (pv 1) pa_nil)) (blkOk_by (N := ["table", "bits", "k", "bit"]) (sc := defScope s_look_up) (own := [("k", 2), ("bit", 3)]) (by decide +kernel)) (fun _ _ _ _ _ => (pg_tup rfl (pgs_cons (pg_name (i := 2) sc_look_up.nd rfl (.inl rfl)) (pgs_cons (pg_name (i := 3) sc_look_up.nd rfl (.inl rfl)) pgs_nil)))) (fun _ _ _ _ _ => pts_one (pt_val (pv 3))) (fun _ _ _ _ _ => (pe_op op_shl pe_int (pv 2)))) pa_nil)) (fun _ _ => rfl)))), ?_⟩
    have hbl : (bs.map V.bl).length = bs.length := List.length_map _
    refine ⟨_, rfl, _, rfl, b, _, rfl, SqL.of hb, fun L nL => wk_it walk_enum (fun j H' => Ex H H' ∧ ∃ ns : List Int, H' L = some (.lst (ns.map V.int)) ∧ ns.length ≤ j ∧ ns.sum = ((sumB bs j : Nat) : Int)) ⟨Ex.new nL, [], upd_same, Nat.le_refl _, rfl⟩ (fun j H' _ g => SqL.of (g.1 _ _ hb)) ?_ ?_⟩
    · rintro j x H1 H2 hj ⟨E1, ns, hL, hnl, hs⟩ ⟨T1, x0, y0, rfl, nT, rfl, hx0, hy0⟩
      rw [hbl] at hj
      cases hx0
      obtain ⟨c, hc, rfl⟩ : ∃ c, bs[j]? = some c ∧ y0 = .bl c := by
        have hy1 : (bs.map V.bl)[j]? = some y0 := hy0
        rw [List.getElem?_map, List.getElem?_eq_getElem hj] at hy1
        exact ⟨_, List.getElem?_eq_getElem hj, (Option.some.inj hy1).symm⟩
      have E2 : Ex H1 (upd H1 T1 (.tup [.int (j : Nat), .bl c])) := Ex.new nT
      refine ⟨T1, _, rfl, SqT.of upd_same, rfl, _, _, rfl, _, _, rfl, rfl, rfl, ?_⟩
      simp only [wipe, _root_.L2.start, List.map_cons, List.map_nil, List.length_cons, List.length_nil, Nat.reduceAdd, Nat.reduceSub, List.replicate_succ, List.replicate_zero, List.cons_append, List.nil_append, List.set_cons_zero, List.set_cons_succ]
      have hL2 := E2 _ _ hL
      generalize upd H1 T1 (.tup [.int (j : Nat), .bl c]) = H2 at *
      have hgc : bs.getD j false = c := by rw [List.getD_eq_getElem?_getD, hc]; rfl
      have eS : sumB bs (j + 1) = sumB bs j + if bs.getD j false then 2 ^ j else 0 := rfl
      refine ⟨_, rfl, _, rfl, ite2 (fun c1 => ?_) (fun c1 => ?_)⟩
      · refine ⟨_, rfl, _, _, rfl, rfl, ⟨by omega, by omega, by decide⟩, _, hL2, sz_lt (by rw [List.length_map]; omega), (E1.trans E2).mut nL, ns ++ [((2 ^ j : Nat) : Int)], ?_, by rw [List.length_append]; show _ + 1 ≤ _; omega, ?_⟩
        · rw [upd_same, List.map_append]
          have : (1 : Int) * 2 ^ ((j : Nat) : Int).toNat = ((2 ^ j : Nat) : Int) := by
            rw [Int.toNat_natCast, Int.one_mul]
            exact (Int.natCast_pow 2 j).symm
          show some (HO.lst (ns.map V.int ++ [V.int ((1 : Int) * 2 ^ ((j : Nat) : Int).toNat)])) = _
          rw [this]; rfl
        · rw [List.sum_append, hs, eS, hgc, c1, List.sum_singleton]
          show ((sumB bs j : Nat) : Int) + _ = ((sumB bs j + 2 ^ j : Nat) : Int)
          rw [Int.natCast_add]
      · refine ⟨E1.trans E2, ns, hL2, by omega, ?_⟩
        rw [hs, eS, hgc, if_neg c1]; rfl
    rintro H1 ⟨E1, ns, hL, hnl, hs⟩
    rw [hbl] at hs
    have hlt := sumB_lt bs bs.length
    refine ⟨L, ns, rfl, SqL.of hL, _, _, _, _, rfl, rfl, SqT.of (E1 _ _ ht), at_of (j := sumB bs bs.length) hs (by rw [List.getElem?_map, List.getElem?_eq_getElem (by omega)]; rfl), ?_⟩
    have : tab[sumB bs bs.length]'(by omega) = lookB tab bs := by
      unfold lookB
      rw [List.getD_eq_getElem?_getD, List.getElem?_eq_getElem (by omega)]; rfl
    rw [this]
    exact q H1 E1
def spSources : Sp := fun vs H Q _ => ∃ (c : Addr) (d : CircD) (it gt rt ot : Addr) (ga ra oa : List Addr), vs = [.ref c] ∧ CircAt H c d it gt rt ot ga ra oa ∧ (srcs d).length ≤ 100 ∧ ∀ (l : Addr) (H' : Hp), H l = none → Ex H H' → H' l = some (.lst ((srcs d).map V.str)) → Q (.ref l) H'
theorem sc_sources : FnScope ["circuit", "reg"] ["circuit"] (defScope s_sources) := ⟨rfl, rfl, rfl, by decide +kernel, rfl, by decide +kernel, by decide +kernel⟩
theorem ok_sources (D : Dfd K mg "sources" s_sources ["circuit"]) (T : TxtM mg) : Has P w K mg base 1 "sources" ["circuit"] spSources := by
  refine D.has fun f fd F => F.ok sc_sources (fun vs H Q E h => ?_) (fun cdv A outer s H vs Q E hr h => ?_)
  · obtain ⟨c, d, it, gt, rt, ot, ga, ra, oa, rfl, _⟩ := h
    rfl
  · obtain ⟨c, d, it, gt, rt, ot, ga, ra, oa, rfl, hc, hn, q⟩ := h
    have hlen : d.ins.length + d.regs.length ≤ 100 := by
      unfold srcs at hn
      rw [List.length_append, List.length_map] at hn
      exact hn
    refine ⟨_, (pss_one (ps_ret (pe_op op_cat (pe_callTy call_list_of (by rfl) T.list (by decide +kernel) (pa_cons (pe_ix ix_tup (pv 0) pe_int (fun _ _ => rfl)) pa_nil)) (pe_lc (own := [("reg", 1)]) (g := gName 1) (tt := tYes) rfl sc_sources.nd (pi_tup (pe_ix ix_tup (pv 0) pe_int (fun _ _ => rfl))) (blkOk_by (N := ["circuit", "reg"]) (sc := defScope s_sources) (own := [("reg", 1)]) (by decide +kernel)) (fun _ _ _ _ _ => (pg_name (i := 1) sc_sources.nd rfl (.inl rfl))) (fun _ _ _ _ _ => pts_nil) (fun _ _ _ _ _ => (pe_ix (kIxT (K := K) rfl) (pv 1) pe_int (fun _ _ => rfl))))))), ?_⟩
    refine ⟨_, rfl, _, _, _, _, rfl, rfl, SqT.of hc.top, atI_nat (j := 0) rfl, _, _, rfl, .inr (SqT.of hc.ins), fun l1 n1 => ?_⟩
    have E1 : Ex H (upd H l1 (.lst (d.ins.map V.str))) := Ex.new n1
    have h1 : upd H l1 (.lst (d.ins.map V.str)) l1 = some (.lst (d.ins.map V.str)) := upd_same
    generalize upd H l1 (.lst (d.ins.map V.str)) = H1 at *
    have hc1 := hc.te (.of E1)
    refine ⟨_, rfl, _, _, _, _, rfl, rfl, SqT.of hc1.top, atI_nat (j := 2) rfl, rt, rfl, ⟨_, SqT.of hc1.rgs⟩, fun L2 nL2 => wk_tup (K := K) (a := rt) (xs := ra.map V.ref) (fun j H' => Ex H1 H' ∧ H' L2 = some (.lst (((d.regs.map (·.name)).take j).map V.str))) ⟨Ex.new nL2, by rw [upd_same]; rfl⟩ (fun j H' _ g => SqT.of (g.1 _ _ hc1.rgs)) ?_ ?_⟩
    · rintro j x H2 hx ⟨E2, hL⟩
      obtain ⟨b, hb, rfl⟩ := refs_get hx
      obtain ⟨g, hg, ea, oa', hgt, _⟩ := hc1.regs.at_ hb
      have hj : j < d.regs.length := (List.getElem?_eq_some_iff.mp hg).1
      refine ⟨rfl, tYes_in ⟨_, rfl, _, _, _, _, rfl, rfl, SqT.of (E2 _ _ hgt), atI_nat (j := 0) rfl, _, hL, sz_lt (by rw [List.length_map, List.length_take]; omega), E2.mut nL2, ?_⟩⟩
      rw [upd_same, List.take_add_one, List.getElem?_map, hg, List.map_append]; rfl
    rintro H2 ⟨E2, hL⟩
    rw [List.length_map, hc1.regs.1, ← List.length_map (f := fun g : RegD => g.name), List.take_length] at hL
    refine ⟨l1, L2, _, _, rfl, rfl, E2 _ _ h1, hL, sz_of (by rw [List.length_map, List.length_map, List.length_map]; omega), fun l3 n3 => ?_⟩
    rw [← List.map_append]
    exact q l3 _ (fresh_back (E1.trans E2) n3) ((E1.trans E2).trans (Ex.new n3)) upd_same
end
end G
namespace G
open PySem PySem.Spec PyProof.Rows L2 Evl TL
/-! ## _without_unread -/
def KeyS (es : List (L2.Key × V)) (l : List Str) : Prop := ∀ x : Str, (valV es (.inr x)).isSome = decide (x ∈ l)
theorem KeyS.nil : KeyS [] [] := fun _ => rfl
theorem KeyS.put {es : List (L2.Key × V)} {l : List Str} (h : KeyS es l) (y : Str) (v : V) : KeyS (putK es (.inr y) v) (l ++ [y]) := fun x => by
  rw [valV_put]
  by_cases e : x = y
  · rw [if_pos (by rw [e]), decide_eq_true (by rw [e]; exact List.mem_append.mpr (.inr (List.mem_singleton.mpr rfl)))]; rfl
  · rw [if_neg (fun z => e (Sum.inr.inj z)), h x, decide_eq_decide]
    exact ⟨fun h => List.mem_append.mpr (.inl h), fun h => (List.mem_append.mp h).elim id fun z => absurd (List.mem_singleton.mp z) e⟩
theorem any_valV (k : L2.Key) : ∀ ms : List (L2.Key × V), (ms.any fun p => decide (p.1 = k)) = (valV ms k).isSome
  | [] => rfl
  | p :: ms => by
    rw [List.any_cons, any_valV k ms]
    by_cases e : p.1 = k
    · rw [decide_eq_true e, valV_pos (by exact e)]; rfl
    · rw [decide_eq_false e, valV_neg (by exact e)]; rfl
theorem KeyS.all {es ms : List (L2.Key × V)} {l m : List Str} (h : KeyS es l) (q : KeyS ms m) : KeyS (putA es ms) (l ++ m) := fun x => by
  rw [putA_has, any_valV, h x, q x]
  by_cases e1 : x ∈ l <;> by_cases e2 : x ∈ m <;> simp [e1, e2]
theorem inV_sM {x : Str} {l : List Str} : inV (.str x) (l.map V.str) = decide (x ∈ l) := by
  unfold inV
  rw [List.any_map, Bool.eq_iff_iff, List.any_eq_true, decide_eq_true_iff]
  constructor
  · rintro ⟨y, hy, h⟩
    have : y = x := eq_of_beq h
    rw [← this]; exact hy
  · intro h
    exact ⟨x, h, (beq_self_eq_true x : (x == x) = true)⟩
theorem flat_sM (l : List Str) : (l.map V.str).all flatV = true := by
  rw [List.all_map, List.all_eq_true]
  exact fun _ _ => rfl
section
variable {P : Program} {w : World} {K : PySem.W.Frag} {mg : Str → Option Value} {base : Heap}
def spUnread : Sp := fun vs H Q _ => ∃ (gt rl ot nt : Addr) (ga ra oa : List Addr) (gs : List GateD) (rs : List RegD) (os : List (Str × Str)) (ns : List Str), vs = [.ref gt, .ref rl, .ref ot, .ref nt] ∧ H gt = some (.tup (ga.map V.ref)) ∧ All2 (GateAt H) ga gs ∧
  H rl = some (.tup (ra.map V.ref)) ∧ All2 (RegAt H) ra rs ∧ H ot = some (.tup (oa.map V.ref)) ∧ All2 (OutAt H) oa os ∧ H nt = some (.tup (ns.map V.str)) ∧ gs.length ≤ 200 ∧ (∀ g ∈ gs, g.pins.length ≤ 10) ∧ rs.length ≤ 200 ∧ os.length ≤ 200 ∧
  ∀ (t : Addr) (as : List Addr) (H' : Hp), Ex H H' → H' t = some (.tup (as.map V.ref)) → All2 (RegAt H') as (keepM gs rs os ns) → Q (.ref t) H'
theorem sc_without_unread : FnScope ["gates", "regs", "outputs", "names", "read", "gate", "net", "reg", "_"] ["gates", "regs", "outputs", "names"] (defScope s_without_unread) := ⟨rfl, rfl, rfl, by decide +kernel, rfl, by decide +kernel, by decide +kernel⟩
theorem ok_without_unread (D : Dfd K mg "_without_unread" s_without_unread ["gates", "regs", "outputs", "names"]) (T : TxtM mg) : Has P w K mg base 1 "_without_unread" ["gates", "regs", "outputs", "names"] spUnread := by
  refine D.has fun f fd F => F.ok sc_without_unread (fun vs H Q E h => ?_) (fun cdv A outer s H vs Q E hr h => ?_)
  · obtain ⟨gt, rl, ot, nt, ga, ra, oa, gs, rs, os, ns, rfl, _⟩ := h
    rfl
  · obtain ⟨gt, rl, ot, nt, ga, ra, oa, gs, rs, os, ns, rfl, hgt, hga, hrl, hra, hot, hoa, hnt, hgl, hgp, hrsl, hosl, q⟩ := h
    refine ⟨_, (pss_cons (ps_set (i := 4) sc_without_unread.nd rfl (.inr rfl) (pe_dc2 (own := [("gate", 5), ("net", 6)]) (vs1 := [6]) (g := (gName 5)) (tt := tYes) (g1 := (gName 6)) (tt1 := tYes) rfl sc_without_unread.nd (pi_tup (pv 0)) (blkOk_by (N := ["gates", "regs", "outputs", "names", "read", "gate", "net", "reg", "_"]) (sc := defScope s_without_unread) (own := [("gate", 5), ("net", 6)]) (by decide +kernel)) (by decide) (fun _ _ _ _ _ => (pg_name (i := 5) sc_without_unread.nd rfl (.inl rfl))) (fun _ _ _ _ _ => pts_nil) (fun _ _ _ _ _ => (kPiT (K := K) rfl (pe_ix (kIxT (K := K) rfl) (pv 5) pe_int (fun _ _ => rfl)))) (fun _ _ _ _ _ => (pg_name (i := 6) sc_without_unread.nd rfl (.inl rfl))) (fun _ _ _ _ _ => pts_nil) (fun _ _ _ _ _ => (pv 6)) (fun _ _ _ _ _ => pe_bl)))
    (pss_cons (ps_expr (pe_bm PySem.F.plainAttrs_dict PySem.F.slot_dict_update PySem.F.type_dict_update mt_update (pv 4) (pa_cons (pe_dc (own := [("reg", 7)]) (g := gName 7) (tt := tYes) rfl sc_without_unread.nd (pi_tup (pv 1)) (blkOk_by (N := ["gates", "regs", "outputs", "names", "read", "gate", "net", "reg", "_"]) (sc := defScope s_without_unread) (own := [("reg", 7)]) (by decide +kernel)) (fun _ _ _ _ _ => (pg_name (i := 7) sc_without_unread.nd rfl (.inl rfl))) (fun _ _ _ _ _ => pts_nil) (fun _ _ _ _ _ => (pe_ix (kIxT (K := K) rfl) (pv 7) pe_int (fun _ _ => rfl))) (fun _ _ _ _ _ => pe_bl)) pa_nil)))
    (pss_cons (ps_expr (pe_bm PySem.F.plainAttrs_dict PySem.F.slot_dict_update PySem.F.type_dict_update mt_update (pv 4) (pa_cons (pe_dc (own := [("_", 8), ("net", 6)]) (g := gTup K 2 (gCons (gName 8) (gCons (gName 6) gNil))) (tt := tYes) rfl sc_without_unread.nd (pi_tup (pv 2)) (blkOk_by (N := ["gates", "regs", "outputs", "names", "read", "gate", "net", "reg", "_"]) (sc := defScope s_without_unread) (own := [("_", 8), ("net", 6)]) (by decide +kernel)) (fun _ _ _ _ _ => (pg_tup rfl (pgs_cons (pg_name (i := 8) sc_without_unread.nd rfl (.inl rfl)) (pgs_cons (pg_name (i := 6) sc_without_unread.nd rfl (.inl rfl)) pgs_nil)))) (fun _ _ _ _ _ => pts_nil) (fun _ _ _ _ _ => (pv 6)) (fun _ _ _ _ _ => pe_bl)) pa_nil)))
    (pss_one (ps_ret (pe_callTy call_tuple_of (by rfl) T.tuple (by decide +kernel) (pa_cons (pe_lc (own := [("reg", 7)]) (g := gName 7) (tt := _) rfl sc_without_unread.nd (pi_tup (pv 1)) (blkOk_by (N := ["gates", "regs", "outputs", "names", "read", "gate", "net", "reg", "_"]) (sc := defScope s_without_unread) (own := [("reg", 7)]) (by decide +kernel)) (fun _ _ _ _ _ => (pg_name (i := 7) sc_without_unread.nd rfl (.inl rfl))) (fun _ _ _ _ _ => pts_one (PW.pt (pw_or (pt_cmp (pc_din (hu_of hr) (pe_ix (kIxT (K := K) rfl) (pv 7) pe_int (fun _ _ => rfl)) (pv 4))) (pw_or1 (pt_cmpR (kNotIn (K := K) rfl) (pe_ix (kIxT (K := K) rfl) (pv 7) pe_int (fun _ _ => rfl)) (pv 3) (by rfl)))))) (fun _ _ _ _ _ => (pv 7))) pa_nil))))))), ?_⟩
    have hgal := hga.1
    have hral := hra.1
    have hoal := hoa.1
    have hpl : ∀ j, ((gs.take j).flatMap fun g : GateD => g.pins).length ≤ j * 10 := fun j => by
      have := flat_leS (f := fun g : GateD => g.pins) (k := 10) (gs.take j) fun g hg => hgp g (List.mem_of_mem_take hg)
      rw [List.length_take] at this
      exact Nat.le_trans this (Nat.mul_le_mul_right _ (Nat.min_le_left _ _))
    refine ⟨_, rfl, gt, rfl, ⟨_, SqT.of hgt⟩, fun D1 nD1 => wk_tup (K := K) (a := gt) (xs := ga.map V.ref)
      (fun j H' => Ex H H' ∧ ∃ es : List (L2.Key × V), H' D1 = some (.dK es) ∧ es.length ≤ j * 10 ∧ KeyS es ((gs.take j).flatMap fun g : GateD => g.pins)) ⟨Ex.new nD1, [], upd_same, Nat.zero_le _, KeyS.nil⟩ (fun j H' _ z => SqT.of (z.1 _ _ hgt)) ?_ ?_⟩
    · rintro j y H1 hy ⟨E1, es, hD, hel, hk⟩
      obtain ⟨b, hb, rfl⟩ := refs_get hy
      obtain ⟨g, hg, t, pt, rgt, rga, a1, a2, a3, a4, a5⟩ := hga.at_ hb
      have hj : j < gs.length := (List.getElem?_eq_some_iff.mp hg).1
      have h6 := hgp g (List.mem_of_getElem? hg)
      refine ⟨(by rw [wipe_set (by decide), wipe_wipe]), tYes_in ?_⟩
      simp only [wipe, _root_.L2.start, List.map_cons, List.map_nil, List.length_cons, List.length_nil, Nat.reduceAdd, Nat.reduceSub, List.replicate_succ, List.replicate_zero, List.cons_append, List.nil_append, List.set_cons_zero, List.set_cons_succ]
      refine ⟨_, rfl, _, _, _, _, rfl, rfl, SqT.of (E1 _ _ a1), atI_nat (j := 2) rfl, pt, rfl, ⟨_, SqT.of (E1 _ _ a3)⟩, wk_tup (K := K) (a := pt) (xs := g.pins.map V.str)
        (fun k H' => Ex H H' ∧ ∃ es : List (L2.Key × V), H' D1 = some (.dK es) ∧ es.length ≤ j * 10 + k ∧ KeyS es (((gs.take j).flatMap fun g : GateD => g.pins) ++ g.pins.take k)) ⟨E1, es, hD, hel, ?_⟩ (fun k H' _ z => SqT.of (z.1 _ _ a3)) ?_ ?_⟩
      · rw [List.take_zero, List.append_nil]; exact hk
      · rintro k y H2 hy ⟨E2, es2, hD2, hel2, hk2⟩
        rw [List.getElem?_map] at hy
        obtain ⟨p, hp, rfl⟩ := Option.map_eq_some_iff.mp hy
        have hkl : k < g.pins.length := (List.getElem?_eq_some_iff.mp hp).1
        refine ⟨rfl, tYes_in ?_⟩
        simp only [wipe, _root_.L2.start, List.map_cons, List.map_nil, List.length_cons, List.length_nil, Nat.reduceAdd, Nat.reduceSub, List.replicate_succ, List.replicate_zero, List.cons_append, List.nil_append, List.set_cons_zero, List.set_cons_succ]
        refine ⟨_, rfl, es2, .inr p, rfl, hD2, sz_lt (by omega), E2.mut nD1, _, upd_same, ?_, ?_⟩
        · have := length_putK es2 (Sum.inr p) (.bl true); omega
        · rw [take_snoc1 hp, ← List.append_assoc]
          exact hk2.put p _
      · rintro H2 ⟨E2, es2, hD2, hel2, hk2⟩
        rw [List.length_map] at hel2
        rw [List.length_map, List.take_length] at hk2
        refine ⟨E2, es2, hD2, by omega, ?_⟩
        rw [take_snoc1 hg, List.flatMap_append, List.flatMap_singleton]
        exact hk2
    rintro H1 ⟨E1, es, hD1, hel, hk⟩
    rw [List.length_map, hgal, List.take_length] at hk
    rw [List.length_map, hgal] at hel
    simp only [wipe, _root_.L2.start, List.map_cons, List.map_nil, List.length_cons, List.length_nil, Nat.reduceAdd, Nat.reduceSub, List.replicate_succ, List.replicate_zero, List.cons_append, List.nil_append, List.set_cons_zero, List.set_cons_succ]
    refine ⟨_, rfl, .inr (.inr (.inl ⟨rfl, .inl ⟨_, hD1⟩⟩)), _, rfl, rl, rfl, ⟨_, SqT.of (E1 _ _ hrl)⟩, fun D2 nD2 => wk_tup (K := K) (a := rl) (xs := ra.map V.ref)
      (fun j H' => Ex H1 H' ∧ ∃ ms : List (L2.Key × V), H' D2 = some (.dK ms) ∧ ms.length ≤ j ∧ KeyS ms ((rs.take j).map fun r : RegD => r.net)) ⟨Ex.new nD2, [], upd_same, Nat.le_refl _, KeyS.nil⟩ (fun j H' _ z => SqT.of ((E1.trans z.1) _ _ hrl)) ?_ ?_⟩
    · rintro j y H2 hy ⟨E2, ms, hD, hml, hk2⟩
      obtain ⟨b, hb, rfl⟩ := refs_get hy
      obtain ⟨r, hr', ea, ob, a1, a2, a3⟩ := hra.at_ hb
      have hj : j < rs.length := (List.getElem?_eq_some_iff.mp hr').1
      refine ⟨(by rw [wipe_set (by decide), wipe_wipe]), tYes_in ?_⟩
      simp only [wipe, _root_.L2.start, List.map_cons, List.map_nil, List.length_cons, List.length_nil, Nat.reduceAdd, Nat.reduceSub, List.replicate_succ, List.replicate_zero, List.cons_append, List.nil_append, List.set_cons_zero, List.set_cons_succ]
      refine ⟨_, rfl, _, _, _, _, rfl, rfl, SqT.of ((E1.trans E2) _ _ a1), atI_nat (j := 1) rfl, ms, .inr r.net, rfl, hD, sz_lt (by omega), E2.mut nD2, _, upd_same, ?_, ?_⟩
      · have := length_putK ms (Sum.inr r.net) (.bl true); omega
      · rw [take_snoc1 hr', List.map_append]
        exact hk2.put r.net _
    rintro H2 ⟨E2, ms, hD2, hml, hk2⟩
    rw [List.length_map, hral] at hml
    rw [List.length_map, hral, List.take_length] at hk2
    have hD12 := E2 _ _ hD1
    have d12 : D1 ≠ D2 := fun z => by rw [← z, hD1] at nD2; cases nD2
    refine ⟨D1, D2, es, ms, rfl, rfl, hD12, hD2, sz_of (by omega), d12, ?_⟩
    have E12 := (E1.trans E2).mut (o := .dK (putA es ms)) nD1
    have hD3 : upd H2 D1 (.dK (putA es ms)) D1 = some (.dK (putA es ms)) := upd_same
    have hk3 := hk.all hk2
    have hl3 : (putA es ms).length ≤ 2300 := by have := putA_len ms es; omega
    generalize upd H2 D1 (.dK (putA es ms)) = H3 at *
    generalize putA es ms = es3 at *
    refine ⟨_, rfl, .inr (.inr (.inl ⟨rfl, .inl ⟨_, hD3⟩⟩)), _, rfl, ot, rfl, ⟨_, SqT.of (E12 _ _ hot)⟩, fun D4 nD4 => wk_tup (K := K) (a := ot) (xs := oa.map V.ref)
      (fun j H' => Ex H3 H' ∧ ∃ ms : List (L2.Key × V), H' D4 = some (.dK ms) ∧ ms.length ≤ j ∧ KeyS ms ((os.take j).map fun o : Str × Str => o.2)) ⟨Ex.new nD4, [], upd_same, Nat.le_refl _, KeyS.nil⟩ (fun j H' _ z => SqT.of ((E12.trans z.1) _ _ hot)) ?_ ?_⟩
    · rintro j y H4 hy ⟨E4, ms4, hD, hml4, hk4⟩
      obtain ⟨b, hb, rfl⟩ := refs_get hy
      obtain ⟨o, ho, a1⟩ := hoa.at_ hb
      have hj : j < os.length := (List.getElem?_eq_some_iff.mp ho).1
      refine ⟨b, _, rfl, SqT.of ((E12.trans E4) _ _ a1), rfl, _, _, rfl, _, _, rfl, rfl, (by rw [wipe_set (by decide), wipe_set (by decide), wipe_wipe]), tYes_in ?_⟩
      simp only [wipe, _root_.L2.start, List.map_cons, List.map_nil, List.length_cons, List.length_nil, Nat.reduceAdd, Nat.reduceSub, List.replicate_succ, List.replicate_zero, List.cons_append, List.nil_append, List.set_cons_zero, List.set_cons_succ]
      refine ⟨_, rfl, ms4, .inr o.2, rfl, hD, sz_lt (by omega), E4.mut nD4, _, upd_same, ?_, ?_⟩
      · have := length_putK ms4 (Sum.inr o.2) (.bl true); omega
      · rw [take_snoc1 ho, List.map_append]
        exact hk4.put o.2 _
    rintro H4 ⟨E4, ms4, hD4, hml4, hk4⟩
    rw [List.length_map, hoal] at hml4
    rw [List.length_map, hoal, List.take_length] at hk4
    have hD34 := E4 _ _ hD3
    have d34 : D1 ≠ D4 := fun z => by rw [← z, hD3] at nD4; cases nD4
    refine ⟨D1, D4, es3, ms4, rfl, rfl, hD34, hD4, sz_of (by omega), d34, ?_⟩
    have E15 := (E12.trans E4).mut (o := .dK (putA es3 ms4)) nD1
    have hD5 : upd H4 D1 (.dK (putA es3 ms4)) D1 = some (.dK (putA es3 ms4)) := upd_same
    have hk5 : KeyS (putA es3 ms4) (usedM gs rs os) := hk3.all hk4
    generalize upd H4 D1 (.dK (putA es3 ms4)) = H5 at *
    generalize putA es3 ms4 = es5 at *
    refine ⟨_, rfl, rl, rfl, ⟨_, SqT.of (E15 _ _ hrl)⟩, fun L nL => wk_tup (K := K) (a := rl) (xs := ra.map V.ref)
      (fun j H' => Ex H5 H' ∧ ∃ as : List Addr, H' L = some (.lst (as.map V.ref)) ∧ as.length ≤ j ∧ All2 (RegAt H5) as ((rs.take j).filter fun r => decide (r.name ∈ usedM gs rs os) || !decide (r.name ∈ ns))) ⟨Ex.new nL, [], upd_same, Nat.le_refl _, by rw [List.take_zero]; exact .nil⟩ (fun j H' _ z => SqT.of ((E15.trans z.1) _ _ hrl)) ?_ ?_⟩
    · rintro j y H6 hy ⟨E6, as, hL, hal, hA⟩
      obtain ⟨b, hb, rfl⟩ := refs_get hy
      obtain ⟨r, hr', hreg⟩ := hra.at_ hb
      have hreg5 := hreg.te (.of E15)
      obtain ⟨ea, ob, a1, a2, a3⟩ := id hreg
      have hj : j < rs.length := (List.getElem?_eq_some_iff.mp hr').1
      refine ⟨(by rw [wipe_set (by decide), wipe_wipe]), ?_⟩
      simp only [wipe, _root_.L2.start, List.map_cons, List.map_nil, List.length_cons, List.length_nil, Nat.reduceAdd, Nat.reduceSub, List.replicate_succ, List.replicate_zero, List.cons_append, List.nil_append, List.set_cons_zero, List.set_cons_succ]
      have hb6 := (E15.trans E6) _ _ a1
      have hput : Ex H5 (upd H6 L (.lst (as.map V.ref ++ [V.ref b]))) := E6.mut nL
      have yes : ∀ {fl : Bool}, fl = true → (decide (r.name ∈ usedM gs rs os) || !decide (r.name ∈ ns)) = fl → ∃ acc, H6 L = some (HO.lst acc) ∧ acc.length < sizeLine ∧ Ex H5 (upd H6 L (.lst (acc ++ [V.ref b]))) ∧ ∃ as : List Addr, upd H6 L (.lst (acc ++ [V.ref b])) L = some (.lst (as.map V.ref)) ∧ as.length ≤ j + 1 ∧ All2 (RegAt H5) as ((rs.take (j + 1)).filter fun r => decide (r.name ∈ usedM gs rs os) || !decide (r.name ∈ ns)) := fun e1 e2 => by
        subst e1
        refine ⟨_, hL, sz_lt (by rw [List.length_map]; omega), hput, as ++ [b], by rw [upd_same, List.map_append]; rfl, by rw [List.length_append, List.length_singleton]; omega, ?_⟩
        rw [take_snoc1 hr', List.filter_append, List.filter_cons, e2]
        exact hA.snoc hreg5
      have no : (decide (r.name ∈ usedM gs rs os) || !decide (r.name ∈ ns)) = false → Ex H5 H6 ∧ ∃ as : List Addr, H6 L = some (.lst (as.map V.ref)) ∧ as.length ≤ j + 1 ∧ All2 (RegAt H5) as ((rs.take (j + 1)).filter fun r => decide (r.name ∈ usedM gs rs os) || !decide (r.name ∈ ns)) := fun e => by
        refine ⟨E6, as, hL, by omega, ?_⟩
        rw [take_snoc1 hr', List.filter_append, List.filter_cons, e]
        simpa using hA
      refine ⟨_, rfl, _, _, _, _, rfl, rfl, SqT.of hb6, atI_nat (j := 0) rfl, _, rfl, D1, _, rfl, DGet.k (k := Sum.inr r.name) (E6 _ _ hD5), _, rfl, ?_⟩
      rw [hk5]
      cases hu : decide (r.name ∈ usedM gs rs os) with
      | true => exact iteT (iteT ⟨_, rfl, yes rfl (by rw [hu]; rfl)⟩)
      | false =>
        refine iteF ?_
        have e : (if (true : Bool) = true then !inV (V.str r.name) (ns.map V.str) else inV (V.str r.name) (ns.map V.str)) = !decide (r.name ∈ ns) := by rw [if_pos rfl, inV_sM]
        refine ⟨_, rfl, _, _, _, _, rfl, rfl, SqT.of hb6, atI_nat (j := 0) rfl, _, rfl, nt, _, rfl, .inr (SqT.of ((E15.trans E6) _ _ hnt)), rfl, flat_sM _, !decide (r.name ∈ ns), congrArg V.bl e, ?_⟩
        cases hn : decide (r.name ∈ ns) with
        | true => exact iteF (no (by rw [hu, hn]; rfl))
        | false => exact iteT ⟨_, rfl, yes rfl (by rw [hu, hn]; rfl)⟩
    rintro H6 ⟨E6, as, hL, hal, hA⟩
    rw [List.length_map, hral, List.take_length] at hA
    simp only [wipe, _root_.L2.start, List.map_cons, List.map_nil, List.length_cons, List.length_nil, Nat.reduceAdd, Nat.reduceSub, List.replicate_succ, List.replicate_zero, List.cons_append, List.nil_append, List.set_cons_zero, List.set_cons_succ]
    refine ⟨L, _, rfl, .inl ⟨SqL.of hL, fun t nt' => ?_⟩⟩
    have E7 := E15.trans (E6.trans (Ex.new (o := .tup (as.map V.ref)) nt'))
    exact q t as _ E7 upd_same (hA.imp fun _ _ z => z.te (.of (E6.trans (Ex.new nt'))))
end
end G
namespace G
open PySem PySem.Spec PyProof.Rows L2 Evl TL
/-! ## _check_move -/
theorem kNeD {X : Cx} {K : PySem.W.Frag} (h : X.K = K) (hu : X.A.units + 64 < cLine) : OpR X (compareOp .NotEq) (rNeD K) := by subst h; exact op_neD hu
def pairM (p : Int × Int) : PyData := .tuple [.int p.1, .int p.2]
def tmsM (r : RegD) : PyData := .tuple [pairM r.edge, pairM r.out, .int r.setup, .int r.hold]
theorem shaped_tms (r : RegD) : SeqAt.shaped (tmsM r) = true := rfl
theorem eqv_pairM (a b : Int × Int) : PyData.eqv (pairM a) (pairM b) = decide (a = b) := by
  obtain ⟨a1, a2⟩ := a
  obtain ⟨b1, b2⟩ := b
  rw [Bool.eq_iff_iff]
  simp [pairM, PyData.eqv, PyData.eqvAll]
theorem eqv_tms (a b : RegD) : PyData.eqv (tmsM a) (tmsM b) = decide (tmsR a = tmsR b) := by
  have h1 := eqv_pairM a.edge b.edge
  have h2 := eqv_pairM a.out b.out
  rw [Bool.eq_iff_iff]
  simp [tmsM, tmsR, PyData.eqv, PyData.eqvAll, h1, h2]
def TmsAt (H : Hp) (a : Addr) (r : RegD) : Prop := ∃ ea oa : Addr, H a = some (.tup [.ref ea, .ref oa, .int r.setup, .int r.hold]) ∧ IntsAt H ea r.edge ∧ IntsAt H oa r.out
theorem TmsAt.ex {H H' : Hp} {a : Addr} {r : RegD} (e : Ex H H') (h : TmsAt H a r) : TmsAt H' a r := by
  obtain ⟨x, y, h1, h2, h3⟩ := h
  exact ⟨x, y, e _ _ h1, e _ _ h2, e _ _ h3⟩
theorem dp_pairM {K : PySem.W.Frag} {H : Hp} {a : Addr} {p : Int × Int} (h : IntsAt H a p) : Dp K H (.ref a) (pairM p) := .tup (SqT.of h) (.cons (.int _) (.cons (.int _) .nil))
theorem TmsAt.dp {K : PySem.W.Frag} {H : Hp} {a : Addr} {r : RegD} (h : TmsAt H a r) : Dp K H (.ref a) (tmsM r) := by
  obtain ⟨x, y, h1, h2, h3⟩ := h
  exact .tup (SqT.of h1) (.cons (dp_pairM h2) (.cons (dp_pairM h3) (.cons (.int _) (.cons (.int _) .nil))))
theorem cut_reg {K : PySem.W.Frag} {H : Hp} {a : Addr} {r : RegD} {Q : VK} (h : RegAt H a r) (q : ∀ c H', Ex H H' → TmsAt H' c r → Q (.ref c) H') : rSlA K (.ref a) (some 2) (some 6) H Q := by
  obtain ⟨ea, oa, h1, h2, h3⟩ := h
  refine cut_tup h1 fun c H' e hc => q c H' e ⟨ea, oa, ?_, e _ _ h2, e _ _ h3⟩
  exact hc
structure MvR (d : CircD) (g : GateD) (rs : List RegD) : Prop where
  ne : g.pins ≠ []
  all : ¬ rs.length < g.pins.length
  tms : ∀ r ∈ rs, tmsR r = tmsR (rs.headD noRg)
  new : dN g.name ∉ srcs d ++ gnames d
section
variable {P : Program} {w : World} {K : PySem.W.Frag} {mg : Str → Option Value} {base : Heap}
structure TxtMv (mg : Str → Option Value) : Prop where
  len : mg "len" = none
  any : mg "any" = none
  tuple : mg "tuple" = none
def spChM (Fa : Addr) : Sp := fun vs H Q E => ∃ (c b rl : Addr) (d : CircD) (g : GateD) (as : List Addr) (rs : List RegD) (it gt rt ot : Addr) (ga ra oa : List Addr), vs = [.ref c, .ref b, .ref rl] ∧ CircAt H c d it gt rt ot ga ra oa ∧ GateAt H b g ∧ H rl = some (.lst (as.map V.ref)) ∧ All2 (RegAt H) as rs ∧
  g.name.length ≤ 990 ∧ g.pins.length ≤ 10 ∧ rs.length ≤ 10 ∧ (srcs d).length ≤ 100 ∧ d.gates.length ≤ 200 ∧ (MvR d g rs → ∀ H', Ex H H' → Q .non H') ∧ (¬ MvR d g rs → ∀ H', Ex H H' → E (.ref Fa) none H')
theorem sc_check_move : FnScope ["circuit", "gate", "read", "name", "_", "nets", "taken", "reg", "other"] ["circuit", "gate", "read"] (defScope s_check_move) := ⟨rfl, rfl, rfl, by decide +kernel, rfl, by decide +kernel, by decide +kernel⟩
theorem ok_check_move {Fa : Addr} (D : Dfd K mg "_check_move" s_check_move ["circuit", "gate", "read"]) (T : TxtMv mg) (UF : ExcT K mg "Refused" Fa) (C1 : Has P w K mg base 1 "sources" ["circuit"] spSources) : HasX P w K mg base 2 "_check_move" ["circuit", "gate", "read"] (spChM Fa) := by
  obtain ⟨f_sources, d_sources, G_sources, g_sources, k_sources, b_sources⟩ := C1
  obtain ⟨f, fd, F, gf, bf⟩ := D
  refine ⟨f, fd, F.okX sc_check_move (fun vs H Q E h => ?_) (fun cdv A outer s H vs Q E hr h => ?_), gf, F.kp, bf⟩
  · obtain ⟨c, b, rl, d, g, as, rs, it, gt, rt, ot, ga, ra, oa, rfl, _⟩ := h
    rfl
  · obtain ⟨c, b, rl, d, g, as, rs, it, gt, rt, ot, ga, ra, oa, rfl, hc, hg, hrl, hA, hnm, hpl, hrs, hsl, hgl, q1, q2⟩ := h
    refine ⟨_, (pss_cons (ps_asg (pv 1) (pg_tup rfl (pgs_cons (pg_name (i := 3) sc_check_move.nd rfl (.inl rfl)) (pgs_cons (pg_name (i := 4) sc_check_move.nd rfl (.inl rfl)) (pgs_cons (pg_name (i := 5) sc_check_move.nd rfl (.inl rfl)) (pgs_cons (pg_name (i := 4) sc_check_move.nd rfl (.inl rfl)) pgs_nil))))))
    (pss_cut (ps_if (PW.pt (pw_or (pt_cmpR op_eq (pe_callB call_len_seq (by rfl) T.len (by decide +kernel) (pa_cons (pv 5) pa_nil)) pe_int (nomark _)) (pw_or1 (pt_cmpR op_lt (pe_callB call_len_seq (by rfl) T.len (by decide +kernel) (pa_cons (pv 2) pa_nil)) (pe_callB call_len_seq (by rfl) T.len (by decide +kernel) (pa_cons (pv 5) pa_nil)) (nomark _)))))
      (pss_one (ps_raise rfl (takes_of rfl rfl rfl rfl) (pmk_ownA PySem.F.excBase_ValueError UF.xP UF.gC UF.kC (raises_own UF.bC UF.tC) rfl (pa_cons (pe_joined (.cons pe_str (.cons (pe_fmt (pv 3)) (.cons pe_str .nil)))) pa_nil))))
      pss_nil)
    (pss_cons (ps_if (pt_val (pe_callB (cr_any rfl) (by rfl) T.any (by decide +kernel) (pa_cons (pe_lc (own := [("reg", 7)]) (g := gName 7) (tt := tYes) rfl sc_check_move.nd (pi_list (pv 2)) (blkOk_by (N := ["circuit", "gate", "read", "name", "_", "nets", "taken", "reg", "other"]) (sc := defScope s_check_move) (own := [("reg", 7)]) (by decide +kernel)) (fun _ _ _ _ _ => (pg_name (i := 7) sc_check_move.nd rfl (.inl rfl))) (fun _ _ _ _ _ => pts_nil) (fun _ _ _ _ _ => (pe_cmpR (kNeD (K := K) rfl hr.units) (pe_slice (kSlA (K := K) rfl) (pv 7) (po_some pe_int) (po_some pe_int)) (pe_slice (kSlA (K := K) rfl) (pe_ix (kIxL (K := K) rfl) (pv 2) pe_int (fun _ _ => rfl)) (po_some pe_int) (po_some pe_int)) (nomark _)))) pa_nil)))
      (pss_one (ps_raise rfl (takes_of rfl rfl rfl rfl) (pmk_ownA PySem.F.excBase_ValueError UF.xP UF.gC UF.kC (raises_own UF.bC UF.tC) rfl (pa_cons (pe_joined (.cons pe_str (.cons (pe_fmt (pv 3)) (.cons pe_str .nil)))) pa_nil))))
      pss_nil)
    (pss_cons (ps_set (i := 6) sc_check_move.nd rfl (.inl rfl) (pe_op op_cat (pe_call G_sources (hr.mono (by omega)) (by rfl) g_sources k_sources b_sources .nil pass0 (pa_cons (pv 0) pa_nil)) (pe_lc (own := [("other", 8)]) (g := gName 8) (tt := tYes) rfl sc_check_move.nd (pi_tup (pe_ix ix_tup (pv 0) pe_int (fun _ _ => rfl))) (blkOk_by (N := ["circuit", "gate", "read", "name", "_", "nets", "taken", "reg", "other"]) (sc := defScope s_check_move) (own := [("other", 8)]) (by decide +kernel)) (fun _ _ _ _ _ => (pg_name (i := 8) sc_check_move.nd rfl (.inl rfl))) (fun _ _ _ _ _ => pts_nil) (fun _ _ _ _ _ => (pe_ix (kIxT (K := K) rfl) (pv 8) pe_int (fun _ _ => rfl))))))
    (pss_one (ps_if (pt_cmpR op_in_seq (pe_op op_add_str (pv 3) pe_str) (pv 6) (by rfl))
      (pss_one (ps_raise rfl (takes_of rfl rfl rfl rfl) (pmk_ownA PySem.F.excBase_ValueError UF.xP UF.gC UF.kC (raises_own UF.bC UF.tC) rfl (pa_cons (pe_joined (.cons pe_str (.cons (pe_fmt (pv 3)) (.cons pe_str .nil)))) pa_nil))))
      pss_nil)))))), ?_⟩
    obtain ⟨tt, pt, rgt, rga, a1, a2, a3, a4, a5⟩ := id hg
    refine ⟨_, rfl, b, _, rfl, SqT.of a1, rfl, _, _, rfl, _, _, rfl, _, _, rfl, _, _, rfl, rfl, ?_⟩
    simp only [wipe, _root_.L2.start, List.map_cons, List.map_nil, List.length_cons, List.length_nil, Nat.reduceAdd, Nat.reduceSub, List.replicate_succ, List.replicate_zero, List.cons_append, List.nil_append, List.set_cons_zero, List.set_cons_succ]
    obtain ⟨z1, z2, z3⟩ := fs5 (a := "gate ") (b := " does not read regs only") (n := g.name) (by decide +kernel) (by decide +kernel) (by omega)
    obtain ⟨y1, y2, y3⟩ := fs5 (a := "the regs that gate ") (b := " reads have different times") (n := g.name) (by decide +kernel) (by decide +kernel) (by omega)
    obtain ⟨x1, x2, x3⟩ := fs5 (a := "there is a net ") (b := "/d") (n := g.name) (by decide +kernel) (by decide +kernel) (by omega)
    have hal : as.length = rs.length := hA.1
    refine ⟨fun σ' H' => H' = H ∧ σ' = [some (.ref c), some (.ref b), some (.ref rl), some (.str g.name), some (.ref rgt), some (.ref pt), none, none, none] ∧ g.pins ≠ [] ∧ ¬ rs.length < g.pins.length, ?_, ?_⟩
    · refine ⟨_, rfl, _, _, rfl, .inr (SqT.of a3), rfl, _, rfl, ite2 (fun c1 => ?_) (fun c1 => ?_)⟩
      · exact iteT ⟨_, rfl, z1, _, rfl, .inl ⟨g.name, rfl, sz_of (by omega), _, rfl, z2, _, rfl, z3, (by show 1 ≤ sizeLine; decide), q2 (fun M => M.ne (by
          have h1 := of_decide_eq_true c1
          injection h1 with h1
          rw [List.length_map] at h1
          exact List.length_eq_zero_iff.mp (by omega))) H (.refl _)⟩⟩
      have hne : g.pins ≠ [] := fun z => c1 (by rw [z]; rfl)
      refine ⟨_, rfl, _, _, rfl, .inl (SqL.of hrl), _, rfl, _, _, rfl, .inr (SqT.of a3), _, _, rfl, rfl, _, rfl, ite2 (fun c2 => ?_) (fun c2 => ?_)⟩
      · refine ⟨_, rfl, z1, _, rfl, .inl ⟨g.name, rfl, sz_of (by omega), _, rfl, z2, _, rfl, z3, (by show 1 ≤ sizeLine; decide), q2 (fun M => M.all ?_) H (.refl _)⟩⟩
        have h1 := of_decide_eq_true c2
        rw [List.length_map, List.length_map] at h1
        omega
      · refine ⟨rfl, rfl, hne, fun z => c2 (decide_eq_true ?_)⟩
        rw [List.length_map, List.length_map]
        omega
    rintro σ' H' ⟨rfl, rfl, hne, hall⟩
    obtain ⟨r0, rs0, hrs0⟩ : ∃ r0 rs0, rs = r0 :: rs0 := by
      cases rs with
      | nil => exact absurd (by have := List.length_pos_iff.mpr hne; exact this) hall
      | cons r l => exact ⟨r, l, rfl⟩
    obtain ⟨a0, as0, has0⟩ : ∃ a0 as0, as = a0 :: as0 := by
      cases as with
      | nil => rw [hrs0] at hal; cases hal
      | cons a l => exact ⟨a, l, rfl⟩
    have hr0 : RegAt H' a0 r0 := hA.2 0 a0 r0 (by rw [has0]; rfl) (by rw [hrs0]; rfl)
    have hhd : rs.headD noRg = r0 := by rw [hrs0]; rfl
    refine ⟨_, rfl, rl, rfl, ⟨_, SqL.of hrl⟩, fun L nL => wk_list (K := K) (a := rl) (xs := as.map V.ref)
      (fun j G => Ex H' G ∧ G L = some (.lst (((rs.take j).map fun r => !decide (tmsR r = tmsR r0)).map V.bl))) ⟨Ex.new nL, upd_same⟩ (fun j G _ z => SqL.of (z.1 _ _ hrl)) ?_ ?_⟩
    · rintro j y H1 hy ⟨E1, hL⟩
      obtain ⟨b', hb, rfl⟩ := refs_get hy
      obtain ⟨r, hr', hreg⟩ := hA.at_ hb
      have hj : j < rs.length := (List.getElem?_eq_some_iff.mp hr').1
      refine ⟨(by rw [wipe_set (by decide), wipe_wipe]), tYes_in ?_⟩
      simp only [wipe, _root_.L2.start, List.map_cons, List.map_nil, List.length_cons, List.length_nil, Nat.reduceAdd, Nat.reduceSub, List.replicate_succ, List.replicate_zero, List.cons_append, List.nil_append, List.set_cons_zero, List.set_cons_succ]
      refine ⟨_, rfl, 2, rfl, 6, rfl, cut_reg (hreg.te (.of E1)) fun c1 G1 e1 hc1 => ?_⟩
      refine ⟨_, rfl, _, _, _, _, rfl, rfl, SqL.of ((E1.trans e1) _ _ hrl), atI_nat (j := 0) (by rw [has0]; rfl), 2, rfl, 6, rfl, cut_reg (hr0.te (.of (E1.trans e1))) fun c2 G2 e2 hc2 => ?_⟩
      refine ⟨_, _, (hc1.ex e2).dp, hc2.dp, shaped_tms _, shaped_tms _, _, (e1.trans e2) _ _ hL, sz_lt (by rw [List.length_map, List.length_map, List.length_take]; omega), (E1.trans (e1.trans e2)).mut nL, ?_⟩
      rw [upd_same, take_snoc1 hr', List.map_append, List.map_append, eqv_tms]; rfl
    rintro H1 ⟨E1, hL⟩
    rw [List.length_map, hal, List.take_length] at hL
    simp only [wipe, _root_.L2.start, List.map_cons, List.map_nil, List.length_cons, List.length_nil, Nat.reduceAdd, Nat.reduceSub, List.replicate_succ, List.replicate_zero, List.cons_append, List.nil_append, List.set_cons_zero, List.set_cons_succ]
    refine ⟨L, _, rfl, SqL.of hL, _, rfl, ite2 (fun c3 => ?_) (fun c3 => ?_)⟩
    · refine ⟨_, rfl, y1, _, rfl, .inl ⟨g.name, rfl, sz_of (by omega), _, rfl, y2, _, rfl, y3, (by show 1 ≤ sizeLine; decide), q2 (fun M => ?_) _ E1⟩⟩
      rw [List.any_map, List.any_eq_true] at c3
      obtain ⟨r, hr1, hr2⟩ := c3
      have h1 := M.tms r hr1
      rw [hhd] at h1
      have h2 : (!decide (tmsR r = tmsR r0)) = true := hr2
      rw [decide_eq_true h1] at h2
      cases h2
    have htm : ∀ r ∈ rs, tmsR r = tmsR (rs.headD noRg) := fun r hr1 => by
      rw [hhd]
      refine Classical.byContradiction fun z => c3 ?_
      rw [List.any_map, List.any_eq_true]
      exact ⟨r, hr1, by show (!decide (tmsR r = tmsR r0)) = true; rw [decide_eq_false z]; rfl⟩
    have hc1 := hc.te (.of E1)
    refine ⟨_, rfl, c, d, it, gt, rt, ot, ga, ra, oa, rfl, hc1, hsl, fun l2 H2 nl2 E2 hl2 => ?_⟩
    have E02 := E1.trans E2
    have hc2 := hc.te (.of E02)
    refine ⟨_, rfl, _, _, _, _, rfl, rfl, SqT.of hc2.top, atI_nat (j := 1) rfl, gt, rfl, ⟨_, SqT.of hc2.gts⟩, fun L3 nL3 => wk_tup (K := K) (a := gt) (xs := ga.map V.ref)
      (fun j G => Ex H2 G ∧ G L3 = some (.lst (((gnames d).take j).map V.str))) ⟨Ex.new nL3, by rw [upd_same, List.take_zero]; rfl⟩ (fun j G _ z => SqT.of (z.1 _ _ hc2.gts)) ?_ ?_⟩
    · rintro j y H3 hy ⟨E3, hL3⟩
      obtain ⟨b', hb, rfl⟩ := refs_get hy
      obtain ⟨g', hg', t', pt', rgt', rga', b1, b2, b3, b4, b5⟩ := hc2.gates.at_ hb
      have hj : j < d.gates.length := (List.getElem?_eq_some_iff.mp hg').1
      have hgn : (gnames d)[j]? = some g'.name := by unfold gnames; rw [List.getElem?_map, hg']; rfl
      refine ⟨(by rw [wipe_set (by decide), wipe_wipe]), tYes_in ?_⟩
      simp only [wipe, _root_.L2.start, List.map_cons, List.map_nil, List.length_cons, List.length_nil, Nat.reduceAdd, Nat.reduceSub, List.replicate_succ, List.replicate_zero, List.cons_append, List.nil_append, List.set_cons_zero, List.set_cons_succ]
      refine ⟨_, rfl, _, _, _, _, rfl, rfl, SqT.of (E3 _ _ b1), atI_nat (j := 0) rfl, _, hL3, sz_lt (by rw [List.length_map, List.length_take]; omega), E3.mut nL3, ?_⟩
      rw [upd_same, take_snoc1 hgn, List.map_append]; rfl
    rintro H3 ⟨E3, hL3⟩
    have hgnl : (gnames d).length = d.gates.length := List.length_map _
    rw [List.length_map, hc2.gates.1, ← hgnl, List.take_length] at hL3
    simp only [wipe, _root_.L2.start, List.map_cons, List.map_nil, List.length_cons, List.length_nil, Nat.reduceAdd, Nat.reduceSub, List.replicate_succ, List.replicate_zero, List.cons_append, List.nil_append, List.set_cons_zero, List.set_cons_succ]
    refine ⟨l2, L3, _, _, rfl, rfl, E3 _ _ hl2, hL3, sz_of (by rw [List.length_map, List.length_map]; omega), fun l4 n4 => ?_⟩
    rw [← List.map_append]
    have E4 := E02.trans (E3.trans (Ex.new (o := .lst ((srcs d ++ gnames d).map V.str)) n4))
    have hl4 : upd H3 l4 (.lst ((srcs d ++ gnames d).map V.str)) l4 = some (.lst ((srcs d ++ gnames d).map V.str)) := upd_same
    generalize upd H3 l4 (.lst ((srcs d ++ gnames d).map V.str)) = H4 at *
    have e5 : (if (false : Bool) = true then !inV (V.str (g.name ++ "/d")) ((srcs d ++ gnames d).map V.str) else inV (V.str (g.name ++ "/d")) ((srcs d ++ gnames d).map V.str)) = decide (dN g.name ∈ srcs d ++ gnames d) := by rw [if_neg (by decide), inV_sM]; rfl
    have h2 : ("/d" : Str).length = 2 := rfl
    refine ⟨_, rfl, _, _, rfl, rfl, sz_of (by omega), _, rfl, l4, _, rfl, .inl (SqL.of hl4), rfl, flat_sM _, decide (dN g.name ∈ srcs d ++ gnames d), congrArg V.bl e5, ite2 (fun c4 => ?_) (fun c4 => ?_)⟩
    · exact ⟨_, rfl, x1, _, rfl, .inl ⟨g.name, rfl, sz_of (by omega), _, rfl, x2, _, rfl, x3, (by show 1 ≤ sizeLine; decide), q2 (fun M => M.new (of_decide_eq_true c4)) _ E4⟩⟩
    · exact q1 ⟨hne, hall, htm, fun z => c4 (decide_eq_true z)⟩ _ E4
end
end G
namespace G
open PySem PySem.Spec PyProof.Rows L2 Evl TL
/-! ## move_forward -/
section
variable {X : Cx} {C : Addr} {bmB : List Value} {B newId initId : String} {x : Str} {p pos : Pos} {e : Expr} {es : List Expr} {t : TA}
theorem pmk5_ownA (F : ExcBaseFacts B newId initId bmB) (q : PySem.W.excIn X.K C bmB newId = true) (gC : X.mg x = some (.ref C))
    (kC : PySem.W.keepIn X.K (.ref C) = true) (r : Raises X (.ref C)) (hg : Gl X x) (ha : PA X (e :: es) t) (hdb : (x == ("__debug__" : Str)) = false := by decide)
    (he : starEach (e :: es) X.env = (false, eval e X.env) :: starEach es X.env := by rfl) (hpl : (backTo pos (starEach es X.env)).any (·.1) = false := by rfl) :
    L2H.PMk5 X (.Call (.Name x p) (e :: es) [] pos) (fun σ H Q => t σ H fun vs H1 => vs.length ≤ sizeLine ∧ Q (.ref C) none H1) := fun pins s σ H Q I h =>
  wpAny_Call_Name_kw (ld_glob I hg gC (PySem.W.callWith_K (h₀ := X.base) I.ok.mod.kin kC (thn (ha.run pos pins s σ H _ I h) fun us s1 k => by
    obtain ⟨vs, H1, I1, r1, hz, q1⟩ := k
    refine ⟨I1.kIn, ?_⟩
    show wpAny _ _ (call (.ref C) us) _ _ _
    obtain ⟨_, _, _, _, _, _, _, _, _, _, _, _, _, _, _, _, _, hC, hN, hni, T⟩ := exc_obj I1.kIn q
    exact wpAny_call_exc_subT F T hC hN hni (fun h' e hm => L2H.mk_of5 I1 hm r q1 (I1.hok.gone hm.new)) (by rw [← r1.length]; exact hz)) he hpl) hdb)
end
def RegsK (H : Hp) (es : List (L2.Key × V)) (rs : List RegD) : Prop := ∀ x : Str, match rs.find? (fun r => decide (r.name = x)) with
  | none => valV es (.inr x) = none
  | some r => ∃ a, valV es (.inr x) = some (.ref a) ∧ RegAt H a r
theorem RegsK.te {H H' : Hp} {es : List (L2.Key × V)} {rs : List RegD} (e : TEx H H') (h : RegsK H es rs) : RegsK H' es rs := fun x => by
  have := h x
  cases hf : rs.find? (fun r => decide (r.name = x)) with
  | none => rw [hf] at this; exact this
  | some r =>
    rw [hf] at this
    obtain ⟨a, h1, h2⟩ := this
    exact ⟨a, h1, h2.te e⟩
theorem RegsK.put {H : Hp} {es : List (L2.Key × V)} {rs : List RegD} {r : RegD} {a : Addr} (h : RegsK H es rs) (nw : ∀ q ∈ rs, q.name ≠ r.name) (ha : RegAt H a r) : RegsK H (putK es (.inr r.name) (.ref a)) (rs ++ [r]) := fun x => by
  rw [List.find?_append, valV_put]
  by_cases e : x = r.name
  · subst e
    have h0 : rs.find? (fun q => decide (q.name = r.name)) = none := by
      rw [List.find?_eq_none]
      exact fun q hq z => nw q hq (of_decide_eq_true z)
    rw [h0]
    simp only [Option.none_or, List.find?_cons, decide_true, if_true]
    exact ⟨a, rfl, ha⟩
  · have h1 : ([r].find? fun q => decide (q.name = x)) = none := by
      rw [List.find?_cons, decide_eq_false fun z => e z.symm]; rfl
    rw [h1, Option.or_none, if_neg fun z => e (Sum.inr.inj z)]
    exact h x
theorem nd_takeM {l : List Str} (nd : l.Nodup) {j : Nat} {x : Str} (h : l[j]? = some x) : x ∉ l.take j := fun z => by
  obtain ⟨i, hi, e⟩ := List.getElem_of_mem z
  rw [List.length_take] at hi
  rw [List.getElem_take] at e
  obtain ⟨hj, ej⟩ := List.getElem?_eq_some_iff.mp h
  have := (List.getElem_inj nd).mp (e.trans ej.symm)
  omega
theorem set_split {α : Type} : ∀ {l : List α} {k : Nat} {b : α}, k < l.length → l.take k ++ [b] ++ l.drop (k + 1) = l.set k b
  | x :: l, 0, b, _ => rfl
  | x :: l, k + 1, b, h => by
    have := set_split (l := l) (k := k) (b := b) (Nat.lt_of_succ_lt_succ h)
    show x :: (l.take k ++ [b] ++ l.drop (k + 1)) = x :: l.set k b
    rw [this]
theorem all2_set {α β : Type} {R : α → β → Prop} {as : List α} {bs : List β} (h : All2 R as bs) {k : Nat} {a : α} {b : β} (hr : R a b) : All2 R (as.set k a) (bs.set k b) := by
  refine ⟨by rw [List.length_set, List.length_set]; exact h.1, fun i x y hx hy => ?_⟩
  rw [List.getElem?_set] at hx hy
  by_cases e : k = i
  · rw [if_pos e] at hx hy
    by_cases l : k < as.length
    · rw [if_pos l] at hx
      rw [if_pos (by rw [← h.1]; exact l)] at hy
      cases hx; cases hy; exact hr
    · rw [if_neg l] at hx; cases hx
  · rw [if_neg e] at hx hy
    exact h.2 i x y hx hy
theorem mv_iff {d : CircD} {g : GateD} : MvR d g (readM d g) ↔ Mv d g := by
  have hl := fm_len (f := regF d) g.pins
  have hm : dN g.name ∈ namesD d ↔ dN g.name ∈ srcs d ++ gnames d := (names_perm d).mem_iff
  constructor
  · intro h
    exact ⟨h.ne, by have := h.all; unfold readM at *; omega, h.tms, fun z => h.new (hm.mp z)⟩
  · intro h
    exact ⟨h.ne, by have := h.all; omega, h.tms, fun z => h.new (hm.mpr z)⟩
section
variable {P : Program} {w : World} {K : PySem.W.Frag} {mg : Str → Option Value} {base : Heap}
def spMove (Ba Fa : Addr) : Sp := fun vs H Q E => ∃ (c : Addr) (g : Int) (d : CircD) (it gt rt ot : Addr) (ga ra oa : List Addr), vs = [.ref c, .int g] ∧ CircAt H c d it gt rt ot ga ra oa ∧ Sound d ∧ FewE d ∧ (srcs d).length ≤ 100 ∧
  (¬ (0 ≤ g ∧ g < d.gates.length) → ∀ H', Ex H H' → E (.ref Ba) none H') ∧ (∀ (k : Nat) (gd : GateD), g = (k : Int) → d.gates[k]? = some gd → ¬ Mv d gd → ∀ H', Ex H H' → E (.ref Fa) none H') ∧
  (∀ (k : Nat) (gd : GateD), g = (k : Int) → d.gates[k]? = some gd → Mv d gd → ∀ ord, LOrd (needN (movD d k gd)) ord → (DeepP (needN (movD d k gd)) ord → ∀ H', Ex H H' → E (.ref Fa) none H') ∧
    (¬ DeepP (needN (movD d k gd)) ord → ∀ (c' it gt rt ot : Addr) (ga ra oa : List Addr) (H' : Hp), Ex H H' → CircAt H' c' (movD d k gd) it gt rt ot ga ra oa → Q (.ref c') H'))
theorem sc_move_forward : FnScope ["circuit", "g", "inputs", "gates", "regs", "outputs", "name", "table", "nets", "ranges", "by_name", "read", "moved", "times", "new", "changed", "kept", "found", "reg", "net"] ["circuit", "g"] (defScope s_move_forward) := ⟨rfl, rfl, rfl, by decide +kernel, rfl, by decide +kernel, by decide +kernel⟩
theorem ok_move_forward {Ba Fa Cn Cw Cu Cr Dc Lc : Addr} (D : Dfd K mg "move_forward" s_move_forward ["circuit", "g"]) (T : TxtMv mg) (UB : ExcT K mg "BadArgument" Ba) (UF : ExcT K mg "Refused" Fa) (UD : ExcH K mg "TooDeep" Dc) (C1 : HasX P w K mg base 2 "_check_move" ["circuit", "gate", "read"] (spChM Fa))
    (C2 : Has P w K mg base 1 "look_up" ["table", "bits"] spLook) (C3 : Has P w K mg base 1 "_without_unread" ["gates", "regs", "outputs", "names"] spUnread) (C4 : HasN P w K mg base 5 "check_circuit" ["circuit"] (spCkD Cn Cw Cu Cr Dc Lc)) :
    HasX P w K mg base 6 "move_forward" ["circuit", "g"] (spMove Ba Fa) := by
  obtain ⟨f_check_move, d_check_move, G_check_move, g_check_move, k_check_move, b_check_move⟩ := C1
  obtain ⟨f_look_up, d_look_up, G_look_up, g_look_up, k_look_up, b_look_up⟩ := C2
  obtain ⟨f_without_unread, d_without_unread, G_without_unread, g_without_unread, k_without_unread, b_without_unread⟩ := C3
  obtain ⟨f_check_circuit, d_check_circuit, G_check_circuit, g_check_circuit, k_check_circuit, b_check_circuit⟩ := C4
  obtain ⟨f, fd, F, gf, bf⟩ := D
  refine ⟨f, fd, F.okX sc_move_forward (fun vs H Q E h => ?_) (fun cdv A outer s H vs Q E hr h => ?_), gf, F.kp, bf⟩
  · obtain ⟨c, g, d, it, gt, rt, ot, ga, ra, oa, rfl, _⟩ := h
    rfl
  · obtain ⟨c, g, d, it, gt, rt, ot, ga, ra, oa, rfl, hc, S, Fw, hsl, qB, qF, q⟩ := h
    refine ⟨_, (pss_cons (ps_asg (pv 0) (pg_tup rfl (pgs_cons (pg_name (i := 2) sc_move_forward.nd rfl (.inl rfl)) (pgs_cons (pg_name (i := 3) sc_move_forward.nd rfl (.inl rfl)) (pgs_cons (pg_name (i := 4) sc_move_forward.nd rfl (.inl rfl)) (pgs_cons (pg_name (i := 5) sc_move_forward.nd rfl (.inl rfl)) pgs_nil))))))
    (pss_cut (ps_if (PW.pt (pw_or (pt_cmpR op_lt (pv 1) pe_int (nomark _)) (pw_or1 (pt_cmpR op_ge (pv 1) (pe_callB call_len_seq (by rfl) T.len (by decide +kernel) (pa_cons (pv 3) pa_nil)) (nomark _)))))
      (pss_one (ps_raise rfl (takes_of rfl rfl rfl rfl) (pmk_ownA PySem.F.excBase_ValueError UB.xP UB.gC UB.kC (raises_own UB.bC UB.tC) rfl (pa_cons pe_str pa_nil))))
      pss_nil)
    (pss_cons (ps_asg (pe_ix ix_tup (pv 3) (pv 1) (fun _ _ => rfl)) (pg_tup rfl (pgs_cons (pg_name (i := 6) sc_move_forward.nd rfl (.inl rfl)) (pgs_cons (pg_name (i := 7) sc_move_forward.nd rfl (.inl rfl)) (pgs_cons (pg_name (i := 8) sc_move_forward.nd rfl (.inl rfl)) (pgs_cons (pg_name (i := 9) sc_move_forward.nd rfl (.inl rfl)) pgs_nil))))))
    (pss_cons (ps_set (i := 10) sc_move_forward.nd rfl (.inr rfl) (pe_dc (own := [("reg", 18)]) (g := gName 18) (tt := tYes) rfl sc_move_forward.nd (pi_tup (pv 4)) (blkOk_by (N := ["circuit", "g", "inputs", "gates", "regs", "outputs", "name", "table", "nets", "ranges", "by_name", "read", "moved", "times", "new", "changed", "kept", "found", "reg", "net"]) (sc := defScope s_move_forward) (own := [("reg", 18)]) (by decide +kernel)) (fun _ _ _ _ _ => (pg_name (i := 18) sc_move_forward.nd rfl (.inl rfl))) (fun _ _ _ _ _ => pts_nil) (fun _ _ _ _ _ => (pe_ix (kIxT (K := K) rfl) (pv 18) pe_int (fun _ _ => rfl))) (fun _ _ _ _ _ => (pv 18))))
    (pss_cons (ps_setLc (i := 11) (own := [("net", 19)]) (g := gName 19) (tt := _) rfl sc_move_forward.nd rfl rfl (sw_true rfl rfl rfl (by decide +kernel)) (pi_tup (pv 8)) (blkOk_by (N := ["circuit", "g", "inputs", "gates", "regs", "outputs", "name", "table", "nets", "ranges", "by_name", "read", "moved", "times", "new", "changed", "kept", "found", "reg", "net"]) (sc := defScope s_move_forward) (own := [("net", 19)]) (by decide +kernel)) (fun _ _ _ _ _ => (pg_name (i := 19) sc_move_forward.nd rfl (.inl rfl))) (fun _ _ _ _ _ => pts_one (pt_cmp (pc_din (hu_of hr) (pv 19) (pv 10)))) (fun _ _ _ _ _ => (pe_dget (hu_of hr) (pv 10) (pv 19) (fun _ _ => rfl))))
    (pss_cons (ps_expr (pe_call G_check_move (hr.mono (by omega)) (by rfl) g_check_move k_check_move b_check_move .nil (passes_call (takes_of rfl rfl rfl rfl) fun _ _ _ _ h => h) (pa_cons (pv 0) (pa_cons (pe_ix ix_tup (pv 3) (pv 1) (fun _ _ => rfl)) (pa_cons (pv 11) pa_nil)))))
    (pss_cons (ps_set (i := 12) sc_move_forward.nd rfl (.inl rfl) (pe_tup (pa_cons (pe_op op_add_str (pv 6) pe_str) (pa_cons (pv 7) (pa_cons (pe_callTy call_tuple_of (by rfl) T.tuple (by decide +kernel) (pa_cons (pe_lc (own := [("reg", 18)]) (g := gName 18) (tt := tYes) rfl sc_move_forward.nd (pi_list (pv 11)) (blkOk_by (N := ["circuit", "g", "inputs", "gates", "regs", "outputs", "name", "table", "nets", "ranges", "by_name", "read", "moved", "times", "new", "changed", "kept", "found", "reg", "net"]) (sc := defScope s_move_forward) (own := [("reg", 18)]) (by decide +kernel)) (fun _ _ _ _ _ => (pg_name (i := 18) sc_move_forward.nd rfl (.inl rfl))) (fun _ _ _ _ _ => pts_nil) (fun _ _ _ _ _ => (pe_ix (kIxT (K := K) rfl) (pv 18) pe_int (fun _ _ => rfl)))) pa_nil)) (pa_cons (pv 9) pa_nil))))))
    (pss_cons (ps_set (i := 13) sc_move_forward.nd rfl (.inl rfl) (pe_slice sl_tupA (pe_ix ix_list (pv 11) pe_int (fun _ _ => rfl)) (po_some pe_int) (po_some pe_int)))
    (pss_cons (ps_set (i := 14) sc_move_forward.nd rfl (.inl rfl) (pe_tup (pa_cons (pv 6) (pa_cons (pe_ix ix_tup (pv 12) pe_int (fun _ _ => rfl)) (_root_.StX.pa_star (pv 13) (pa_cons (pe_call G_look_up (hr.mono (by omega)) (by rfl) g_look_up k_look_up b_look_up .nil pass0 (pa_cons (pv 7) (pa_cons (pe_lc (own := [("reg", 18)]) (g := gName 18) (tt := tYes) rfl sc_move_forward.nd (pi_list (pv 11)) (blkOk_by (N := ["circuit", "g", "inputs", "gates", "regs", "outputs", "name", "table", "nets", "ranges", "by_name", "read", "moved", "times", "new", "changed", "kept", "found", "reg", "net"]) (sc := defScope s_move_forward) (own := [("reg", 18)]) (by decide +kernel)) (fun _ _ _ _ _ => (pg_name (i := 18) sc_move_forward.nd rfl (.inl rfl))) (fun _ _ _ _ _ => pts_nil) (fun _ _ _ _ _ => (pe_ix (kIxT (K := K) rfl) (pv 18) pe_int (fun _ _ => rfl)))) pa_nil))) pa_nil))))))
    (pss_cons (ps_set (i := 15) sc_move_forward.nd rfl (.inl rfl) (pe_op op_catA (pe_op op_catA (pe_slice sl_tupA (pv 3) po_none (po_some (pv 1))) (pe_tup (pa_cons (pv 12) pa_nil))) (pe_slice sl_tupA (pv 3) (po_some (pe_op op_add (pv 1) pe_int)) po_none)))
    (pss_cons (ps_set (i := 16) sc_move_forward.nd rfl (.inl rfl) (pe_call G_without_unread (hr.mono (by omega)) (by rfl) g_without_unread k_without_unread b_without_unread .nil pass0 (pa_cons (pv 15) (pa_cons (pe_op op_catA (pv 4) (pe_tup (pa_cons (pv 14) pa_nil))) (pa_cons (pv 5) (pa_cons (pv 8) pa_nil))))))
    (pss_cons (ps_set (i := 17) sc_move_forward.nd rfl (.inl rfl) (pe_tup (pa_cons (pv 2) (pa_cons (pv 15) (pa_cons (pv 16) (pa_cons (pv 5) pa_nil))))))
    (pss_cons (L2H.ps_try_onlyX (c := .ref Dc) rfl rfl ⟨rfl, by decide, .inl UD.u.gC⟩ (fun hd => L2H.passesAt_of rfl hd) (takes_of rfl rfl rfl rfl) (fun W pn xe tkN tkX hp => pss_one (ps_expr (pe_callS G_check_circuit (hr.mono (by omega)) rfl g_check_circuit k_check_circuit b_check_circuit (fun σ => L2N.passAt tkN σ) (pa_cons (pv 17) pa_nil)))) (fun a oe cls dd pn hz hf tk hot => pss_one (L2H.ps_raiseHN hot tk (pmk5_ownA PySem.F.excBase_ValueError UF.xP UF.gC UF.kC (raises_own UF.bC UF.tC) rfl (pa_cons pe_str pa_nil)))))
    (pss_one (ps_ret (pv 17)))))))))))))))), ?_⟩
    have hgl : (ga.map V.ref).length = d.gates.length := by rw [List.length_map, hc.gates.1]
    obtain ⟨ndi, ndg, ndr, hgr⟩ := nd_parts S
    have hrs := Fw.rs
    refine ⟨_, rfl, c, _, rfl, SqT.of hc.top, rfl, _, _, rfl, _, _, rfl, _, _, rfl, _, _, rfl, rfl, ?_⟩
    simp only [wipe, _root_.L2.start, List.map_cons, List.map_nil, List.length_cons, List.length_nil, Nat.reduceAdd, Nat.reduceSub, List.replicate_succ, List.replicate_zero, List.cons_append, List.nil_append, List.set_cons_zero, List.set_cons_succ]
    refine ⟨fun σ' H' => H' = H ∧ σ' = [some (.ref c), some (.int g), some (.ref it), some (.ref gt), some (.ref rt), some (.ref ot), none, none, none, none, none, none, none, none, none, none, none, none, none, none] ∧ 0 ≤ g ∧ g < d.gates.length, ?_, ?_⟩
    · refine ⟨_, rfl, _, _, rfl, rfl, _, rfl, ite2 (fun c1 => ?_) (fun c1 => ?_)⟩
      · exact iteT ⟨(by show 1 ≤ sizeLine; decide), qB (fun z => by have := of_decide_eq_true c1; omega) H (.refl _)⟩
      have g0 : ¬ g < 0 := fun z => c1 (decide_eq_true z)
      refine ⟨_, rfl, _, rfl, _, _, rfl, .inr (SqT.of hc.gts), _, _, rfl, rfl, _, rfl, ite2 (fun c2 => ?_) (fun c2 => ?_)⟩
      · refine ⟨(by show 1 ≤ sizeLine; decide), qB (fun z => ?_) H (.refl _)⟩
        have := of_decide_eq_true c2
        rw [hgl] at this; omega
      · refine ⟨rfl, rfl, by omega, ?_⟩
        have : ¬ (((ga.map V.ref).length : Int) ≤ g) := fun z => c2 (decide_eq_true z)
        rw [hgl] at this; omega
    rintro σ' H' ⟨rfl, rfl, g0, g1⟩
    obtain ⟨k, rfl⟩ : ∃ k : Nat, g = k := ⟨g.toNat, by omega⟩
    have hk : k < d.gates.length := by omega
    have hga : k < ga.length := by rw [hc.gates.1]; exact hk
    have hgr2 : (ga.map V.ref)[k]? = some (.ref ga[k]) := by rw [List.getElem?_map, List.getElem?_eq_getElem hga]; rfl
    have hgd : d.gates[k]? = some d.gates[k] := List.getElem?_eq_getElem hk
    have hgat := hc.gates.2 k ga[k] d.gates[k] (List.getElem?_eq_getElem hga) hgd
    have hcnt := S.cnt _ (List.getElem_mem hk)
    have hgm := List.getElem_mem hk
    generalize d.gates[k] = gd at hgd hgat hcnt hgm
    generalize hb0 : ga[k] = gb at hgr2 hgat
    obtain ⟨tt, pt, rgt, rga, a1, a2, a3, a4, a5⟩ := id hgat
    refine ⟨_, rfl, _, rfl, _, _, _, _, rfl, rfl, SqT.of hc.gts, atI_nat hgr2, gb, _, rfl, SqT.of a1, rfl, _, _, rfl, _, _, rfl, _, _, rfl, _, _, rfl, rfl, ?_⟩
    simp only [wipe, _root_.L2.start, List.map_cons, List.map_nil, List.length_cons, List.length_nil, Nat.reduceAdd, Nat.reduceSub, List.replicate_succ, List.replicate_zero, List.cons_append, List.nil_append, List.set_cons_zero, List.set_cons_succ]
    refine ⟨_, rfl, rt, rfl, ⟨_, SqT.of hc.rgs⟩, fun Db nDb => wk_tup (K := K) (a := rt) (xs := ra.map V.ref)
      (fun j G => Ex H' G ∧ ∃ es : List (L2.Key × V), G Db = some (.dK es) ∧ es.length ≤ j ∧ RegsK H' es (d.regs.take j)) ⟨Ex.new nDb, [], upd_same, Nat.le_refl _, fun x => by rw [List.take_zero]; rfl⟩ (fun j G _ z => SqT.of (z.1 _ _ hc.rgs)) ?_ ?_⟩
    · rintro j y H1 hy ⟨E1, es, hD, hel, hK⟩
      obtain ⟨b, hb, rfl⟩ := refs_get hy
      obtain ⟨r, hr', hreg⟩ := hc.regs.at_ hb
      obtain ⟨ea, ob, b1, b2, b3⟩ := id hreg
      have hj : j < d.regs.length := (List.getElem?_eq_some_iff.mp hr').1
      refine ⟨(by rw [wipe_set (by decide), wipe_wipe]), tYes_in ?_⟩
      simp only [wipe, _root_.L2.start, List.map_cons, List.map_nil, List.length_cons, List.length_nil, Nat.reduceAdd, Nat.reduceSub, List.replicate_succ, List.replicate_zero, List.cons_append, List.nil_append, List.set_cons_zero, List.set_cons_succ]
      refine ⟨_, rfl, _, _, _, _, rfl, rfl, SqT.of (E1 _ _ b1), atI_nat (j := 0) rfl, _, rfl, es, .inr r.name, rfl, hD, sz_lt (by omega), E1.mut nDb, _, upd_same, ?_, ?_⟩
      · have := length_putK es (Sum.inr r.name) (.ref b); omega
      · rw [take_snoc1 hr']
        refine hK.put (fun q hq z => ?_) hreg
        have hn : (d.regs.map (·.name))[j]? = some r.name := by rw [List.getElem?_map, hr']; rfl
        refine nd_takeM ndr hn ?_
        rw [← List.map_take]
        exact List.mem_map.mpr ⟨q, hq, z⟩
    rintro H1 ⟨E1, es, hD, hel, hK⟩
    rw [List.length_map, hc.regs.1, List.take_length] at hK
    simp only [wipe, _root_.L2.start, List.map_cons, List.map_nil, List.length_cons, List.length_nil, Nat.reduceAdd, Nat.reduceSub, List.replicate_succ, List.replicate_zero, List.cons_append, List.nil_append, List.set_cons_zero, List.set_cons_succ]
    refine ⟨_, rfl, pt, rfl, ⟨_, SqT.of (E1 _ _ a3)⟩, fun L nL => wk_tup (K := K) (a := pt) (xs := gd.pins.map V.str)
      (fun j G => Ex H1 G ∧ ∃ as : List Addr, G L = some (.lst (as.map V.ref)) ∧ as.length ≤ j ∧ All2 (RegAt H') as ((gd.pins.take j).filterMap (regF d))) ⟨Ex.new nL, [], upd_same, Nat.le_refl _, by rw [List.take_zero]; exact .nil⟩ (fun j G _ z => SqT.of ((E1.trans z.1) _ _ a3)) ?_ ?_⟩
    · rintro j y H2 hy ⟨E2, as, hL, hal, hA⟩
      rw [List.getElem?_map] at hy
      obtain ⟨p, hp, rfl⟩ := Option.map_eq_some_iff.mp hy
      have hj : j < gd.pins.length := (List.getElem?_eq_some_iff.mp hp).1
      refine ⟨(by rw [wipe_set (by decide), wipe_wipe]), ?_⟩
      simp only [wipe, _root_.L2.start, List.map_cons, List.map_nil, List.length_cons, List.length_nil, Nat.reduceAdd, Nat.reduceSub, List.replicate_succ, List.replicate_zero, List.cons_append, List.nil_append, List.set_cons_zero, List.set_cons_succ]
      refine ⟨_, rfl, _, rfl, Db, _, rfl, DGet.k (k := Sum.inr p) (E2 _ _ hD), _, rfl, ?_⟩
      have hKp := hK p
      have hrp : d.regs.find? (fun r => decide (r.name = p)) = regF d p := rfl
      rw [hrp] at hKp
      cases hf : regF d p with
      | none =>
        rw [hf] at hKp
        rw [hKp]
        refine iteF ⟨E2, as, hL, by omega, ?_⟩
        rw [take_snoc1 hp, List.filterMap_append, List.filterMap_cons, hf]
        simpa using hA
      | some r =>
        rw [hf] at hKp
        obtain ⟨ar, hv, har⟩ := hKp
        rw [hv]
        refine iteT ⟨_, rfl, _, rfl, Db, _, rfl, .inl ⟨es, .inr p, .inl (E2 _ _ hD), rfl, hv.symm⟩, _, hL, sz_lt (by rw [List.length_map]; have := hcnt.1; omega), E2.mut nL, as ++ [ar], by rw [upd_same, List.map_append]; rfl, by rw [List.length_append, List.length_singleton]; omega, ?_⟩
        rw [take_snoc1 hp, List.filterMap_append, List.filterMap_cons, hf]
        exact hA.snoc har
    rintro H2 ⟨E2, as, hL, hal, hA⟩
    rw [List.length_map] at hal
    rw [List.length_map, List.take_length] at hA
    have hA : All2 (RegAt H') as (readM d gd) := hA
    simp only [wipe, _root_.L2.start, List.map_cons, List.map_nil, List.length_cons, List.length_nil, Nat.reduceAdd, Nat.reduceSub, List.replicate_succ, List.replicate_zero, List.cons_append, List.nil_append, List.set_cons_zero, List.set_cons_succ]
    have e02 := E1.trans E2
    have hc2 := hc.te (.of e02)
    have hnl : gd.name.length ≤ 900 := Fw.tx _ (List.mem_append_left _ (List.mem_append_right _ (List.mem_map.mpr ⟨gd, hgm, rfl⟩)))
    have hral : (readM d gd).length ≤ 10 := by rw [← hA.1]; have := hcnt.1; omega
    refine ⟨_, rfl, _, rfl, _, rfl, _, _, _, _, rfl, rfl, SqT.of hc2.gts, atI_nat hgr2, _, rfl, c, gb, L, d, gd, as, readM d gd, it, gt, rt, ot, ga, ra, oa, rfl, hc2, hgat.te (.of e02), hL, hA.imp fun _ _ z => z.te (.of e02), by omega, by have := hcnt.1; omega, hral, hsl, by have := Fw.gs; omega, fun M H3 E3 => ?_, fun nM H3 E3 => qF k gd rfl hgd (fun M => nM (mv_iff.mpr M)) H3 (e02.trans E3)⟩
    have M := mv_iff.mp M
    have e03 := e02.trans E3
    have hL3 := E3 _ _ hL
    have hA3 := hA.imp fun _ _ z => (show RegAt H3 _ _ from z.te (.of e03))
    have h2d : ("/d" : Str).length = 2 := rfl
    obtain ⟨r0, rs0, hrs0⟩ : ∃ r0 rs0, readM d gd = r0 :: rs0 := by
      cases e : readM d gd with
      | nil => have := M.all; rw [e] at this; exact absurd (List.length_eq_zero_iff.mp this.symm) M.ne
      | cons r l => exact ⟨r, l, rfl⟩
    obtain ⟨a0, as0, has0⟩ : ∃ a0 as0, as = a0 :: as0 := by
      cases e : as with
      | nil => have := hA.1; rw [e, hrs0] at this; cases this
      | cons a l => exact ⟨a, l, rfl⟩
    have hr0 : RegAt H3 a0 r0 := hA3.2 0 a0 r0 (by rw [has0]; rfl) (by rw [hrs0]; rfl)
    -- moved
    refine ⟨_, rfl, _, _, rfl, rfl, sz_of (by omega), _, rfl, _, rfl, L, rfl, ⟨_, SqL.of hL3⟩, fun Lm nLm => wk_list (K := K) (a := L) (xs := as.map V.ref)
      (fun j G => Ex H3 G ∧ G Lm = some (.lst ((((readM d gd).take j).map fun r : RegD => r.net).map V.str))) ⟨Ex.new nLm, by rw [upd_same, List.take_zero]; rfl⟩ (fun j G _ z => SqL.of (z.1 _ _ hL3)) ?_ ?_⟩
    · rintro j y H4 hy ⟨E4, hLm⟩
      obtain ⟨b, hb, rfl⟩ := refs_get hy
      obtain ⟨r, hr', ea, ob, b1, b2, b3⟩ := hA3.at_ hb
      have hj : j < (readM d gd).length := (List.getElem?_eq_some_iff.mp hr').1
      refine ⟨(by rw [wipe_set (by decide), wipe_wipe]), tYes_in ?_⟩
      simp only [wipe, _root_.L2.start, List.map_cons, List.map_nil, List.length_cons, List.length_nil, Nat.reduceAdd, Nat.reduceSub, List.replicate_succ, List.replicate_zero, List.cons_append, List.nil_append, List.set_cons_zero, List.set_cons_succ]
      refine ⟨_, rfl, _, _, _, _, rfl, rfl, SqT.of (E4 _ _ b1), atI_nat (j := 1) rfl, _, hLm, sz_lt (by rw [List.length_map, List.length_map, List.length_take]; omega), E4.mut nLm, ?_⟩
      rw [upd_same, take_snoc1 hr', List.map_append, List.map_append]; rfl
    rintro H4 ⟨E4, hLm⟩
    rw [List.length_map, hA3.1, List.take_length] at hLm
    simp only [wipe, _root_.L2.start, List.map_cons, List.map_nil, List.length_cons, List.length_nil, Nat.reduceAdd, Nat.reduceSub, List.replicate_succ, List.replicate_zero, List.cons_append, List.nil_append, List.set_cons_zero, List.set_cons_succ]
    refine ⟨Lm, _, rfl, .inl ⟨SqL.of hLm, fun pm npm => ⟨_, rfl, (by show 4 ≤ sizeLine; decide), fun mv nmv => ?_⟩⟩⟩
    have E5 : Ex H4 (upd H4 pm (.tup (((readM d gd).map fun r : RegD => r.net).map V.str))) := Ex.new npm
    have hpm : upd H4 pm (.tup (((readM d gd).map fun r : RegD => r.net).map V.str)) pm = some (.tup ((movG d gd).pins.map V.str)) := upd_same
    generalize upd H4 pm (.tup (((readM d gd).map fun r : RegD => r.net).map V.str)) = H5 at *
    have E6 : Ex H5 (upd H5 mv (.tup [.str (gd.name ++ "/d"), .ref tt, .ref pm, .ref rgt])) := Ex.new nmv
    have hmv : upd H5 mv (.tup [.str (gd.name ++ "/d"), .ref tt, .ref pm, .ref rgt]) mv = some (.tup [.str (dN gd.name), .ref tt, .ref pm, .ref rgt]) := upd_same
    generalize upd H5 mv (.tup [.str (gd.name ++ "/d"), .ref tt, .ref pm, .ref rgt]) = H6 at *
    have e36 := E4.trans (E5.trans E6)
    have e06 := e03.trans e36
    have hmovG : GateAt H6 mv (movG d gd) := ⟨tt, pm, rgt, rga, hmv, e06 _ _ a2, E6 _ _ hpm, e06 _ _ a4, a5.imp fun _ _ z => e06 _ _ z⟩
    -- times
    refine ⟨_, rfl, _, _, _, _, rfl, rfl, SqL.of (e36 _ _ hL3), atI_nat (j := 0) (by rw [has0]; rfl), 2, rfl, 6, rfl, cut_reg (hr0.te (.of e36)) fun tm H7 E7 htm => ?_⟩
    have e37 := e36.trans E7
    obtain ⟨ea, ob, ht1, ht2, ht3⟩ := id htm
    -- new
    refine ⟨_, rfl, _, rfl, _, _, _, _, rfl, rfl, SqT.of (E7 _ _ hmv), atI_nat (j := 0) rfl, _, rfl, tm, _, rfl, .inl (SqT.of ht1), _, rfl, _, rfl, L, rfl, ⟨_, SqL.of (e37 _ _ hL3)⟩, fun Ls nLs => wk_list (K := K) (a := L) (xs := as.map V.ref)
      (fun j G => Ex H7 G ∧ G Ls = some (.lst ((((readM d gd).take j).map fun r : RegD => r.start).map V.bl))) ⟨Ex.new nLs, by rw [upd_same, List.take_zero]; rfl⟩ (fun j G _ z => SqL.of (z.1 _ _ (e37 _ _ hL3))) ?_ ?_⟩
    · rintro j y H8 hy ⟨E8, hLs⟩
      obtain ⟨b, hb, rfl⟩ := refs_get hy
      obtain ⟨r, hr', ea', ob', b1, b2, b3⟩ := hA3.at_ hb
      have hj : j < (readM d gd).length := (List.getElem?_eq_some_iff.mp hr').1
      refine ⟨(by rw [wipe_set (by decide), wipe_wipe]), tYes_in ?_⟩
      simp only [wipe, _root_.L2.start, List.map_cons, List.map_nil, List.length_cons, List.length_nil, Nat.reduceAdd, Nat.reduceSub, List.replicate_succ, List.replicate_zero, List.cons_append, List.nil_append, List.set_cons_zero, List.set_cons_succ]
      refine ⟨_, rfl, _, _, _, _, rfl, rfl, SqT.of ((e37.trans E8) _ _ b1), atI_nat (j := 6) rfl, _, hLs, sz_lt (by rw [List.length_map, List.length_map, List.length_take]; omega), E8.mut nLs, ?_⟩
      rw [upd_same, take_snoc1 hr', List.map_append, List.map_append]; rfl
    rintro H8 ⟨E8, hLs⟩
    rw [List.length_map, hA3.1, List.take_length] at hLs
    simp only [wipe, _root_.L2.start, List.map_cons, List.map_nil, List.length_cons, List.length_nil, Nat.reduceAdd, Nat.reduceSub, List.replicate_succ, List.replicate_zero, List.cons_append, List.nil_append, List.set_cons_zero, List.set_cons_succ]
    have e08 := e06.trans (E7.trans E8)
    have hst : ((readM d gd).map fun r : RegD => r.start).length = gd.pins.length := by rw [List.length_map]; exact M.all
    refine ⟨tt, Ls, gd.tab, _, rfl, e08 _ _ a2, hLs, by rw [hst]; have := hcnt.1; omega, by rw [hst]; exact hcnt.2.2, fun H9 E9 => ?_⟩
    refine ⟨(by show 7 ≤ sizeLine; decide), fun nw nnw => ?_⟩
    have e09 := e08.trans E9
    have E10 : Ex H9 (upd H9 nw (.tup [.str gd.name, .str (dN gd.name), .ref ea, .ref ob, .int r0.setup, .int r0.hold, .bl (lookB gd.tab ((readM d gd).map fun r : RegD => r.start))])) := Ex.new nnw
    have hnw : upd H9 nw (.tup [.str gd.name, .str (dN gd.name), .ref ea, .ref ob, .int r0.setup, .int r0.hold, .bl (lookB gd.tab ((readM d gd).map fun r : RegD => r.start))]) nw = some (.tup [.str gd.name, .str (dN gd.name), .ref ea, .ref ob, .int r0.setup, .int r0.hold, .bl (lookB gd.tab ((readM d gd).map fun r : RegD => r.start))]) := upd_same
    show gName 14 (V.ref nw) _ (upd H9 nw (.tup [.str gd.name, .str (dN gd.name), .ref ea, .ref ob, .int r0.setup, .int r0.hold, .bl (lookB gd.tab ((readM d gd).map fun r : RegD => r.start))])) _
    generalize upd H9 nw (.tup [.str gd.name, .str (dN gd.name), .ref ea, .ref ob, .int r0.setup, .int r0.hold, .bl (lookB gd.tab ((readM d gd).map fun r : RegD => r.start))]) = HA at *
    have e0A := e09.trans E10
    have hhd : (readM d gd).headD noRg = r0 := by rw [hrs0]; rfl
    have e7A := E8.trans (E9.trans E10)
    have hnewR : RegAt HA nw (newR d gd) := by
      refine ⟨ea, ob, ?_, ?_, ?_⟩
      · rw [hnw]; unfold newR; rw [hhd]
      · unfold newR; rw [hhd]; exact e7A _ _ ht2
      · unfold newR; rw [hhd]; exact e7A _ _ ht3
    have hmvA := hmovG.te (.of (E7.trans e7A))
    have hgl190 := Fw.gs
    have hkl : k ≤ (ga.map V.ref).length := by omega
    have hkl1 : k + 1 ≤ (ga.map V.ref).length := by omega
    -- changed
    refine ⟨_, rfl, _, rfl, _, rfl, cut_tup (e0A _ _ hc.gts) fun s1 HB EB hs1 => ⟨_, rfl, (by show 1 ≤ sizeLine; decide), fun t1 nt1 => ?_⟩⟩
    rw [cutV_head hkl] at hs1
    have EC : Ex HB (upd HB t1 (.tup [.ref mv])) := Ex.new nt1
    have ht1' : upd HB t1 (.tup [.ref mv]) t1 = some (.tup [.ref mv]) := upd_same
    generalize upd HB t1 (.tup [.ref mv]) = HC at *
    refine cat_tup (EC _ _ hs1) ht1' (sz_of (by rw [List.length_take, List.length_singleton]; omega)) fun s2 HD' ED hs2 => ?_
    refine ⟨_, rfl, _, rfl, _, _, rfl, rfl, _, rfl, ?_⟩
    unfold tNoPart
    dsimp only
    refine cut_tup ((e0A.trans (EB.trans (EC.trans ED))) _ _ hc.gts) fun s3 HE EE hs3 => ?_
    rw [show ((k : Nat) : Int) + 1 = ((k + 1 : Nat) : Int) from rfl, cutV_tail hkl1] at hs3
    refine cat_tup (EE _ _ hs2) hs3 (sz_of (by rw [List.length_append, List.length_take, List.length_singleton, List.length_drop]; omega)) fun ch HF EF hch => ?_
    have eAF := EB.trans (EC.trans (ED.trans (EE.trans EF)))
    have e0F := e0A.trans eAF
    have hch2 : HF ch = some (.tup ((ga.set k mv).map V.ref)) := by
      rw [hch, List.map_set, ← set_split (by omega)]
    have hgA : All2 (GateAt HF) (ga.set k mv) (d.gates.set k (movG d gd)) := all2_set (hc.gates.imp fun _ _ z => z.te (.of e0F)) (hmvA.te (.of eAF))
    -- kept
    refine ⟨_, rfl, _, rfl, _, rfl, (by show 1 ≤ sizeLine; decide), fun t2 nt2 => ?_⟩
    have EG : Ex HF (upd HF t2 (.tup [.ref nw])) := Ex.new nt2
    have ht2' : upd HF t2 (.tup [.ref nw]) t2 = some (.tup [.ref nw]) := upd_same
    generalize upd HF t2 (.tup [.ref nw]) = HG at *
    have e0G := e0F.trans EG
    refine cat_tup (e0G _ _ hc.rgs) ht2' (sz_of (by rw [List.length_map, List.length_singleton, hc.regs.1]; omega)) fun rg2 HH EH hrg2 => ?_
    have e0H := e0G.trans EH
    have eFH := EG.trans EH
    have hRA : All2 (RegAt HH) (ra ++ [nw]) (regsM d gd) := (hc.regs.imp fun _ _ z => z.te (.of e0H)).snoc (hnewR.te (.of (eAF.trans eFH)))
    have hpl6 : ∀ g ∈ d.gates.set k (movG d gd), g.pins.length ≤ 10 := fun g hg => by
      rcases gate_in hg with z | z
      · rw [z]; show ((readM d gd).map _).length ≤ 10; rw [List.length_map]; omega
      · have := (S.cnt g z).1; omega
    refine ⟨_, rfl, _, rfl, ch, rg2, ot, pt, ga.set k mv, ra ++ [nw], oa, d.gates.set k (movG d gd), regsM d gd, d.outs, gd.pins, rfl, eFH _ _ hch2, hgA.imp fun _ _ z => z.te (.of eFH), by rw [hrg2, List.map_append]; rfl, hRA, e0H _ _ hc.ots, hc.outs.imp fun _ _ z => e0H _ _ z, e0H _ _ a3, by rw [List.length_set]; omega, hpl6, ?_, by have := Fw.os; omega, fun kt ks HI EI hkt hkA => ?_⟩
    · show (d.regs ++ [newR d gd]).length ≤ 200
      rw [List.length_append, List.length_singleton]; omega
    -- found
    refine ⟨_, rfl, _, rfl, _, rfl, _, rfl, (by show 4 ≤ sizeLine; decide), fun fc nfc => ?_⟩
    have EJ : Ex HI (upd HI fc (.tup [.ref it, .ref ch, .ref kt, .ref ot])) := Ex.new nfc
    have hfc : upd HI fc (.tup [.ref it, .ref ch, .ref kt, .ref ot]) fc = some (.tup [.ref it, .ref ch, .ref kt, .ref ot]) := upd_same
    generalize upd HI fc (.tup [.ref it, .ref ch, .ref kt, .ref ot]) = HJ at *
    have e0J := e0H.trans (EI.trans EJ)
    have eFJ := eFH.trans (EI.trans EJ)
    have hcF : CircAt HJ fc (movD d k gd) it ch kt ot (ga.set k mv) ks oa := ⟨hfc, e0J _ _ hc.ins, eFJ _ _ hch2, EJ _ _ hkt, e0J _ _ hc.ots, hgA.imp fun _ _ z => z.te (.of eFJ), hkA.imp fun _ _ z => z.te (.of EJ), hc.outs.imp fun _ _ z => e0J _ _ z⟩
    have SE := mov_sound S Fw hgd M
    refine ⟨_, rfl, fc, movD d k gd, it, ch, kt, ot, ga.set k mv, ks, oa, rfl, hcF, SE.few, (fun z => absurd SE.nm z), (fun _ z => absurd SE.cnt z), (fun _ _ z => absurd SE.net z), (fun _ _ _ z => absurd SE.rng z), fun _ _ _ _ ord Lo => ?_⟩
    obtain ⟨rank, hr'⟩ := SE.rank
    obtain ⟨hlen, _⟩ := rank_all hr' Lo
    obtain ⟨p1, p2⟩ := q k gd rfl hgd M ord Lo
    exact ⟨fun _ nd G E' => ⟨_, rfl, p2 nd fc it ch kt ot _ ks oa G (e0J.trans E') (hcF.te (.of E'))⟩, fun _ dp G E' => ⟨true, UD.hit, fun _ a na => ⟨(by show 1 ≤ sizeLine; decide), p1 dp G (e0J.trans E')⟩, fun z => nomatch z⟩, fun z => absurd hlen (by omega)⟩
end
end G
namespace G
open PySem PySem.Spec PyProof.Rows L2 Evl TL
/-! ## == of circuits but for the ranges, as data -/
def rTupOf (K : PySem.W.Frag) : List V → Hp → VK → Prop := fun xs H Q => ∃ p ys, xs = [.ref p] ∧ ((SqL K H p ys ∧ ∀ l, H l = none → Q (.ref l) (upd H l (.tup ys))) ∨ (SqT K H p ys ∧ Q (.ref p) H))
theorem kTupOf {X : Cx} {K : PySem.W.Frag} (h : X.K = K) : CallR X (.type "tuple") (rTupOf K) := by subst h; exact call_tuple_of
instance decIIB : DecidableEq (Int × Int × Bool) := inferInstance
instance decPIIB : DecidableEq ((Int × Int) × (Int × Int) × Int × Int × Bool) := inferInstance
instance decReg : DecidableEq (Str × Str × (Int × Int) × (Int × Int) × Int × Int × Bool) := inferInstance
instance decGate : DecidableEq (Str × List Bool × List Str) := inferInstance
theorem eqvAll_map {α β : Type} [DecidableEq β] {f : α → PyData} {g : α → β} (h : ∀ x y, PyData.eqv (f x) (f y) = decide (g x = g y)) : ∀ l m : List α, PyData.eqvAll (l.map f) (m.map f) = decide (l.map g = m.map g)
  | [], [] => by simp [PyData.eqvAll]
  | [], y :: m => by simp [PyData.eqvAll]
  | x :: l, [] => by simp [PyData.eqvAll]
  | x :: l, y :: m => by
    simp only [List.map_cons, PyData.eqvAll, h x y, eqvAll_map h l m, List.cons.injEq, Bool.decide_and]
def strsP (ns : List Str) : PyData := .tuple (ns.map .str)
def tabP (bs : List Bool) : PyData := .tuple (bs.map .bool)
def pairP (p : Int × Int) : PyData := .tuple [.int p.1, .int p.2]
def gateP (g : GateD) : PyData := .tuple [.str g.name, tabP g.tab, strsP g.pins]
def regP (r : RegD) : PyData := .tuple [.str r.name, .str r.net, pairP r.edge, pairP r.out, .int r.setup, .int r.hold, .bool r.start]
def outP (o : Str × Str) : PyData := .tuple [.str o.1, .str o.2]
def circP (d : CircD) : PyData := .tuple [strsP d.ins, .list (d.gates.map gateP), .tuple (d.regs.map regP), .tuple (d.outs.map outP)]
def gateS (g : GateD) : Str × List Bool × List Str := (g.name, g.tab, g.pins)
def regS (r : RegD) : Str × Str × (Int × Int) × (Int × Int) × Int × Int × Bool := (r.name, r.net, r.edge, r.out, r.setup, r.hold, r.start)
/-- all but the ranges -/
def stripD (d : CircD) : List Str × List (Str × List Bool × List Str) × List (Str × Str × (Int × Int) × (Int × Int) × Int × Int × Bool) × List (Str × Str) := (d.ins, d.gates.map gateS, d.regs.map regS, d.outs)
theorem eqv_strsP (a b : List Str) : PyData.eqv (strsP a) (strsP b) = decide (a = b) := by
  have := eqvAll_map (f := PyData.str) (g := fun x : Str => x) (fun x y => by simp only [PyData.eqv]; rw [Bool.eq_iff_iff]; simp) a b
  simp only [List.map_id'] at this
  simp only [strsP, PyData.eqv, this]
theorem eqv_tabP (a b : List Bool) : PyData.eqv (tabP a) (tabP b) = decide (a = b) := by
  have := eqvAll_map (f := PyData.bool) (g := fun x : Bool => x) (fun x y => by simp only [PyData.eqv]; cases x <;> cases y <;> rfl) a b
  simp only [List.map_id'] at this
  simp only [tabP, PyData.eqv, this]
theorem dec_beq {α : Type} [BEq α] [LawfulBEq α] [DecidableEq α] (a b : α) : (a == b) = decide (a = b) := by rw [Bool.eq_iff_iff]; simp
theorem eqv_pairP (a b : Int × Int) : PyData.eqv (pairP a) (pairP b) = decide (a = b) := by
  obtain ⟨a1, a2⟩ := a
  obtain ⟨b1, b2⟩ := b
  simp only [pairP, PyData.eqv, PyData.eqvAll, Bool.and_true, Prod.mk.injEq, Bool.decide_and, dec_beq]
theorem eqv_gateP (a b : GateD) : PyData.eqv (gateP a) (gateP b) = decide (gateS a = gateS b) := by
  have h1 := eqv_strsP a.pins b.pins
  have h2 := eqv_tabP a.tab b.tab
  simp only [gateP, gateS, PyData.eqv, PyData.eqvAll, Bool.and_true, Prod.mk.injEq, Bool.decide_and, dec_beq, h1, h2]
theorem eqv_regP (a b : RegD) : PyData.eqv (regP a) (regP b) = decide (regS a = regS b) := by
  have h1 := eqv_pairP a.edge b.edge
  have h2 := eqv_pairP a.out b.out
  simp only [regP, regS, PyData.eqv, PyData.eqvAll, Bool.and_true, Prod.mk.injEq, Bool.decide_and, dec_beq, h1, h2]
theorem eqv_outP (a b : Str × Str) : PyData.eqv (outP a) (outP b) = decide (a = b) := by
  obtain ⟨a1, a2⟩ := a
  obtain ⟨b1, b2⟩ := b
  simp only [outP, PyData.eqv, PyData.eqvAll, Bool.and_true, Prod.mk.injEq, Bool.decide_and, dec_beq]
theorem eqv_circP (d e : CircD) : PyData.eqv (circP d) (circP e) = decide (stripD d = stripD e) := by
  have h1 := eqv_strsP d.ins e.ins
  have h2 := eqvAll_map eqv_gateP d.gates e.gates
  have h3 := eqvAll_map eqv_regP d.regs e.regs
  have h4 := eqvAll_map (f := outP) (g := fun x => x) eqv_outP d.outs e.outs
  simp only [List.map_id'] at h4
  simp only [circP, stripD, PyData.eqv, PyData.eqvAll, Bool.and_true, Prod.mk.injEq, Bool.decide_and, h1, h2, h3, h4]
/-! ### its texts are texts -/
structure CircTx (d : CircD) : Prop where
  ins : ∀ x ∈ d.ins, PyData.strOk x = true
  gates : ∀ g ∈ d.gates, PyData.strOk g.name = true ∧ ∀ x ∈ g.pins, PyData.strOk x = true
  regs : ∀ r ∈ d.regs, PyData.strOk r.name = true ∧ PyData.strOk r.net = true
  outs : ∀ o ∈ d.outs, PyData.strOk o.1 = true ∧ PyData.strOk o.2 = true
theorem lay_map {α : Type} {f : α → PyData} {n : Nat} : ∀ {l : List α}, (∀ x ∈ l, (f x).canLay0 = true ∧ (f x).depth ≤ n) → PyData.canLayAll0 (l.map f) = true ∧ PyData.depthAll (l.map f) ≤ n
  | [], _ => ⟨rfl, Nat.zero_le _⟩
  | x :: r, h => by
    have ih := lay_map (l := r) fun y hy => h y (List.mem_cons_of_mem _ hy)
    have hx := h x (List.mem_cons_self ..)
    constructor
    · simp [PyData.canLayAll0, hx.1, ih.1]
    · simp only [List.map_cons, PyData.depthAll]; have := hx.2; have := ih.2; omega
theorem lay_strsP {ns : List Str} (h : ∀ x ∈ ns, PyData.strOk x = true) : (strsP ns).canLay0 = true ∧ (strsP ns).depth ≤ 1 := by
  have := lay_map (f := PyData.str) (n := 0) (l := ns) fun x hx => ⟨by simp [PyData.canLay0, h x hx], by simp [PyData.depth]⟩
  refine ⟨by simp only [strsP, PyData.canLay0, this.1], ?_⟩
  simp only [strsP, PyData.depth]; omega
theorem lay_tabP (bs : List Bool) : (tabP bs).canLay0 = true ∧ (tabP bs).depth ≤ 1 := by
  have := lay_map (f := PyData.bool) (n := 0) (l := bs) fun x hx => ⟨by simp [PyData.canLay0], by simp [PyData.depth]⟩
  refine ⟨by simp only [tabP, PyData.canLay0, this.1], ?_⟩
  simp only [tabP, PyData.depth]; omega
theorem shaped_circP {d : CircD} (h : CircTx d) : SeqAt.shaped (circP d) = true := by
  have h1 := lay_strsP h.ins
  have h2 := lay_map (f := gateP) (n := 2) (l := d.gates) fun g hg => by
    have a := lay_tabP g.tab
    have b := lay_strsP (h.gates g hg).2
    refine ⟨by simp [gateP, PyData.canLay0, PyData.canLayAll0, a.1, b.1, (h.gates g hg).1], ?_⟩
    simp only [gateP, PyData.depth, PyData.depthAll]; have := a.2; have := b.2; omega
  have h3 := lay_map (f := regP) (n := 2) (l := d.regs) fun r hr => by
    refine ⟨by simp [regP, pairP, PyData.canLay0, PyData.canLayAll0, (h.regs r hr).1, (h.regs r hr).2], ?_⟩
    simp [regP, pairP, PyData.depth, PyData.depthAll]
  have h4 := lay_map (f := outP) (n := 1) (l := d.outs) fun o ho => by
    refine ⟨by simp [outP, PyData.canLay0, PyData.canLayAll0, (h.outs o ho).1, (h.outs o ho).2], ?_⟩
    simp [outP, PyData.depth, PyData.depthAll]
  unfold SeqAt.shaped
  rw [Bool.and_eq_true]
  refine ⟨by simp [circP, PyData.canLay0, PyData.canLayAll0, h1.1, h2.1, h3.1, h4.1], decide_eq_true ?_⟩
  simp only [circP, PyData.depth, PyData.depthAll]
  have := h1.2; have := h2.2; have := h3.2; have := h4.2
  omega
theorem dpAll_all2 {K : PySem.W.Frag} {H : Hp} {R : Addr → β → Prop} {f : β → PyData} (h : ∀ a b, R a b → Dp K H (.ref a) (f b)) : ∀ {as : List Addr} {bs : List β}, All2 R as bs → DpAll K H (as.map V.ref) (bs.map f)
  | [], [], _ => .nil
  | a :: as, b :: bs, z => .cons (h a b (z.2 0 a b rfl rfl)) (dpAll_all2 h ⟨Nat.succ.inj z.1, fun i x y hx hy => z.2 (i + 1) x y hx hy⟩)
  | [], b :: bs, z => nomatch z.1
  | a :: as, [], z => nomatch z.1
theorem dp_strsT {K : PySem.W.Frag} {H : Hp} {a : Addr} {ns : List Str} (h : H a = some (.tup (ns.map V.str))) : Dp K H (.ref a) (strsP ns) := .tup (SqT.of h) (dpAll_map (fun i => .str i) ns)
theorem dp_tabT {K : PySem.W.Frag} {H : Hp} {a : Addr} {bs : List Bool} (h : H a = some (.tup (bs.map V.bl))) : Dp K H (.ref a) (tabP bs) := .tup (SqT.of h) (dpAll_map (fun i => .bl i) bs)
theorem dp_pairT {K : PySem.W.Frag} {H : Hp} {a : Addr} {p : Int × Int} (h : IntsAt H a p) : Dp K H (.ref a) (pairP p) := .tup (SqT.of h) (.cons (.int _) (.cons (.int _) .nil))
theorem dp_regT {K : PySem.W.Frag} {H : Hp} {a : Addr} {r : RegD} (h : RegAt H a r) : Dp K H (.ref a) (regP r) := by
  obtain ⟨ea, oa, h1, h2, h3⟩ := h
  exact .tup (SqT.of h1) (.cons (.str _) (.cons (.str _) (.cons (dp_pairT h2) (.cons (dp_pairT h3) (.cons (.int _) (.cons (.int _) (.cons (.bl _) .nil)))))))
theorem dp_outT {K : PySem.W.Frag} {H : Hp} {a : Addr} {o : Str × Str} (h : OutAt H a o) : Dp K H (.ref a) (outP o) := .tup (SqT.of h) (.cons (.str _) (.cons (.str _) .nil))
/-- a gate without its ranges, at a -/
def CutAt (H : Hp) (a : Addr) (g : GateD) : Prop := ∃ (t pt : Addr), H a = some (.tup [.str g.name, .ref t, .ref pt]) ∧ H t = some (.tup (g.tab.map V.bl)) ∧ H pt = some (.tup (g.pins.map V.str))
theorem dp_cutT {K : PySem.W.Frag} {H : Hp} {a : Addr} {g : GateD} (h : CutAt H a g) : Dp K H (.ref a) (gateP g) := by
  obtain ⟨t, pt, h1, h2, h3⟩ := h
  exact .tup (SqT.of h1) (.cons (.str _) (.cons (dp_tabT h2) (.cons (dp_strsT h3) .nil)))
theorem CutAt.ex {H H' : Hp} {a : Addr} {g : GateD} (e : Ex H H') (h : CutAt H a g) : CutAt H' a g := by
  obtain ⟨t, pt, h1, h2, h3⟩ := h
  exact ⟨t, pt, e _ _ h1, e _ _ h2, e _ _ h3⟩
end G
namespace G
open PySem PySem.Spec PyProof.Rows L2 Evl TL
/-! ## _law_moved -/
theorem kNotInD {X : Cx} {K : PySem.W.Frag} (h : X.K = K) (hu : X.A.units + 65 < cLine) : OpR X (compareOp .NotIn) (rNotInD K) := by subst h; exact op_notInD hu
theorem u65 {k : Nat} {A : Around} (r : Room k A) : A.units + 65 < cLine := by have := r.un; omega
theorem eqv_nilT (l : List PyData) : PyData.eqv (.tuple l) (.tuple []) = l.isEmpty := by cases l <;> rfl
theorem shaped_nilT : SeqAt.shaped (.tuple []) = true := by decide +kernel
theorem shaped_strsP {ns : List Str} (h : ∀ x ∈ ns, PyData.strOk x = true) : SeqAt.shaped (strsP ns) = true := by
  have h1 := lay_strsP h
  unfold SeqAt.shaped
  rw [Bool.and_eq_true]
  exact ⟨h1.1, decide_eq_true (by have := h1.2; omega)⟩
theorem shaped_strsL {ns : List Str} (h : ∀ x ∈ ns, PyData.strOk x = true) : SeqAt.shaped (.list (ns.map .str)) = true := by
  have h1 := lay_map (f := PyData.str) (n := 0) (l := ns) fun x hx => ⟨by simp [PyData.canLay0, h x hx], by simp [PyData.depth]⟩
  unfold SeqAt.shaped
  rw [Bool.and_eq_true]
  refine ⟨by simp only [PyData.canLay0, h1.1], decide_eq_true ?_⟩
  simp only [PyData.depth]
  have := h1.2
  omega
def RegTx (r : RegD) : Prop := PyData.strOk r.name = true ∧ PyData.strOk r.net = true
theorem lay_regP {r : RegD} (h : RegTx r) : (regP r).canLay0 = true ∧ (regP r).depth ≤ 2 := by
  refine ⟨by simp [regP, pairP, PyData.canLay0, PyData.canLayAll0, h.1, h.2], ?_⟩
  simp [regP, pairP, PyData.depth, PyData.depthAll]
theorem shaped_regP {r : RegD} (h : RegTx r) : SeqAt.shaped (regP r) = true := by
  have h1 := lay_regP h
  unfold SeqAt.shaped
  rw [Bool.and_eq_true]
  exact ⟨h1.1, decide_eq_true (by have := h1.2; omega)⟩
theorem shaped_regsL {rs : List RegD} (h : ∀ r ∈ rs, RegTx r) : SeqAt.shaped (.list (rs.map regP)) = true := by
  have h1 := lay_map (f := regP) (n := 2) (l := rs) fun x hx => lay_regP (h x hx)
  unfold SeqAt.shaped
  rw [Bool.and_eq_true]
  refine ⟨by simp only [PyData.canLay0, h1.1], decide_eq_true ?_⟩
  simp only [PyData.depth]
  have := h1.2
  omega
theorem dp_regsL {K : PySem.W.Frag} {H : Hp} {a : Addr} {as : List Addr} {rs : List RegD} (h : H a = some (.lst (as.map V.ref))) (z : All2 (RegAt H) as rs) : Dp K H (.ref a) (.list (rs.map regP)) := .lst (SqL.of h) (dpAll_all2 (fun _ _ q => dp_regT q) z)
theorem dp_strsL {K : PySem.W.Frag} {H : Hp} {a : Addr} {ns : List Str} (h : H a = some (.lst (ns.map V.str))) : Dp K H (.ref a) (.list (ns.map .str)) := .lst (SqL.of h) (dpAll_map (fun i => .str i) ns)
/-- its names are texts -/
def TxN (d : CircD) : Prop := ∀ x ∈ namesD d, PyData.strOk x = true
theorem any_regs {rs : List RegD} {r : RegD} : ((rs.map regP).any fun z => PyData.eqv z (regP r)) = true ↔ ∃ q ∈ rs, regS q = regS r := by
  rw [List.any_map, List.any_eq_true]
  constructor
  · rintro ⟨q, h1, h2⟩
    have h3 : PyData.eqv (regP q) (regP r) = true := h2
    rw [eqv_regP] at h3
    exact ⟨q, h1, of_decide_eq_true h3⟩
  · rintro ⟨q, h1, h2⟩
    exact ⟨q, h1, by show PyData.eqv (regP q) (regP r) = true; rw [eqv_regP]; exact decide_eq_true h2⟩
section
variable {P : Program} {w : World} {K : PySem.W.Frag} {mg : Str → Option Value} {base : Heap}
def spLMoved : Sp := fun vs H Q _ => ∃ (c : Addr) (k : Nat) (d : CircD) (gd : GateD) (it gt rt ot : Addr) (ga ra oa : List Addr), vs = [.ref c, .int (k : Int)] ∧ CircAt H c d it gt rt ot ga ra oa ∧ Sound d ∧ FewE d ∧ TxN d ∧ d.gates[k]? = some gd ∧ PyData.strOk (dN gd.name) = true ∧
  (¬ Mv d gd → ∀ H', Ex H H' → Q .non H') ∧ (Mv d gd → ∀ (c' it gt rt ot : Addr) (ga ra oa : List Addr) (H' : Hp), Ex H H' → CircAt H' c' (movD d k gd) it gt rt ot ga ra oa → Q (.ref c') H')
theorem sc_law_moved : FnScope ["circuit", "g", "gate", "rows", "row", "other", "names", "read", "at", "k", "gates", "regs", "used", "left", "net", "pair"] ["circuit", "g"] (defScope s_law_moved) := ⟨rfl, rfl, rfl, by decide +kernel, rfl, by decide +kernel, by decide +kernel⟩
theorem ok_law_moved (D : Dfd K mg "_law_moved" s_law_moved ["circuit", "g"]) (T : TxtS mg) : Has P w K mg base 1 "_law_moved" ["circuit", "g"] spLMoved := by
  refine D.has fun f fd F => F.ok sc_law_moved (fun vs H Q E h => ?_) (fun cdv A outer s H vs Q E hr h => ?_)
  · obtain ⟨c, k, d, gd, it, gt, rt, ot, ga, ra, oa, rfl, _⟩ := h
    rfl
  · obtain ⟨c, k, d, gd, it, gt, rt, ot, ga, ra, oa, rfl, hc, S, Fw, hTx, hgd, hdtx, q0, q1⟩ := h
    refine ⟨_, (pss_cons (ps_set (i := 2) sc_law_moved.nd rfl (.inl rfl) (pe_ix ix_tup (pe_ix ix_tup (pv 0) pe_int (fun _ _ => rfl)) (pv 1) (fun _ _ => rfl)))
    (pss_cons (ps_set (i := 3) sc_law_moved.nd rfl (.inr rfl) pe_dnewK)
    (pss_cons (ps_for PassesOwn.never rfl (pi_tup (pe_ix ix_tup (pv 0) pe_int (fun _ _ => rfl))) (pg_name (i := 4) sc_law_moved.nd rfl (.inl rfl))
      (pss_one (ps_asg (pv 4) (pg_sub (pv 3) (pe_ix ix_tup (pv 4) pe_int (fun _ _ => rfl)) (set_dict (hu_of hr))))))
    (pss_cons (ps_set (i := 6) sc_law_moved.nd rfl (.inl rfl) (pe_op op_cat (pe_op op_cat (pe_callTy call_list_of (by rfl) T.list (by decide +kernel) (pa_cons (pe_ix ix_tup (pv 0) pe_int (fun _ _ => rfl)) pa_nil)) (pe_lc (own := [("row", 4)]) (g := gName 4) (tt := tYes) rfl sc_law_moved.nd (pi_tup (pe_ix ix_tup (pv 0) pe_int (fun _ _ => rfl))) (blkOk_by (N := ["circuit", "g", "gate", "rows", "row", "other", "names", "read", "at", "k", "gates", "regs", "used", "left", "net", "pair"]) (sc := defScope s_law_moved) (own := [("row", 4)]) (by decide +kernel)) (fun _ _ _ _ _ => (pg_name (i := 4) sc_law_moved.nd rfl (.inl rfl))) (fun _ _ _ _ _ => pts_nil) (fun _ _ _ _ _ => (pe_ix (kIxT (K := K) rfl) (pv 4) pe_int (fun _ _ => rfl))))) (pe_lc (own := [("other", 5)]) (g := gName 5) (tt := tYes) rfl sc_law_moved.nd (pi_tup (pe_ix ix_tup (pv 0) pe_int (fun _ _ => rfl))) (blkOk_by (N := ["circuit", "g", "gate", "rows", "row", "other", "names", "read", "at", "k", "gates", "regs", "used", "left", "net", "pair"]) (sc := defScope s_law_moved) (own := [("other", 5)]) (by decide +kernel)) (fun _ _ _ _ _ => (pg_name (i := 5) sc_law_moved.nd rfl (.inl rfl))) (fun _ _ _ _ _ => pts_nil) (fun _ _ _ _ _ => (pe_ix (kIxT (K := K) rfl) (pv 5) pe_int (fun _ _ => rfl))))))
    (pss_cut (ps_if (PW.pt (pw_or (pt_cmpR (op_eqD hr.units) (pe_ix ix_tup (pv 2) pe_int (fun _ _ => rfl)) (pe_tup pa_nil) (nomark _)) (pw_or (pt_cmpR (op_neD hr.units) (pe_lc (own := [("net", 14)]) (g := gName 14) (tt := _) rfl sc_law_moved.nd (pi_tup (pe_ix ix_tup (pv 2) pe_int (fun _ _ => rfl))) (blkOk_by (N := ["circuit", "g", "gate", "rows", "row", "other", "names", "read", "at", "k", "gates", "regs", "used", "left", "net", "pair"]) (sc := defScope s_law_moved) (own := [("net", 14)]) (by decide +kernel)) (fun _ _ _ _ _ => (pg_name (i := 14) sc_law_moved.nd rfl (.inl rfl))) (fun _ _ _ _ _ => pts_one (pt_cmp (pc_dnotin (hu_of hr) (pv 14) (pv 3)))) (fun _ _ _ _ _ => (pv 14))) (pe_lst pa_nil) (nomark _)) (pw_or1 (pt_cmpR op_in_seq (pe_op op_add_str (pe_ix ix_tup (pv 2) pe_int (fun _ _ => rfl)) pe_str) (pv 6) (by rfl))))))
      (pss_one (ps_ret pe_non))
      pss_nil)
    (pss_cons (ps_set (i := 7) sc_law_moved.nd rfl (.inr rfl) (pe_lc (own := [("net", 14)]) (g := gName 14) (tt := tYes) rfl sc_law_moved.nd (pi_tup (pe_ix ix_tup (pv 2) pe_int (fun _ _ => rfl))) (blkOk_by (N := ["circuit", "g", "gate", "rows", "row", "other", "names", "read", "at", "k", "gates", "regs", "used", "left", "net", "pair"]) (sc := defScope s_law_moved) (own := [("net", 14)]) (by decide +kernel)) (fun _ _ _ _ _ => (pg_name (i := 14) sc_law_moved.nd rfl (.inl rfl))) (fun _ _ _ _ _ => pts_nil) (fun _ _ _ _ _ => (pe_dget (hu_of hr) (pv 3) (pv 14) (fun _ _ => rfl)))))
    (pss_cons (ps_if (pt_cmpR (op_neD hr.units) (pe_lc (own := [("row", 4)]) (g := gName 4) (tt := _) rfl sc_law_moved.nd (pi_list (pv 7)) (blkOk_by (N := ["circuit", "g", "gate", "rows", "row", "other", "names", "read", "at", "k", "gates", "regs", "used", "left", "net", "pair"]) (sc := defScope s_law_moved) (own := [("row", 4)]) (by decide +kernel)) (fun _ _ _ _ _ => (pg_name (i := 4) sc_law_moved.nd rfl (.inl rfl))) (fun _ _ _ _ _ => pts_one (pt_cmpR (kNeD (K := K) rfl hr.units) (pe_slice (kSlA (K := K) rfl) (pv 4) (po_some pe_int) (po_some pe_int)) (pe_slice (kSlA (K := K) rfl) (pe_ix (kIxL (K := K) rfl) (pv 7) pe_int (fun _ _ => rfl)) (po_some pe_int) (po_some pe_int)) (nomark _))) (fun _ _ _ _ _ => (pv 4))) (pe_lst pa_nil) (nomark _))
      (pss_one (ps_ret pe_non))
      pss_nil)
    (pss_cons (ps_set (i := 8) sc_law_moved.nd rfl (.inl rfl) pe_int)
    (pss_cons (ps_for PassesOwn.never rfl (pi_range1 rfl T.range (pa_cons (pe_callB call_len_seq (by rfl) T.len (by decide +kernel) (pa_cons (pv 7) pa_nil)) pa_nil)) (pg_name (i := 9) sc_law_moved.nd rfl (.inl rfl))
      (pss_one (ps_set (i := 8) sc_law_moved.nd rfl (.inl rfl) (pe_op op_add (pv 8) (pe_op op_mul (pe_ix ix_list (pe_lst (pa_cons pe_int (pa_cons pe_int (pa_cons pe_int (pa_cons pe_int (pa_cons pe_int (pa_cons pe_int pa_nil))))))) (pv 9) (fun _ _ => rfl)) (pe_callTy call_int1 (by rfl) T.int (by decide +kernel) (pa_cons (pe_ix ix_tup (pe_ix ix_list (pv 7) (pv 9) (fun _ _ => rfl)) pe_int (fun _ _ => rfl)) pa_nil)))))))
    (pss_cons (ps_set (i := 10) sc_law_moved.nd rfl (.inl rfl) (pe_callTy call_list_of (by rfl) T.list (by decide +kernel) (pa_cons (pe_ix ix_tup (pv 0) pe_int (fun _ _ => rfl)) pa_nil)))
    (pss_cons (ps_asg (pe_tup (pa_cons (pe_op op_add_str (pe_ix ix_tup (pv 2) pe_int (fun _ _ => rfl)) pe_str) (pa_cons (pe_ix ix_tup (pv 2) pe_int (fun _ _ => rfl)) (pa_cons (pe_callTy call_tuple_of (by rfl) T.tuple (by decide +kernel) (pa_cons (pe_lc (own := [("row", 4)]) (g := gName 4) (tt := tYes) rfl sc_law_moved.nd (pi_list (pv 7)) (blkOk_by (N := ["circuit", "g", "gate", "rows", "row", "other", "names", "read", "at", "k", "gates", "regs", "used", "left", "net", "pair"]) (sc := defScope s_law_moved) (own := [("row", 4)]) (by decide +kernel)) (fun _ _ _ _ _ => (pg_name (i := 4) sc_law_moved.nd rfl (.inl rfl))) (fun _ _ _ _ _ => pts_nil) (fun _ _ _ _ _ => (pe_ix (kIxT (K := K) rfl) (pv 4) pe_int (fun _ _ => rfl)))) pa_nil)) (pa_cons (pe_ix ix_tup (pv 2) pe_int (fun _ _ => rfl)) pa_nil))))) (pg_sub (pv 10) (pv 1) set_list))
    (pss_cons (ps_set (i := 11) sc_law_moved.nd rfl (.inl rfl) (pe_op op_cat (pe_callTy call_list_of (by rfl) T.list (by decide +kernel) (pa_cons (pe_ix ix_tup (pv 0) pe_int (fun _ _ => rfl)) pa_nil)) (pe_lst (pa_cons (pe_op op_catA (pe_op op_catA (pe_tup (pa_cons (pe_ix ix_tup (pv 2) pe_int (fun _ _ => rfl)) (pa_cons (pe_op op_add_str (pe_ix ix_tup (pv 2) pe_int (fun _ _ => rfl)) pe_str) pa_nil))) (pe_slice sl_tupA (pe_ix ix_list (pv 7) pe_int (fun _ _ => rfl)) (po_some pe_int) (po_some pe_int))) (pe_tup (pa_cons (pe_ix ix_tup (pe_ix ix_tup (pv 2) pe_int (fun _ _ => rfl)) (pv 8) (fun _ _ => rfl)) pa_nil))) pa_nil))))
    (pss_cons (ps_set (i := 12) sc_law_moved.nd rfl (.inr rfl) (pe_op op_cat (pe_lc (own := [("pair", 15)]) (g := gName 15) (tt := tYes) rfl sc_law_moved.nd (pi_tup (pe_ix ix_tup (pv 0) pe_int (fun _ _ => rfl))) (blkOk_by (N := ["circuit", "g", "gate", "rows", "row", "other", "names", "read", "at", "k", "gates", "regs", "used", "left", "net", "pair"]) (sc := defScope s_law_moved) (own := [("pair", 15)]) (by decide +kernel)) (fun _ _ _ _ _ => (pg_name (i := 15) sc_law_moved.nd rfl (.inl rfl))) (fun _ _ _ _ _ => pts_nil) (fun _ _ _ _ _ => (pe_ix (kIxT (K := K) rfl) (pv 15) pe_int (fun _ _ => rfl)))) (pe_lc (own := [("row", 4)]) (g := gName 4) (tt := tYes) rfl sc_law_moved.nd (pi_list (pv 11)) (blkOk_by (N := ["circuit", "g", "gate", "rows", "row", "other", "names", "read", "at", "k", "gates", "regs", "used", "left", "net", "pair"]) (sc := defScope s_law_moved) (own := [("row", 4)]) (by decide +kernel)) (fun _ _ _ _ _ => (pg_name (i := 4) sc_law_moved.nd rfl (.inl rfl))) (fun _ _ _ _ _ => pts_nil) (fun _ _ _ _ _ => (pe_ix (kIxT (K := K) rfl) (pv 4) pe_int (fun _ _ => rfl))))))
    (pss_cons (ps_for PassesOwn.never rfl (pi_list (pv 10)) (pg_name (i := 5) sc_law_moved.nd rfl (.inl rfl))
      (pss_one (ps_set (i := 12) sc_law_moved.nd rfl (.inr rfl) (pe_op op_cat (pv 12) (pe_callTy call_list_of (by rfl) T.list (by decide +kernel) (pa_cons (pe_ix ix_tup (pv 5) pe_int (fun _ _ => rfl)) pa_nil))))))
    (pss_cons (ps_setLc (i := 13) (own := [("row", 4)]) (g := gName 4) (tt := _) rfl sc_law_moved.nd rfl rfl (sw_true rfl rfl rfl (by decide +kernel)) (pi_list (pv 11)) (blkOk_by (N := ["circuit", "g", "gate", "rows", "row", "other", "names", "read", "at", "k", "gates", "regs", "used", "left", "net", "pair"]) (sc := defScope s_law_moved) (own := [("row", 4)]) (by decide +kernel)) (fun _ _ _ _ _ => (pg_name (i := 4) sc_law_moved.nd rfl (.inl rfl))) (fun _ _ _ _ _ => pts_one (PW.pt (pw_or (pt_cmpR (kIn (K := K) rfl) (pe_ix (kIxT (K := K) rfl) (pv 4) pe_int (fun _ _ => rfl)) (pv 12) (by rfl)) (pw_or1 (pt_cmpR (kNotInD (K := K) rfl (u65 hr)) (pv 4) (pv 7) (by rfl)))))) (fun _ _ _ _ _ => (pv 4)))
    (pss_one (ps_ret (pe_tup (pa_cons (pe_ix ix_tup (pv 0) pe_int (fun _ _ => rfl)) (pa_cons (pe_callTy call_tuple_of (by rfl) T.tuple (by decide +kernel) (pa_cons (pv 10) pa_nil)) (pa_cons (pe_callTy call_tuple_of (by rfl) T.tuple (by decide +kernel) (pa_cons (pv 13) pa_nil)) (pa_cons (pe_ix ix_tup (pv 0) pe_int (fun _ _ => rfl)) pa_nil)))))))))))))))))))))), ?_⟩
    obtain ⟨ndi, ndg, ndr, hgr⟩ := nd_parts S
    have hrs := Fw.rs
    have hgs := Fw.gs
    have hgm := List.mem_of_getElem? hgd
    have hcnt := S.cnt gd hgm
    have hk : k < d.gates.length := (List.getElem?_eq_some_iff.mp hgd).1
    have hga : k < ga.length := by rw [hc.gates.1]; exact hk
    have hgr2 : (ga.map V.ref)[k]? = some (.ref ga[k]) := by rw [List.getElem?_map, List.getElem?_eq_getElem hga]; rfl
    have hgat := hc.gates.2 k ga[k] gd (List.getElem?_eq_getElem hga) hgd
    generalize hb0 : ga[k] = gb at hgr2 hgat
    obtain ⟨tt, pt, rgt, rga, a1, a2, a3, a4, a5⟩ := id hgat
    refine ⟨_, rfl, _, _, _, _, rfl, rfl, SqT.of hc.top, atI_nat (j := 1) rfl, _, rfl, _, _, _, _, rfl, rfl, SqT.of hc.gts, atI_nat hgr2, ?_⟩
    intro Db nDb
    refine ⟨_, rfl, _, _, _, _, rfl, rfl, SqT.of (Ex.new nDb _ _ hc.top), atI_nat (j := 2) rfl, rt, rfl, ⟨_, SqT.of (Ex.new nDb _ _ hc.rgs)⟩, for_tup (K := K) (a := rt) (xs := ra.map V.ref)
      (fun i σ G => Ex H G ∧ ∃ (es : List (L2.Key × V)) (y4 : Option V), G Db = some (.dK es) ∧ es.length ≤ i ∧ RegsK H es (d.regs.take i) ∧ σ = [some (.ref c), some (.int (k : Nat)), some (.ref gb), some (.ref Db), y4, none, none, none, none, none, none, none, none, none, none, none])
      ⟨Ex.new nDb, [], _, upd_same, Nat.le_refl _, fun x => by rw [List.take_zero]; rfl, rfl⟩ (fun i σ G _ z => SqT.of (z.1 _ _ hc.rgs)) ?_ ?_⟩
    · rintro j y σ H1 hy ⟨E1, es, y4, hD, hel, hK, rfl⟩
      obtain ⟨b, hb, rfl⟩ := refs_get hy
      obtain ⟨r, hr', hreg⟩ := hc.regs.at_ hb
      obtain ⟨ea, ob, b1, b2, b3⟩ := id hreg
      have hj : j < d.regs.length := (List.getElem?_eq_some_iff.mp hr').1
      refine ⟨_, rfl, _, rfl, _, rfl, _, _, _, _, rfl, rfl, SqT.of (E1 _ _ b1), atI_nat (j := 0) rfl, Db, _, rfl, DPut.k (k := Sum.inr r.name) hD (sz_lt (by omega)), E1.mut nDb, _, _, upd_same, ?_, ?_, rfl⟩
      · have := length_putK es (Sum.inr r.name) (.ref b); omega
      · rw [take_snoc1 hr']
        refine hK.put (fun q hq z => ?_) hreg
        have hn : (d.regs.map (·.name))[j]? = some r.name := by rw [List.getElem?_map, hr']; rfl
        refine nd_takeM ndr hn ?_
        rw [← List.map_take]
        exact List.mem_map.mpr ⟨q, hq, z⟩
    rintro σ H1 ⟨E1, es, y4, hD, hel, hK, rfl⟩
    rw [List.length_map, hc.regs.1, List.take_length] at hK
    have hc1 := hc.te (.of E1)
    have hgnl : (gnames d).length = d.gates.length := List.length_map _
    have hrnl : (d.regs.map (·.name)).length = d.regs.length := List.length_map _
    have hnm := Fw.nm
    have hnm2 : d.ins.length + d.gates.length + d.regs.length ≤ 900 := by
      unfold namesD at hnm
      rw [List.length_append, List.length_append, List.length_map, List.length_map] at hnm
      omega
    -- names
    refine ⟨_, rfl, _, _, _, _, rfl, rfl, SqT.of hc1.top, atI_nat (j := 0) rfl, _, _, rfl, .inr (SqT.of hc1.ins), fun l1 n1 => ?_⟩
    have E2 : Ex H1 (upd H1 l1 (.lst (d.ins.map V.str))) := Ex.new n1
    have h1 : upd H1 l1 (.lst (d.ins.map V.str)) l1 = some (.lst (d.ins.map V.str)) := upd_same
    generalize upd H1 l1 (.lst (d.ins.map V.str)) = H2 at *
    have hc2 := hc1.te (.of E2)
    refine ⟨_, rfl, _, _, _, _, rfl, rfl, SqT.of hc2.top, atI_nat (j := 2) rfl, rt, rfl, ⟨_, SqT.of hc2.rgs⟩, fun L2 nL2 => wk_tup (K := K) (a := rt) (xs := ra.map V.ref) (fun j G => Ex H2 G ∧ G L2 = some (.lst (((d.regs.map (·.name)).take j).map V.str))) ⟨Ex.new nL2, by rw [upd_same]; rfl⟩ (fun j G _ z => SqT.of (z.1 _ _ hc2.rgs)) ?_ ?_⟩
    · rintro j x G hx ⟨EG, hL⟩
      obtain ⟨b, hb, rfl⟩ := refs_get hx
      obtain ⟨r, hr', ea, oa', hgt, _⟩ := hc2.regs.at_ hb
      have hj : j < d.regs.length := (List.getElem?_eq_some_iff.mp hr').1
      refine ⟨(by rw [wipe_set (by decide), wipe_wipe]), tYes_in ?_⟩
      simp only [wipe, _root_.L2.start, List.map_cons, List.map_nil, List.length_cons, List.length_nil, Nat.reduceAdd, Nat.reduceSub, List.replicate_succ, List.replicate_zero, List.cons_append, List.nil_append, List.set_cons_zero, List.set_cons_succ]
      refine ⟨_, rfl, _, _, _, _, rfl, rfl, SqT.of (EG _ _ hgt), atI_nat (j := 0) rfl, _, hL, sz_lt (by rw [List.length_map, List.length_take]; omega), EG.mut nL2, ?_⟩
      rw [upd_same, List.take_add_one, List.getElem?_map, hr', List.map_append]; rfl
    rintro H3 ⟨E3, hL2⟩
    rw [List.length_map, hc2.regs.1, ← hrnl, List.take_length] at hL2
    simp only [wipe, _root_.L2.start, List.map_cons, List.map_nil, List.length_cons, List.length_nil, Nat.reduceAdd, Nat.reduceSub, List.replicate_succ, List.replicate_zero, List.cons_append, List.nil_append, List.set_cons_zero, List.set_cons_succ]
    refine ⟨l1, L2, _, _, rfl, rfl, E3 _ _ h1, hL2, sz_of (by rw [List.length_map, List.length_map, List.length_map]; omega), fun l3 n3 => ?_⟩
    rw [← List.map_append]
    have E4 : Ex H3 (upd H3 l3 (.lst ((d.ins ++ d.regs.map (·.name)).map V.str))) := Ex.new n3
    have h3 : upd H3 l3 (.lst ((d.ins ++ d.regs.map (·.name)).map V.str)) l3 = some (.lst ((srcs d).map V.str)) := upd_same
    generalize upd H3 l3 (.lst ((d.ins ++ d.regs.map (·.name)).map V.str)) = H4 at *
    have hc4 := hc2.te (.of (E3.trans E4))
    have hsl : (srcs d).length = d.ins.length + d.regs.length := by unfold srcs; rw [List.length_append, List.length_map]
    refine ⟨_, rfl, _, _, _, _, rfl, rfl, SqT.of hc4.top, atI_nat (j := 1) rfl, gt, rfl, ⟨_, SqT.of hc4.gts⟩, fun L5 nL5 => wk_tup (K := K) (a := gt) (xs := ga.map V.ref) (fun j G => Ex H4 G ∧ G L5 = some (.lst (((gnames d).take j).map V.str))) ⟨Ex.new nL5, by rw [upd_same]; rfl⟩ (fun j G _ z => SqT.of (z.1 _ _ hc4.gts)) ?_ ?_⟩
    · rintro j x G hx ⟨EG, hL⟩
      obtain ⟨b, hb, rfl⟩ := refs_get hx
      obtain ⟨g', hg', t', pt', rgt', rga', b1, b2, b3, b4, b5⟩ := hc4.gates.at_ hb
      have hj : j < d.gates.length := (List.getElem?_eq_some_iff.mp hg').1
      have hgn : (gnames d)[j]? = some g'.name := by unfold gnames; rw [List.getElem?_map, hg']; rfl
      refine ⟨(by rw [wipe_set (by decide), wipe_wipe]), tYes_in ?_⟩
      simp only [wipe, _root_.L2.start, List.map_cons, List.map_nil, List.length_cons, List.length_nil, Nat.reduceAdd, Nat.reduceSub, List.replicate_succ, List.replicate_zero, List.cons_append, List.nil_append, List.set_cons_zero, List.set_cons_succ]
      refine ⟨_, rfl, _, _, _, _, rfl, rfl, SqT.of (EG _ _ b1), atI_nat (j := 0) rfl, _, hL, sz_lt (by rw [List.length_map, List.length_take]; omega), EG.mut nL5, ?_⟩
      rw [upd_same, take_snoc1 hgn, List.map_append]; rfl
    rintro H5 ⟨E5, hL5⟩
    rw [List.length_map, hc4.gates.1, ← hgnl, List.take_length] at hL5
    refine ⟨l3, L5, _, _, rfl, rfl, E5 _ _ h3, hL5, sz_of (by rw [List.length_map, List.length_map]; omega), fun l6 n6 => ?_⟩
    rw [← List.map_append]
    have E6 : Ex H5 (upd H5 l6 (.lst ((srcs d ++ gnames d).map V.str))) := Ex.new n6
    have h6 : upd H5 l6 (.lst ((srcs d ++ gnames d).map V.str)) l6 = some (.lst ((srcs d ++ gnames d).map V.str)) := upd_same
    generalize upd H5 l6 (.lst ((srcs d ++ gnames d).map V.str)) = H6 at *
    have e16 := E2.trans (E3.trans (E4.trans (E5.trans E6)))
    have e06 := E1.trans e16
    have hc6 := hc.te (.of e06)
    have hD6 := e16 _ _ hD
    have hnms : ∀ x, x ∈ srcs d ++ gnames d ↔ x ∈ namesD d := fun x => (names_perm d).mem_iff.symm
    have hptx : ∀ x ∈ gd.pins, PyData.strOk x = true := fun x hx => hTx x (S.net x (List.mem_append_left _ (List.mem_append_left _ (List.mem_flatMap.mpr ⟨gd, hgm, hx⟩))))
    have hpl := hcnt.1
    have hnl : gd.name.length ≤ 900 := Fw.tx _ (List.mem_append_left _ (List.mem_append_right _ (List.mem_map.mpr ⟨gd, hgm, rfl⟩)))
    have hrF : ∀ p, (valV es (.inr p)).isSome = (regF d p).isSome := fun p => by
      have h := hK p
      have hrp : d.regs.find? (fun r => decide (r.name = p)) = regF d p := rfl
      rw [hrp] at h
      cases hf : regF d p with
      | none => rw [hf] at h; rw [h]; rfl
      | some r => rw [hf] at h; obtain ⟨a, h1, _⟩ := h; rw [h1]; rfl
    refine ⟨fun σ' G => Ex H6 G ∧ σ' = [some (.ref c), some (.int (k : Nat)), some (.ref gb), some (.ref Db), y4, none, some (.ref l6), none, none, none, none, none, none, none, none, none] ∧ gd.pins ≠ [] ∧ (∀ x ∈ gd.pins, (regF d x).isSome = true) ∧ dN gd.name ∉ namesD d, ?_, ?_⟩
    · refine ⟨_, rfl, _, _, _, _, rfl, rfl, SqT.of (e06 _ _ a1), atI_nat (j := 2) rfl, (by show 0 ≤ sizeLine; decide), fun t0 nt0 => ?_⟩
      have E7 := Ex.new (o := .tup []) nt0
      refine ⟨_, _, dp_strsT (E7 _ _ (e06 _ _ a3)), .tup (SqT.of (xs := []) upd_same) .nil, shaped_strsP hptx, shaped_nilT, _, rfl, ite2 (fun c1 => ?_) (fun c1 => ?_)⟩
      · refine iteT (q0 (fun M => M.ne ?_) _ (e06.trans E7))
        have c1' : PyData.eqv (.tuple (gd.pins.map .str)) (.tuple []) = true := c1
        rw [eqv_nilT] at c1'
        cases hp : gd.pins with
        | nil => rfl
        | cons x l => rw [hp] at c1'; cases c1'
      have hne : gd.pins ≠ [] := fun z => c1 (by rw [z]; rfl)
      have h67 := E7
      generalize upd H6 t0 (.tup []) = H7 at *
      have e07 := e06.trans h67
      refine ⟨_, rfl, _, _, _, _, rfl, rfl, SqT.of (e07 _ _ a1), atI_nat (j := 2) rfl, pt, rfl, ⟨_, SqT.of (e07 _ _ a3)⟩, fun L8 nL8 => wk_tup (K := K) (a := pt) (xs := gd.pins.map V.str)
        (fun j G => Ex H7 G ∧ G L8 = some (.lst (((gd.pins.take j).filter fun x => !(regF d x).isSome).map V.str))) ⟨Ex.new nL8, by rw [upd_same, List.take_zero]; rfl⟩ (fun j G _ z => SqT.of ((e07.trans z.1) _ _ a3)) ?_ ?_⟩
      · rintro j y G hy ⟨EG, hL⟩
        rw [List.getElem?_map] at hy
        obtain ⟨p, hp, rfl⟩ := Option.map_eq_some_iff.mp hy
        have hj : j < gd.pins.length := (List.getElem?_eq_some_iff.mp hp).1
        refine ⟨(by rw [wipe_set (by decide), wipe_wipe]), ?_⟩
        simp only [wipe, _root_.L2.start, List.map_cons, List.map_nil, List.length_cons, List.length_nil, Nat.reduceAdd, Nat.reduceSub, List.replicate_succ, List.replicate_zero, List.cons_append, List.nil_append, List.set_cons_zero, List.set_cons_succ]
        refine ⟨_, rfl, _, rfl, Db, _, rfl, DGet.k (k := Sum.inr p) (EG _ _ (h67 _ _ hD6)), _, rfl, ?_⟩
        rw [hrF p]
        cases hf : (regF d p).isSome with
        | true =>
          refine iteF ⟨EG, ?_⟩
          rw [hL, take_snoc1 hp, List.filter_append, List.filter_cons, hf]
          simp
        | false =>
          refine iteT ⟨_, rfl, _, hL, sz_lt (by rw [List.length_map]; have := List.length_filter_le (fun x => !(regF d x).isSome) (gd.pins.take j); rw [List.length_take] at this; omega), EG.mut nL8, ?_⟩
          rw [upd_same, take_snoc1 hp, List.filter_append, List.filter_cons, hf, List.map_append]
          rfl
      rintro H8 ⟨E8, hL8⟩
      rw [List.length_map, List.take_length] at hL8
      have e08 := e07.trans E8
      have hftx : ∀ x ∈ gd.pins.filter (fun x => !(regF d x).isSome), PyData.strOk x = true := fun x hx => hptx x (List.mem_filter.mp hx).1
      refine ⟨(by show 0 ≤ sizeLine; decide), fun t9 nt9 => ⟨_, _, dp_strsL (Ex.new nt9 _ _ hL8), dp_nil (SqL.of upd_same), shaped_strsL hftx, shaped_nil, _, rfl, ite2 (fun c2 => ?_) (fun c2 => ?_)⟩⟩
      · refine iteT (q0 (fun M => ?_) _ (e08.trans (Ex.new nt9)))
        rw [eqv_nil] at c2
        cases hp : gd.pins.filter (fun x => !(regF d x).isSome) with
        | nil => rw [hp] at c2; cases c2
        | cons x l =>
          have hx : x ∈ gd.pins.filter (fun x => !(regF d x).isSome) := by rw [hp]; exact List.mem_cons_self
          obtain ⟨hx1, hx2⟩ := List.mem_filter.mp hx
          obtain ⟨r, hr1, _⟩ := M.pin hx1
          rw [hr1] at hx2
          cases hx2
      have hall : ∀ x ∈ gd.pins, (regF d x).isSome = true := fun x hx => by
        refine Classical.byContradiction fun z => c2 ?_
        rw [eqv_nil]
        have hx2 : x ∈ gd.pins.filter (fun x => !(regF d x).isSome) := List.mem_filter.mpr ⟨hx, by rw [Bool.eq_false_iff.mpr z]; rfl⟩
        cases hp : gd.pins.filter (fun x => !(regF d x).isSome) with
        | nil => rw [hp] at hx2; cases hx2
        | cons x l => rfl
      have E9 := Ex.new (o := .lst []) nt9
      generalize upd H8 t9 (.lst []) = H9 at *
      have e5 : (if (false : Bool) = true then !inV (V.str (gd.name ++ "/d")) ((srcs d ++ gnames d).map V.str) else inV (V.str (gd.name ++ "/d")) ((srcs d ++ gnames d).map V.str)) = decide (dN gd.name ∈ srcs d ++ gnames d) := by rw [if_neg (by decide), inV_sM]; rfl
      have h2d : ("/d" : Str).length = 2 := rfl
      refine ⟨_, rfl, _, _, _, _, rfl, rfl, SqT.of ((e08.trans E9) _ _ a1), atI_nat (j := 0) rfl, _, _, rfl, rfl, sz_of (by omega), _, rfl, l6, _, rfl, .inl (SqL.of ((h67.trans (E8.trans E9)) _ _ h6)), rfl, flat_sM _, decide (dN gd.name ∈ srcs d ++ gnames d), congrArg V.bl e5, ite2 (fun c4 => ?_) (fun c4 => ?_)⟩
      · exact q0 (fun M => M.new ((hnms _).mp (of_decide_eq_true c4))) _ (e08.trans E9)
      · exact ⟨h67.trans (E8.trans E9), rfl, hne, hall, fun z => c4 (decide_eq_true ((hnms _).mpr z))⟩
    rintro σ' H7 ⟨E7, rfl, hne, hall, hnew⟩
    have e07 := e06.trans E7
    have hD7 := E7 _ _ hD6
    refine ⟨_, rfl, _, _, _, _, rfl, rfl, SqT.of (e07 _ _ a1), atI_nat (j := 2) rfl, pt, rfl, ⟨_, SqT.of (e07 _ _ a3)⟩, fun L nL => wk_tup (K := K) (a := pt) (xs := gd.pins.map V.str)
      (fun j G => Ex H7 G ∧ ∃ as : List Addr, G L = some (.lst (as.map V.ref)) ∧ as.length ≤ j ∧ All2 (RegAt H) as ((gd.pins.take j).filterMap (regF d))) ⟨Ex.new nL, [], upd_same, Nat.le_refl _, by rw [List.take_zero]; exact .nil⟩ (fun j G _ z => SqT.of ((e07.trans z.1) _ _ a3)) ?_ ?_⟩
    · rintro j y G hy ⟨EG, as, hL, hal, hA⟩
      rw [List.getElem?_map] at hy
      obtain ⟨p, hp, rfl⟩ := Option.map_eq_some_iff.mp hy
      have hj : j < gd.pins.length := (List.getElem?_eq_some_iff.mp hp).1
      refine ⟨(by rw [wipe_set (by decide), wipe_wipe]), tYes_in ?_⟩
      simp only [wipe, _root_.L2.start, List.map_cons, List.map_nil, List.length_cons, List.length_nil, Nat.reduceAdd, Nat.reduceSub, List.replicate_succ, List.replicate_zero, List.cons_append, List.nil_append, List.set_cons_zero, List.set_cons_succ]
      have hKp := hK p
      have hrp : d.regs.find? (fun r => decide (r.name = p)) = regF d p := rfl
      rw [hrp] at hKp
      have hsome := hall p (List.mem_of_getElem? hp)
      cases hf : regF d p with
      | none => rw [hf] at hsome; cases hsome
      | some r =>
        rw [hf] at hKp
        obtain ⟨ar, hv, har⟩ := hKp
        refine ⟨_, rfl, _, rfl, Db, _, rfl, .inl ⟨es, .inr p, .inl (EG _ _ hD7), rfl, hv.symm⟩, _, hL, sz_lt (by rw [List.length_map]; omega), EG.mut nL, as ++ [ar], by rw [upd_same, List.map_append]; rfl, by rw [List.length_append, List.length_singleton]; omega, ?_⟩
        rw [take_snoc1 hp, List.filterMap_append, List.filterMap_cons, hf]
        exact hA.snoc har
    rintro H8 ⟨E8, as, hL, hal, hA⟩
    rw [List.length_map] at hal
    rw [List.length_map, List.take_length] at hA
    have hA : All2 (RegAt H) as (readM d gd) := hA
    have hMall : (readM d gd).length = gd.pins.length := by
      have : ∀ l : List Str, (∀ x ∈ l, (regF d x).isSome = true) → (l.filterMap (regF d)).length = l.length := fun l => by
        induction l with
        | nil => exact fun _ => rfl
        | cons x l ih =>
          intro h
          rw [List.filterMap_cons]
          have h1 := h x List.mem_cons_self
          have h2 := ih fun y hy => h y (List.mem_cons_of_mem _ hy)
          cases hx : regF d x with
          | none => rw [hx] at h1; cases h1
          | some r => show (_ :: _).length = _; rw [List.length_cons, List.length_cons, h2]
      exact this _ hall
    simp only [wipe, _root_.L2.start, List.map_cons, List.map_nil, List.length_cons, List.length_nil, Nat.reduceAdd, Nat.reduceSub, List.replicate_succ, List.replicate_zero, List.cons_append, List.nil_append, List.set_cons_zero, List.set_cons_succ]
    have e08 := e07.trans E8
    have hA8 := hA.imp fun _ _ z => (show RegAt H8 _ _ from z.te (.of e08))
    obtain ⟨r0, rs0, hrs0⟩ : ∃ r0 rs0, readM d gd = r0 :: rs0 := by
      cases e : readM d gd with
      | nil => rw [e] at hMall; exact absurd (List.length_eq_zero_iff.mp hMall.symm) hne
      | cons r l => exact ⟨r, l, rfl⟩
    obtain ⟨a0, as0, has0⟩ : ∃ a0 as0, as = a0 :: as0 := by
      cases e : as with
      | nil => have := hA.1; rw [e, hrs0] at this; cases this
      | cons a l => exact ⟨a, l, rfl⟩
    have hr0 : RegAt H8 a0 r0 := hA8.2 0 a0 r0 (by rw [has0]; rfl) (by rw [hrs0]; rfl)
    have hhd : (readM d gd).headD noRg = r0 := by rw [hrs0]; rfl
    have hrtx : ∀ r ∈ readM d gd, RegTx r := fun r hr1 => by
      have h1 := (readM_mem hr1).1
      exact ⟨hTx _ (List.mem_append_right _ (List.mem_map.mpr ⟨r, h1, rfl⟩)), hTx _ (S.net _ (List.mem_append_left _ (List.mem_append_right _ (List.mem_map.mpr ⟨r, h1, rfl⟩))))⟩
    have hral : (readM d gd).length ≤ 6 := by omega
    refine ⟨_, rfl, L, rfl, ⟨_, SqL.of hL⟩, fun L2 nL2 => wk_list (K := K) (a := L) (xs := as.map V.ref)
      (fun j G => Ex H8 G ∧ ∃ bs : List Addr, G L2 = some (.lst (bs.map V.ref)) ∧ bs.length ≤ j ∧ All2 (RegAt H8) bs (((readM d gd).take j).filter fun r => !decide (tmsR r = tmsR r0))) ⟨Ex.new nL2, [], upd_same, Nat.le_refl _, by rw [List.take_zero]; exact .nil⟩ (fun j G _ z => SqL.of (z.1 _ _ hL)) ?_ ?_⟩
    · rintro j y G hy ⟨EG, bs, hL2, hbl, hB⟩
      obtain ⟨b, hb, rfl⟩ := refs_get hy
      obtain ⟨r, hr', hreg⟩ := hA8.at_ hb
      have hj : j < (readM d gd).length := (List.getElem?_eq_some_iff.mp hr').1
      refine ⟨(by rw [wipe_set (by decide), wipe_wipe]), ?_⟩
      simp only [wipe, _root_.L2.start, List.map_cons, List.map_nil, List.length_cons, List.length_nil, Nat.reduceAdd, Nat.reduceSub, List.replicate_succ, List.replicate_zero, List.cons_append, List.nil_append, List.set_cons_zero, List.set_cons_succ]
      refine ⟨_, rfl, 2, rfl, 6, rfl, cut_reg (hreg.te (.of EG)) fun c1 G1 e1 hc1 => ?_⟩
      refine ⟨_, rfl, _, _, _, _, rfl, rfl, SqL.of ((EG.trans e1) _ _ hL), atI_nat (j := 0) (by rw [has0]; rfl), 2, rfl, 6, rfl, cut_reg (hr0.te (.of (EG.trans e1))) fun c2 G2 e2 hc2 => ?_⟩
      refine ⟨_, _, (hc1.ex e2).dp, hc2.dp, shaped_tms _, shaped_tms _, _, rfl, ?_⟩
      rw [eqv_tms]
      have e12 := e1.trans e2
      cases ht : decide (tmsR r = tmsR r0) with
      | true =>
        refine iteF ⟨EG.trans e12, bs, e12 _ _ hL2, by omega, ?_⟩
        rw [take_snoc1 hr', List.filter_append, List.filter_cons, ht]
        simpa using hB
      | false =>
        refine iteT ⟨_, rfl, _, e12 _ _ hL2, sz_lt (by rw [List.length_map]; omega), (EG.trans e12).mut nL2, bs ++ [b], by rw [upd_same, List.map_append]; rfl, by rw [List.length_append, List.length_singleton]; omega, ?_⟩
        rw [take_snoc1 hr', List.filter_append, List.filter_cons, ht]
        exact hB.snoc hreg
    rintro H9 ⟨E9, bs, hL2, hbl, hB⟩
    rw [List.length_map, hA8.1, List.take_length] at hB
    simp only [wipe, _root_.L2.start, List.map_cons, List.map_nil, List.length_cons, List.length_nil, Nat.reduceAdd, Nat.reduceSub, List.replicate_succ, List.replicate_zero, List.cons_append, List.nil_append, List.set_cons_zero, List.set_cons_succ]
    have hftx2 : ∀ r ∈ (readM d gd).filter (fun r => !decide (tmsR r = tmsR r0)), RegTx r := fun r hx => hrtx r (List.mem_filter.mp hx).1
    have hB9 := hB.imp fun _ _ z => (show RegAt H9 _ _ from z.te (.of E9))
    refine ⟨(by show 0 ≤ sizeLine; decide), fun t9 nt9 => ⟨_, _, dp_regsL (Ex.new nt9 _ _ hL2) (hB9.imp fun _ _ z => z.te (.of (Ex.new nt9))), dp_nil (SqL.of upd_same), shaped_regsL hftx2, shaped_nil, _, rfl, ite2 (fun c2 => ?_) (fun c2 => ?_)⟩⟩
    · refine q0 (fun M => ?_) _ (e08.trans (E9.trans (Ex.new nt9)))
      rw [eqv_nil] at c2
      cases hp : (readM d gd).filter (fun r => !decide (tmsR r = tmsR r0)) with
      | nil => rw [hp] at c2; cases c2
      | cons r l =>
        have hx : r ∈ (readM d gd).filter (fun r => !decide (tmsR r = tmsR r0)) := by rw [hp]; exact List.mem_cons_self
        obtain ⟨hx1, hx2⟩ := List.mem_filter.mp hx
        have hx3 := M.tms r hx1
        rw [hhd] at hx3
        rw [decide_eq_true hx3] at hx2
        cases hx2
    have M : Mv d gd := by
      refine ⟨hne, hMall, fun r hr1 => ?_, hnew⟩
      rw [hhd]
      refine Classical.byContradiction fun z => c2 ?_
      rw [eqv_nil]
      have hx2 : r ∈ (readM d gd).filter (fun r => !decide (tmsR r = tmsR r0)) := List.mem_filter.mpr ⟨hr1, by rw [decide_eq_false z]; rfl⟩
      cases hp : (readM d gd).filter (fun r => !decide (tmsR r = tmsR r0)) with
      | nil => rw [hp] at hx2; cases hx2
      | cons x l => rfl
    have E10 := Ex.new (o := .lst []) nt9
    have hLA := (E9.trans E10) _ _ hL
    have hAA := hA8.imp fun _ _ z => (show RegAt (upd H9 t9 (.lst [])) _ _ from z.te (.of (E9.trans E10)))
    have e0A := e08.trans (E9.trans E10)
    generalize upd H9 t9 (.lst []) = HA at *
    have hqL : ∀ (c' it gt rt ot : Addr) (ga ra oa : List Addr) (H' : Hp), Ex H H' → CircAt H' c' (movD d k gd) it gt rt ot ga ra oa → Q (.ref c') H' := q1 M
    have hasl : (as.map V.ref).length = (readM d gd).length := by rw [List.length_map, hA.1]
    refine ⟨_, rfl, _, _, rfl, .inl (SqL.of hLA), _, rfl, by omega, by rw [hasl]; omega, for_range (n := (((as.map V.ref).length : Nat) : Int).toNat)
      (fun i σ G => Ex HA G ∧ ∃ y9 : Option V, σ = [some (.ref c), some (.int (k : Nat)), some (.ref gb), some (.ref Db), y4, none, some (.ref l6), some (.ref L), some (.int ((sumB ((readM d gd).map (·.start)) i : Nat) : Int)), y9, none, none, none, none, none, none]) ⟨.refl _, _, rfl⟩ ?_ ?_⟩
    · rintro j σ G hj ⟨EG, y9, rfl⟩
      rw [Int.toNat_natCast, hasl] at hj
      rw [Int.zero_add]
      have hja : j < as.length := by rw [hA.1]; exact hj
      obtain ⟨r, hr'⟩ : ∃ r, (readM d gd)[j]? = some r := ⟨_, List.getElem?_eq_getElem hj⟩
      obtain ⟨ea, ob, b1, b2, b3⟩ := hAA.2 j as[j] r (List.getElem?_eq_getElem hja) hr'
      have hjr : (as.map V.ref)[j]? = some (.ref as[j]) := by rw [List.getElem?_map, List.getElem?_eq_getElem hja]; rfl
      refine ⟨_, rfl, (by show 6 ≤ sizeLine; decide), fun m nm => ?_⟩
      have E8 : Ex G (upd G m (.lst [.int 1, .int 2, .int 4, .int 8, .int 16, .int 32])) := Ex.new nm
      have hm8 : upd G m (.lst [.int 1, .int 2, .int 4, .int 8, .int 16, .int 32]) m = some (.lst [.int 1, .int 2, .int 4, .int 8, .int 16, .int 32]) := upd_same
      generalize upd G m (.lst [.int 1, .int 2, .int 4, .int 8, .int 16, .int 32]) = G8 at *
      have EA8 := EG.trans E8
      have hpw : (2 : Nat) ^ j ≤ 64 := Nat.le_trans (Nat.pow_le_pow_right (by decide) (show j ≤ 6 by omega)) (by decide)
      refine ⟨_, rfl, _, _, _, _, rfl, rfl, SqL.of hm8, at_of (j := j) rfl (pow6 (by omega)), _, rfl, _, rfl, _, _, _, _, rfl, rfl, SqL.of (EA8 _ _ hLA), at_of (j := j) rfl hjr, _, _, _, _, rfl, rfl, SqT.of (EA8 _ _ b1), atI_nat (j := 6) rfl, .inr ⟨_, rfl, _, _, rfl, rfl, .inl ⟨Int.lt_of_lt_of_le (by decide) (Int.natCast_nonneg _), Int.lt_of_le_of_lt (Int.ofNat_le.mpr hpw) (by decide)⟩, _, _, rfl, rfl, EA8, some (.int (j : Nat)), ?_⟩⟩
      have eS : sumB ((readM d gd).map (·.start)) (j + 1) = sumB ((readM d gd).map (·.start)) j + if ((readM d gd).map (·.start)).getD j false then 2 ^ j else 0 := rfl
      have eg : ((readM d gd).map (·.start)).getD j false = r.start := by rw [List.getD_eq_getElem?_getD, List.getElem?_map, hr']; rfl
      rw [eS, eg]
      cases r.start with
      | true => show [_, _, _, _, _, _, _, _, some (V.int (_ + _ * 1)), _, _, _, _, _, _, _] = _; rw [Int.mul_one, if_pos rfl, Int.natCast_add]
      | false => show [_, _, _, _, _, _, _, _, some (V.int (_ + _ * 0)), _, _, _, _, _, _, _] = _; rw [Int.mul_zero, if_neg Bool.false_ne_true, Int.add_zero]; rfl
    rintro σ G ⟨EG, y9, rfl⟩
    rw [Int.toNat_natCast, hasl]
    have e0G := e0A.trans EG
    have hcG := hc.te (.of e0G)
    have hAG := hAA.imp fun _ _ z => (show RegAt G _ _ from z.te (.of EG))
    have hLG := EG _ _ hLA
    have h2d : ("/d" : Str).length = 2 := rfl
    have hnl' : gd.name.length ≤ 900 := hnl
    -- gates
    refine ⟨_, rfl, _, _, _, _, rfl, rfl, SqT.of hcG.top, atI_nat (j := 1) rfl, _, _, rfl, .inr (SqT.of hcG.gts), fun gl ngl => ?_⟩
    have EB := Ex.new (o := .lst (ga.map V.ref)) ngl
    have hglB : upd G gl (.lst (ga.map V.ref)) gl = some (.lst (ga.map V.ref)) := upd_same
    generalize upd G gl (.lst (ga.map V.ref)) = HB at *
    have e0B := e0G.trans EB
    refine ⟨_, rfl, _, _, _, _, rfl, rfl, SqT.of (e0B _ _ a1), atI_nat (j := 0) rfl, _, _, rfl, rfl, sz_of (by omega), _, rfl, _, _, _, _, rfl, rfl, SqT.of (e0B _ _ a1), atI_nat (j := 1) rfl, _, rfl, L, rfl, ⟨_, SqL.of (EB _ _ hLG)⟩, fun Lm nLm => wk_list (K := K) (a := L) (xs := as.map V.ref)
      (fun j G' => Ex HB G' ∧ G' Lm = some (.lst ((((readM d gd).take j).map fun r : RegD => r.net).map V.str))) ⟨Ex.new nLm, by rw [upd_same, List.take_zero]; rfl⟩ (fun j G' _ z => SqL.of (z.1 _ _ (EB _ _ hLG))) ?_ ?_⟩
    · rintro j y G4 hy ⟨E4, hLm⟩
      obtain ⟨b, hb, rfl⟩ := refs_get hy
      obtain ⟨r, hr', ea, ob, b1, b2, b3⟩ := hAG.at_ hb
      have hj : j < (readM d gd).length := (List.getElem?_eq_some_iff.mp hr').1
      refine ⟨(by rw [wipe_set (by decide), wipe_wipe]), tYes_in ?_⟩
      simp only [wipe, _root_.L2.start, List.map_cons, List.map_nil, List.length_cons, List.length_nil, Nat.reduceAdd, Nat.reduceSub, List.replicate_succ, List.replicate_zero, List.cons_append, List.nil_append, List.set_cons_zero, List.set_cons_succ]
      refine ⟨_, rfl, _, _, _, _, rfl, rfl, SqT.of ((EB.trans E4) _ _ b1), atI_nat (j := 1) rfl, _, hLm, sz_lt (by rw [List.length_map, List.length_map, List.length_take]; omega), E4.mut nLm, ?_⟩
      rw [upd_same, take_snoc1 hr', List.map_append, List.map_append]; rfl
    rintro HC ⟨EC, hLm⟩
    rw [List.length_map, hAG.1, List.take_length] at hLm
    simp only [wipe, _root_.L2.start, List.map_cons, List.map_nil, List.length_cons, List.length_nil, Nat.reduceAdd, Nat.reduceSub, List.replicate_succ, List.replicate_zero, List.cons_append, List.nil_append, List.set_cons_zero, List.set_cons_succ]
    refine ⟨Lm, _, rfl, .inl ⟨SqL.of hLm, fun pm npm => ⟨_, rfl, _, _, _, _, rfl, rfl, SqT.of (((e0B.trans EC).trans (Ex.new npm)) _ _ a1), atI_nat (j := 3) rfl, (by show 4 ≤ sizeLine; decide), fun mv nmv => ?_⟩⟩⟩
    have E5 : Ex HC (upd HC pm (.tup (((readM d gd).map fun r : RegD => r.net).map V.str))) := Ex.new npm
    have hpm : upd HC pm (.tup (((readM d gd).map fun r : RegD => r.net).map V.str)) pm = some (.tup ((movG d gd).pins.map V.str)) := upd_same
    generalize upd HC pm (.tup (((readM d gd).map fun r : RegD => r.net).map V.str)) = HD' at *
    have E6 : Ex HD' (upd HD' mv (.tup [.str (gd.name ++ "/d"), .ref tt, .ref pm, .ref rgt])) := Ex.new nmv
    have hmv : upd HD' mv (.tup [.str (gd.name ++ "/d"), .ref tt, .ref pm, .ref rgt]) mv = some (.tup [.str (dN gd.name), .ref tt, .ref pm, .ref rgt]) := upd_same
    generalize upd HD' mv (.tup [.str (gd.name ++ "/d"), .ref tt, .ref pm, .ref rgt]) = HE at *
    have eBE := EC.trans (E5.trans E6)
    have e0E := e0B.trans eBE
    have hmovG : GateAt HE mv (movG d gd) := ⟨tt, pm, rgt, rga, hmv, e0E _ _ a2, E6 _ _ hpm, e0E _ _ a4, a5.imp fun _ _ z => e0E _ _ z⟩
    have hglE := eBE _ _ hglB
    refine ⟨_, rfl, _, rfl, gl, _, _, k, rfl, rfl, hglE, ixN_nat (by rw [List.length_map]; exact hga), ?_⟩
    have TF : TEx HE (upd HE gl (.lst ((ga.map V.ref).set k (.ref mv)))) := TEx.mut hglE
    have EF : Ex G (upd HE gl (.lst ((ga.map V.ref).set k (.ref mv)))) := (EB.trans eBE).mut ngl
    have hglF : upd HE gl (.lst ((ga.map V.ref).set k (.ref mv))) gl = some (.lst ((ga.set k mv).map V.ref)) := by rw [upd_same, List.map_set]
    have hmvF := hmovG.te TF
    generalize upd HE gl (.lst ((ga.map V.ref).set k (.ref mv))) = HF at *
    have e0F := e0G.trans EF
    have hgA : All2 (GateAt HF) (ga.set k mv) (d.gates.set k (movG d gd)) := all2_set (hc.gates.imp fun _ _ z => z.te (.of e0F)) hmvF
    have hcF := hc.te (.of e0F)
    -- regs
    refine ⟨_, rfl, _, _, _, _, rfl, rfl, SqT.of hcF.top, atI_nat (j := 2) rfl, _, _, rfl, .inr (SqT.of hcF.rgs), fun rl0 nrl0 => ?_⟩
    have EG1 := Ex.new (o := .lst (ra.map V.ref)) nrl0
    have hrl0 : upd HF rl0 (.lst (ra.map V.ref)) rl0 = some (.lst (ra.map V.ref)) := upd_same
    generalize upd HF rl0 (.lst (ra.map V.ref)) = HG at *
    have e0G1 := e0F.trans EG1
    refine ⟨_, rfl, _, _, _, _, rfl, rfl, SqT.of (e0G1 _ _ a1), atI_nat (j := 0) rfl, _, rfl, _, _, _, _, rfl, rfl, SqT.of (e0G1 _ _ a1), atI_nat (j := 0) rfl, _, _, rfl, rfl, sz_of (by omega), (by show 2 ≤ sizeLine; decide), fun u1 nu1 => ?_⟩
    have EH := Ex.new (o := .tup [.str gd.name, .str (gd.name ++ "/d")]) nu1
    have hu1 : upd HG u1 (.tup [.str gd.name, .str (gd.name ++ "/d")]) u1 = some (.tup [.str gd.name, .str (dN gd.name)]) := upd_same
    generalize upd HG u1 (.tup [.str gd.name, .str (gd.name ++ "/d")]) = HH at *
    have eGH := EF.trans (EG1.trans EH)
    refine ⟨_, rfl, _, _, _, _, rfl, rfl, SqL.of (eGH _ _ hLG), atI_nat (j := 0) (by rw [has0]; rfl), 2, rfl, 6, rfl, cut_reg (hr0.te (.of ((E9.trans E10).trans (EG.trans eGH)))) fun tm HI EI htm => ?_⟩
    obtain ⟨ea, ob, ht1, ht2, ht3⟩ := id htm
    refine cat_tup (EI _ _ hu1) ht1 (by show 6 ≤ sizeLine; decide) fun u2 HJ EJ hu2 => ?_
    have hstl : ((readM d gd).map (·.start)).length = (readM d gd).length := List.length_map _
    have hlk : (gd.tab.map V.bl)[sumB ((readM d gd).map (·.start)) (readM d gd).length]? = some (.bl (lookB gd.tab ((readM d gd).map (·.start)))) := by
      have hlt := sumB_lt ((readM d gd).map (·.start)) (readM d gd).length
      rw [List.getElem?_map]
      unfold lookB
      rw [hstl, List.getD_eq_getElem?_getD, List.getElem?_eq_getElem (by rw [hcnt.2.2, ← hMall]; exact hlt)]
      rfl
    have eFJ := EG1.trans (EH.trans (EI.trans EJ))
    have e0J := e0F.trans eFJ
    refine ⟨_, rfl, _, _, _, _, rfl, rfl, SqT.of (e0J _ _ a1), atI_nat (j := 1) rfl, _, rfl, _, _, _, _, rfl, rfl, SqT.of (e0J _ _ a2), at_of (j := sumB ((readM d gd).map (·.start)) (readM d gd).length) rfl hlk, (by show 1 ≤ sizeLine; decide), fun u3 nu3 => ?_⟩
    have EK := Ex.new (o := .tup [.bl (lookB gd.tab ((readM d gd).map (·.start)))]) nu3
    have hu3 : upd HJ u3 (.tup [.bl (lookB gd.tab ((readM d gd).map (·.start)))]) u3 = some (.tup [.bl (lookB gd.tab ((readM d gd).map (·.start)))]) := upd_same
    generalize upd HJ u3 (.tup [.bl (lookB gd.tab ((readM d gd).map (·.start)))]) = HK at *
    refine cat_tup (EK _ _ hu2) hu3 (by show 7 ≤ sizeLine; decide) fun nw HL EL hnw => ⟨(by show 1 ≤ sizeLine; decide), fun ln nln => ?_⟩
    have eIL := EJ.trans (EK.trans EL)
    have hnewR : RegAt HL nw (newR d gd) := by
      refine ⟨ea, ob, ?_, ?_, ?_⟩
      · rw [hnw]; unfold newR; rw [hhd]; rfl
      · unfold newR; rw [hhd]; exact eIL _ _ ht2
      · unfold newR; rw [hhd]; exact eIL _ _ ht3
    have EM := Ex.new (o := .lst [.ref nw]) nln
    have hln : upd HL ln (.lst [.ref nw]) ln = some (.lst [.ref nw]) := upd_same
    generalize upd HL ln (.lst [.ref nw]) = HM at *
    have eFM := eFJ.trans (EK.trans (EL.trans EM))
    have eGM := EH.trans (EI.trans (eIL.trans EM))
    refine ⟨rl0, ln, _, _, rfl, rfl, eGM _ _ hrl0, hln, sz_of (by rw [List.length_map, List.length_singleton, hc.regs.1]; omega), fun rgl nrgl => ?_⟩
    have EN := Ex.new (o := .lst (ra.map V.ref ++ [.ref nw])) nrgl
    have hrgl : upd HM rgl (.lst (ra.map V.ref ++ [.ref nw])) rgl = some (.lst ((ra ++ [nw]).map V.ref)) := by rw [upd_same, List.map_append]; rfl
    generalize upd HM rgl (.lst (ra.map V.ref ++ [.ref nw])) = HN at *
    have eFN := eFM.trans EN
    have e0N := e0F.trans eFN
    have hRN : All2 (RegAt HN) (ra ++ [nw]) (regsM d gd) := (hc.regs.imp fun _ _ z => z.te (.of e0N)).snoc (hnewR.te (.of (EM.trans EN)))
    have hgN := hgA.imp fun _ _ z => (show GateAt HN _ _ from z.te (.of eFN))
    have hglN := eFN _ _ hglF
    have hcN := hc.te (.of e0N)
    have hos := Fw.os
    have hrml : (regsM d gd).length ≤ 191 := by show (d.regs ++ [newR d gd]).length ≤ 191; rw [List.length_append, List.length_singleton]; omega
    -- used
    refine ⟨_, rfl, _, _, _, _, rfl, rfl, SqT.of hcN.top, atI_nat (j := 3) rfl, ot, rfl, ⟨_, SqT.of hcN.ots⟩, fun La nLa => wk_tup (K := K) (a := ot) (xs := oa.map V.ref)
      (fun j G' => Ex HN G' ∧ G' La = some (.lst (((d.outs.take j).map fun o : Str × Str => o.2).map V.str))) ⟨Ex.new nLa, by rw [upd_same, List.take_zero]; rfl⟩ (fun j G' _ z => SqT.of (z.1 _ _ hcN.ots)) ?_ ?_⟩
    · rintro j y G4 hy ⟨E4, hLa⟩
      obtain ⟨b, hb, rfl⟩ := refs_get hy
      obtain ⟨o, ho, b1⟩ := hcN.outs.at_ hb
      have hj : j < d.outs.length := (List.getElem?_eq_some_iff.mp ho).1
      refine ⟨(by rw [wipe_set (by decide), wipe_wipe]), tYes_in ?_⟩
      simp only [wipe, _root_.L2.start, List.map_cons, List.map_nil, List.length_cons, List.length_nil, Nat.reduceAdd, Nat.reduceSub, List.replicate_succ, List.replicate_zero, List.cons_append, List.nil_append, List.set_cons_zero, List.set_cons_succ]
      refine ⟨_, rfl, _, _, _, _, rfl, rfl, SqT.of (E4 _ _ b1), atI_nat (j := 1) rfl, _, hLa, sz_lt (by rw [List.length_map, List.length_map, List.length_take]; omega), E4.mut nLa, ?_⟩
      rw [upd_same, take_snoc1 ho, List.map_append, List.map_append]; rfl
    rintro HO1 ⟨EO, hLa⟩
    rw [List.length_map, hcN.outs.1, List.take_length] at hLa
    simp only [wipe, _root_.L2.start, List.map_cons, List.map_nil, List.length_cons, List.length_nil, Nat.reduceAdd, Nat.reduceSub, List.replicate_succ, List.replicate_zero, List.cons_append, List.nil_append, List.set_cons_zero, List.set_cons_succ]
    have hrglO := EO _ _ hrgl
    have hRO := hRN.imp fun _ _ z => (show RegAt HO1 _ _ from z.te (.of EO))
    refine ⟨_, rfl, rgl, rfl, ⟨_, SqL.of hrglO⟩, fun Lb nLb => wk_list (K := K) (a := rgl) (xs := (ra ++ [nw]).map V.ref)
      (fun j G' => Ex HO1 G' ∧ G' Lb = some (.lst ((((regsM d gd).take j).map fun r : RegD => r.net).map V.str))) ⟨Ex.new nLb, by rw [upd_same, List.take_zero]; rfl⟩ (fun j G' _ z => SqL.of (z.1 _ _ hrglO)) ?_ ?_⟩
    · rintro j y G4 hy ⟨E4, hLb⟩
      obtain ⟨b, hb, rfl⟩ := refs_get hy
      obtain ⟨r, hr', ea, ob, b1, b2, b3⟩ := hRO.at_ hb
      have hj : j < (regsM d gd).length := (List.getElem?_eq_some_iff.mp hr').1
      refine ⟨(by rw [wipe_set (by decide), wipe_wipe]), tYes_in ?_⟩
      simp only [wipe, _root_.L2.start, List.map_cons, List.map_nil, List.length_cons, List.length_nil, Nat.reduceAdd, Nat.reduceSub, List.replicate_succ, List.replicate_zero, List.cons_append, List.nil_append, List.set_cons_zero, List.set_cons_succ]
      refine ⟨_, rfl, _, _, _, _, rfl, rfl, SqT.of (E4 _ _ b1), atI_nat (j := 1) rfl, _, hLb, sz_lt (by rw [List.length_map, List.length_map, List.length_take]; omega), E4.mut nLb, ?_⟩
      rw [upd_same, take_snoc1 hr', List.map_append, List.map_append]; rfl
    rintro HP ⟨EP, hLb⟩
    rw [List.length_map, hRO.1, List.take_length] at hLb
    refine ⟨La, Lb, _, _, rfl, rfl, EP _ _ hLa, hLb, sz_of (by rw [List.length_map, List.length_map, List.length_map, List.length_map]; omega), fun us0 nus0 => ?_⟩
    have EQ := Ex.new (o := .lst (((d.outs.map fun o : Str × Str => o.2).map V.str) ++ (((regsM d gd).map fun r : RegD => r.net).map V.str))) nus0
    have hus : upd HP us0 (.lst (((d.outs.map fun o : Str × Str => o.2).map V.str) ++ (((regsM d gd).map fun r : RegD => r.net).map V.str))) us0 = some (.lst (((d.outs.map fun o : Str × Str => o.2) ++ ((regsM d gd).map fun r : RegD => r.net)).map V.str)) := by rw [upd_same, List.map_append]
    generalize upd HP us0 (.lst (((d.outs.map fun o : Str × Str => o.2).map V.str) ++ (((regsM d gd).map fun r : RegD => r.net).map V.str))) = HQ at *
    have eNQ := EO.trans (EP.trans EQ)
    have hglQ := eNQ _ _ hglN
    have hgQ := hgN.imp fun _ _ z => (show GateAt HQ _ _ from z.te (.of eNQ))
    have hbl : ((d.outs.map fun o : Str × Str => o.2) ++ ((regsM d gd).map fun r : RegD => r.net)).length ≤ 400 := by rw [List.length_append, List.length_map, List.length_map]; omega
    generalize hbase : (d.outs.map fun o : Str × Str => o.2) ++ ((regsM d gd).map fun r : RegD => r.net) = us at hus hbl
    have hpl6 : ∀ g ∈ d.gates.set k (movG d gd), g.pins.length ≤ 10 := fun g hg => by
      rcases gate_in hg with z | z
      · rw [z]; show ((readM d gd).map _).length ≤ 10; rw [List.length_map]; omega
      · have := (S.cnt g z).1; omega
    have hfl : ∀ i, (((d.gates.set k (movG d gd)).take i).flatMap fun g : GateD => g.pins).length ≤ i * 10 := fun i => by
      have := flat_leS (f := fun g : GateD => g.pins) (k := 10) ((d.gates.set k (movG d gd)).take i) fun g hg => hpl6 g (List.mem_of_mem_take hg)
      rw [List.length_take] at this
      exact Nat.le_trans this (Nat.mul_le_mul_right _ (Nat.min_le_left _ _))
    have hsetl : (d.gates.set k (movG d gd)).length = d.gates.length := List.length_set
    refine ⟨_, rfl, gl, rfl, ⟨_, SqL.of hglQ⟩, for_list (K := K) (a := gl) (xs := (ga.set k mv).map V.ref)
      (fun i σ G' => Ex HQ G' ∧ ∃ (u : Addr) (y5 : Option V), G' u = some (.lst ((us ++ ((d.gates.set k (movG d gd)).take i).flatMap fun g : GateD => g.pins).map V.str)) ∧ σ = [some (.ref c), some (.int (k : Nat)), some (.ref gb), some (.ref Db), y4, y5, some (.ref l6), some (.ref L), some (.int ((sumB ((readM d gd).map (·.start)) (readM d gd).length : Nat) : Int)), y9, some (.ref gl), some (.ref rgl), some (.ref u), none, none, none])
      ⟨.refl _, us0, _, by rw [List.take_zero, List.flatMap_nil, List.append_nil]; exact hus, rfl⟩ (fun i σ G' _ z => SqL.of (z.1 _ _ hglQ)) ?_ ?_⟩
    · rintro i y σ G' hy ⟨EG', u, y5, hu, rfl⟩
      obtain ⟨b, hb, rfl⟩ := refs_get hy
      obtain ⟨g', hg', t', pt', rgt', rga', b1, b2, b3, b4, b5⟩ := hgQ.at_ hb
      have hi : i < d.gates.length := by have := (List.getElem?_eq_some_iff.mp hg').1; rw [hsetl] at this; exact this
      have h6 := hpl6 g' (List.mem_of_getElem? hg')
      have hfi := hfl i
      refine ⟨_, rfl, _, rfl, _, _, _, _, rfl, rfl, SqT.of (EG' _ _ b1), atI_nat (j := 2) rfl, _, _, rfl, .inr (SqT.of (EG' _ _ b3)), fun p1 np1 => ?_⟩
      have E1' := Ex.new (o := .lst (g'.pins.map V.str)) np1
      refine ⟨u, p1, _, _, rfl, rfl, E1' _ _ hu, upd_same, sz_of (by rw [List.length_map, List.length_map, List.length_append]; omega), fun p2 np2 => ⟨EG'.trans (E1'.trans (Ex.new np2)), p2, _, ?_, rfl⟩⟩
      rw [upd_same, ← List.map_append, take_snoc1 hg', List.flatMap_append, List.flatMap_singleton, List.append_assoc]
    rintro σ G' ⟨EG', u, y5, hu, rfl⟩
    rw [List.length_map, List.length_set, hc.gates.1, ← hsetl, List.take_length] at hu
    have hU : ∀ x, x ∈ us ++ (d.gates.set k (movG d gd)).flatMap (fun g : GateD => g.pins) ↔ x ∈ usedM (d.gates.set k (movG d gd)) (regsM d gd) d.outs := fun x => by
      rw [← hbase]
      unfold usedM
      simp only [List.mem_append]
      constructor
      · rintro ((z | z) | z)
        · exact .inr z
        · exact .inl (.inr z)
        · exact .inl (.inl z)
      · rintro ((z | z) | z)
        · exact .inr z
        · exact .inl (.inr z)
        · exact .inl (.inl z)
    generalize hUU : us ++ (d.gates.set k (movG d gd)).flatMap (fun g : GateD => g.pins) = UU at hu hU
    have eNG := eNQ.trans EG'
    have hrglG := eNG _ _ hrgl
    have hRG := hRN.imp fun _ _ z => (show RegAt G' _ _ from z.te (.of eNG))
    have e0G' := e0N.trans eNG
    have hLG' := (EF.trans (eFN.trans eNG)) _ _ hLG
    have hAG' := hA.imp fun _ _ z => (show RegAt G' _ _ from z.te (.of e0G'))
    have hrm : ∀ r ∈ regsM d gd, RegTx r ∧ (((readM d gd).map regP).any fun z => PyData.eqv z (regP r)) = decide (r.name ∈ gd.pins) := fun r hr1 => by
      have hg1 := gate_not_pin S hgd M
      rcases List.mem_append.mp hr1 with z | z
      · refine ⟨⟨hTx _ (List.mem_append_right _ (List.mem_map.mpr ⟨r, z, rfl⟩)), hTx _ (S.net _ (List.mem_append_left _ (List.mem_append_right _ (List.mem_map.mpr ⟨r, z, rfl⟩))))⟩, ?_⟩
        rw [Bool.eq_iff_iff, any_regs, decide_eq_true_iff]
        constructor
        · rintro ⟨q', h1, h2⟩
          have h3 := (readM_mem h1).2
          have h4 : q'.name = r.name := congrArg (·.1) h2
          rw [← h4]; exact h3
        · intro h1
          exact ⟨r, List.mem_filterMap.mpr ⟨r.name, h1, regF_of ndr z⟩, rfl⟩
      · rw [List.mem_singleton.mp z]
        refine ⟨⟨hTx _ (List.mem_append_left _ (List.mem_append_right _ (List.mem_map.mpr ⟨gd, hgm, rfl⟩))), hdtx⟩, ?_⟩
        rw [decide_eq_false (show ¬ (newR d gd).name ∈ gd.pins from hg1), Bool.eq_false_iff]
        intro h1
        obtain ⟨q', h2, h3⟩ := any_regs.mp h1
        have h4 : q'.name = gd.name := congrArg (·.1) h3
        exact hg1 (by rw [← h4]; exact (readM_mem h2).2)
    refine ⟨_, rfl, rgl, rfl, ⟨_, SqL.of hrglG⟩, fun Lf nLf => wk_list (K := K) (a := rgl) (xs := (ra ++ [nw]).map V.ref)
      (fun j G2 => Ex G' G2 ∧ ∃ ks : List Addr, G2 Lf = some (.lst (ks.map V.ref)) ∧ ks.length ≤ j ∧ All2 (RegAt G') ks (((regsM d gd).take j).filter fun r => decide (r.name ∈ usedM (d.gates.set k (movG d gd)) (regsM d gd) d.outs) || !decide (r.name ∈ gd.pins))) ⟨Ex.new nLf, [], upd_same, Nat.le_refl _, by rw [List.take_zero]; exact .nil⟩ (fun j G2 _ z => SqL.of (z.1 _ _ hrglG)) ?_ ?_⟩
    · rintro j y G2 hy ⟨E2', ks, hLf, hkl, hK2⟩
      obtain ⟨b, hb, rfl⟩ := refs_get hy
      obtain ⟨r, hr', hreg⟩ := hRG.at_ hb
      obtain ⟨hrtx', hany⟩ := hrm r (List.mem_of_getElem? hr')
      obtain ⟨ea', ob', b1, b2, b3⟩ := id hreg
      have hj : j < (regsM d gd).length := (List.getElem?_eq_some_iff.mp hr').1
      refine ⟨(by rw [wipe_set (by decide), wipe_wipe]), ?_⟩
      simp only [wipe, _root_.L2.start, List.map_cons, List.map_nil, List.length_cons, List.length_nil, Nat.reduceAdd, Nat.reduceSub, List.replicate_succ, List.replicate_zero, List.cons_append, List.nil_append, List.set_cons_zero, List.set_cons_succ]
      have hput : Ex G' (upd G2 Lf (.lst (ks.map V.ref ++ [V.ref b]))) := E2'.mut nLf
      have yes : (decide (r.name ∈ usedM (d.gates.set k (movG d gd)) (regsM d gd) d.outs) || !decide (r.name ∈ gd.pins)) = true → ∃ acc, G2 Lf = some (HO.lst acc) ∧ acc.length < sizeLine ∧ Ex G' (upd G2 Lf (.lst (acc ++ [V.ref b]))) ∧ ∃ ks : List Addr, upd G2 Lf (.lst (acc ++ [V.ref b])) Lf = some (.lst (ks.map V.ref)) ∧ ks.length ≤ j + 1 ∧ All2 (RegAt G') ks (((regsM d gd).take (j + 1)).filter fun r => decide (r.name ∈ usedM (d.gates.set k (movG d gd)) (regsM d gd) d.outs) || !decide (r.name ∈ gd.pins)) := fun e2 => by
        refine ⟨_, hLf, sz_lt (by rw [List.length_map]; omega), hput, ks ++ [b], by rw [upd_same, List.map_append]; rfl, by rw [List.length_append, List.length_singleton]; omega, ?_⟩
        rw [take_snoc1 hr', List.filter_append, List.filter_cons, e2]
        exact hK2.snoc hreg
      have no : (decide (r.name ∈ usedM (d.gates.set k (movG d gd)) (regsM d gd) d.outs) || !decide (r.name ∈ gd.pins)) = false → Ex G' G2 ∧ ∃ ks : List Addr, G2 Lf = some (.lst (ks.map V.ref)) ∧ ks.length ≤ j + 1 ∧ All2 (RegAt G') ks (((regsM d gd).take (j + 1)).filter fun r => decide (r.name ∈ usedM (d.gates.set k (movG d gd)) (regsM d gd) d.outs) || !decide (r.name ∈ gd.pins)) := fun e => by
        refine ⟨E2', ks, hLf, by omega, ?_⟩
        rw [take_snoc1 hr', List.filter_append, List.filter_cons, e]
        simpa using hK2
      have e5 : (if (false : Bool) = true then !inV (V.str r.name) (UU.map V.str) else inV (V.str r.name) (UU.map V.str)) = decide (r.name ∈ UU) := by rw [if_neg (by decide), inV_sM]
      refine ⟨_, rfl, _, _, _, _, rfl, rfl, SqT.of (E2' _ _ b1), atI_nat (j := 0) rfl, _, rfl, u, _, rfl, .inl (SqL.of (E2' _ _ hu)), rfl, flat_sM _, decide (r.name ∈ UU), congrArg V.bl e5, ?_⟩
      have hUr : decide (r.name ∈ UU) = decide (r.name ∈ usedM (d.gates.set k (movG d gd)) (regsM d gd) d.outs) := by rw [decide_eq_decide]; exact hU _
      rw [hUr]
      cases hu1 : decide (r.name ∈ usedM (d.gates.set k (movG d gd)) (regsM d gd) d.outs) with
      | true => exact iteT (iteT ⟨_, rfl, yes (by rw [hu1]; rfl)⟩)
      | false =>
        refine iteF ?_
        refine ⟨_, rfl, _, rfl, _, _, dp_regT (hreg.te (.of E2')), dp_regsL (E2' _ _ hLG') (hAG'.imp fun _ _ z => z.te (.of E2')), shaped_regP hrtx', shaped_regsL hrtx, _, rfl, ?_⟩
        rw [hany]
        cases hn : decide (r.name ∈ gd.pins) with
        | true => exact iteF (no (by rw [hu1, hn]; rfl))
        | false => exact iteT ⟨_, rfl, yes (by rw [hu1, hn]; rfl)⟩
    rintro G2 ⟨E2', ks, hLf, hkl, hK2⟩
    rw [List.length_map, hRG.1, List.take_length] at hK2
    simp only [wipe, _root_.L2.start, List.map_cons, List.map_nil, List.length_cons, List.length_nil, Nat.reduceAdd, Nat.reduceSub, List.replicate_succ, List.replicate_zero, List.cons_append, List.nil_append, List.set_cons_zero, List.set_cons_succ]
    have e02 := e0G'.trans E2'
    have hc2' := hc.te (.of e02)
    have hgl2 := (eNG.trans E2') _ _ hglN
    refine ⟨_, rfl, _, _, _, _, rfl, rfl, SqT.of hc2'.top, atI_nat (j := 0) rfl, _, rfl, gl, _, rfl, .inl ⟨SqL.of hgl2, fun gt2 ngt2 => ⟨_, rfl, Lf, _, rfl, .inl ⟨SqL.of (Ex.new ngt2 _ _ hLf), fun rt2 nrt2 => ?_⟩⟩⟩⟩
    have F1 := Ex.new (o := .tup ((ga.set k mv).map V.ref)) ngt2
    have hgt2 : upd G2 gt2 (.tup ((ga.set k mv).map V.ref)) gt2 = some (.tup ((ga.set k mv).map V.ref)) := upd_same
    generalize upd G2 gt2 (.tup ((ga.set k mv).map V.ref)) = G3 at *
    have F2 := Ex.new (o := .tup (ks.map V.ref)) nrt2
    have hrt2 : upd G3 rt2 (.tup (ks.map V.ref)) rt2 = some (.tup (ks.map V.ref)) := upd_same
    generalize upd G3 rt2 (.tup (ks.map V.ref)) = G4 at *
    have e04 := e02.trans (F1.trans F2)
    have hc4' := hc.te (.of e04)
    refine ⟨_, rfl, _, _, _, _, rfl, rfl, SqT.of hc4'.top, atI_nat (j := 3) rfl, (by show 4 ≤ sizeLine; decide), fun fc nfc => ?_⟩
    have F3 := Ex.new (o := .tup [.ref it, .ref gt2, .ref rt2, .ref ot]) nfc
    have eG5 := E2'.trans (F1.trans (F2.trans F3))
    have eN5 := eNG.trans eG5
    exact hqL fc it gt2 rt2 ot (ga.set k mv) ks oa _ (e04.trans F3) ⟨upd_same, F3 _ _ hc4'.ins, F3 _ _ (F2 _ _ hgt2), F3 _ _ hrt2, F3 _ _ hc4'.ots, hgN.imp fun _ _ z => z.te (.of eN5), hK2.imp fun _ _ z => z.te (.of eG5), hc4'.outs.imp fun _ _ z => F3 _ _ z⟩
end
end G
namespace G
open PySem PySem.Spec PyProof.Rows L2 Evl TL
/-! ## what a drawn circuit is -/
theorem nm_tx : ∀ c ∈ (["i", "r", "g", "p"] : List Str), ∀ k, k < 20 → PyData.strOk (nm c k) = true := by decide +kernel
theorem nms_tx {c : Str} {n : Nat} {x : Str} (hc : c ∈ (["i", "r", "g", "p"] : List Str)) (hn : n ≤ 20) (h : x ∈ (List.range n).map (nm c)) : PyData.strOk x = true := by
  obtain ⟨k, hk, rfl⟩ := List.mem_map.mp h
  exact nm_tx c hc k (by have := List.mem_range.mp hk; omega)
section
variable {most : Nat} {d : CircD} {Gs : List GateD}
theorem CircWf.net_tx (W : CircWf most d Gs) (hm : most ≤ 15) {k : Nat} (hk : k ≤ Gs.length) {x : Str} (h : x ∈ d.ins ++ d.regs.map (·.name) ++ (List.range k).map (nm "g")) : PyData.strOk x = true := by
  have := W.few
  rcases List.mem_append.mp h with z | z
  · rcases List.mem_append.mp z with z | z
    · obtain ⟨n, _, h2, e⟩ := W.ins
      rw [e] at z
      exact nms_tx nmi_str (by omega) z
    · obtain ⟨n, h2, e⟩ := W.regs
      rw [e] at z
      exact nms_tx nmr_str (by omega) z
  · exact nms_tx nmg_str (by omega) z
theorem CircWf.gate (W : CircWf most d Gs) {g : GateD} (h : g ∈ d.gates) : ∃ k, k < Gs.length ∧ GateWf (d.ins ++ d.regs.map (·.name) ++ (List.range k).map (nm "g")) k g := by
  obtain ⟨k, hk, e⟩ := List.getElem_of_mem (W.perm.mem_iff.mp h)
  exact ⟨k, hk, W.gates k g (List.getElem?_eq_some_iff.mpr ⟨hk, e⟩)⟩
theorem CircWf.glen (W : CircWf most d Gs) : d.gates.length ≤ most := by rw [W.perm.length_eq]; exact W.few
structure GateSm (g : GateD) : Prop where
  few : g.pins.length ≤ 3
  tab : g.tab.length = 2 ^ g.pins.length
  many : g.rng.length = g.pins.length
  rng : ∀ r ∈ g.rng, 0 ≤ r.1 ∧ r.1 ≤ 4 ∧ r.1 + 2 ≤ r.2 ∧ r.2 ≤ r.1 + 6
theorem CircWf.gsm (W : CircWf most d Gs) {g : GateD} (h : g ∈ d.gates) : GateSm g := by
  obtain ⟨k, _, w⟩ := W.gate h
  exact ⟨w.few, w.tab, w.many, w.rng⟩
theorem CircWf.rlen (W : CircWf most d Gs) : d.regs.length ≤ 3 := by
  obtain ⟨n, hn, e⟩ := W.regs
  have := congrArg List.length e
  rw [List.length_map, List.length_map, List.length_range] at this
  omega
theorem CircWf.ilen (W : CircWf most d Gs) : d.ins.length ≤ 3 := by
  obtain ⟨n, _, hn, e⟩ := W.ins
  rw [e, List.length_map, List.length_range]; exact hn
theorem CircWf.olen (W : CircWf most d Gs) : d.outs.length ≤ 3 := by
  obtain ⟨n, hn, e⟩ := W.outs
  have := congrArg List.length e
  rw [List.length_map, List.length_map, List.length_range] at this
  omega
end
/-! ## a circuit as data for _law_same -/
def strsD (l : List Str) : D := .tup (l.map .str)
def pairD (p : Int × Int) : D := .tup [.int p.1, .int p.2]
def gateD (g : GateD) : D := .tup [.str g.name, .tup (g.tab.map .bl), strsD g.pins, .tup (g.rng.map pairD)]
def regD (r : RegD) : D := .tup [.str r.name, .str r.net, pairD r.edge, pairD r.out, .int r.setup, .int r.hold, .bl r.start]
def outD (o : Str × Str) : D := .tup [.str o.1, .str o.2]
def circD (d : CircD) : D := .tup [strsD d.ins, .tup (d.gates.map gateD), .tup (d.regs.map regD), .tup (d.outs.map outD)]
section
variable {H : Hp}
theorem rep_fix {a : Addr} {xs : List V} {ds : List D} (h : H a = some (.tup xs)) (z : All2 (Rep H) xs ds) : Rep H (.ref a) (.tup ds) := .tup h z.1 z.2
theorem rep_all2 {β : Type} {R : Addr → β → Prop} {f : β → D} {a : Addr} {as : List Addr} {bs : List β} (h : H a = some (.tup (as.map V.ref))) (z : All2 R as bs) (r : ∀ a b, R a b → Rep H (.ref a) (f b)) : Rep H (.ref a) (.tup (bs.map f)) := by
  refine .tup h (by rw [List.length_map, List.length_map]; exact z.1) fun i x d hx hd => ?_
  obtain ⟨b, hb, rfl⟩ := refs_get hx
  rw [List.getElem?_map] at hd
  cases e : bs[i]? with
  | none => rw [e] at hd; cases hd
  | some y => rw [e] at hd; cases hd; exact r b y (z.2 i b y hb e)
theorem rep_strsT {a : Addr} {l : List Str} (h : H a = some (.tup (l.map V.str))) : Rep H (.ref a) (strsD l) :=
  let r := rep_map (H := H) (f := V.str) (g := D.str) (l := l) fun i => .str i
  .tup h r.1 r.2
theorem rep_pair {a : Addr} {p : Int × Int} (h : IntsAt H a p) : Rep H (.ref a) (pairD p) := rep_fix h (.cons (.int _) (.cons (.int _) .nil))
theorem rep_gate {a : Addr} {g : GateD} (h : GateAt H a g) : Rep H (.ref a) (gateD g) := by
  obtain ⟨t, pt, rt, ra, h1, h2, h3, h4, h5⟩ := h
  exact rep_fix h1 (.cons (.str _) (.cons (rep_bls h2) (.cons (rep_strsT h3) (.cons (rep_all2 h4 h5 fun _ _ z => rep_pair z) .nil))))
theorem rep_reg {a : Addr} {r : RegD} (h : RegAt H a r) : Rep H (.ref a) (regD r) := by
  obtain ⟨ea, oa, h1, h2, h3⟩ := h
  exact rep_fix h1 (.cons (.str _) (.cons (.str _) (.cons (rep_pair h2) (.cons (rep_pair h3) (.cons (.int _) (.cons (.int _) (.cons (.bl _) .nil)))))))
theorem rep_circ {c it gt rt ot : Addr} {ga ra oa : List Addr} {d : CircD} (h : CircAt H c d it gt rt ot ga ra oa) : Rep H (.ref c) (circD d) :=
  rep_fix h.top (.cons (rep_strsT h.ins) (.cons (rep_all2 h.gts h.gates fun _ _ z => rep_gate z) (.cons (rep_all2 h.rgs h.regs fun _ _ z => rep_reg z) (.cons (rep_all2 h.ots h.outs fun _ _ z => rep_fix z (.cons (.str _) (.cons (.str _) .nil))) .nil))))
end
theorem okD_tup {n : Nat} {l : List D} (hl : l.length < 2 ^ 61) (h : ∀ x ∈ l, okD n x) : okD (n + 1) (.tup l) := ⟨hl, h⟩
theorem okD_map {α : Type} {n : Nat} {l : List α} {f : α → D} (hl : l.length < 2 ^ 61) (h : ∀ x ∈ l, okD n (f x)) : okD (n + 1) (.tup (l.map f)) :=
  ⟨by rw [List.length_map]; exact hl, fun d hd => by obtain ⟨x, hx, rfl⟩ := List.mem_map.mp hd; exact h x hx⟩
theorem ok_fix2 {n : Nat} {a b : D} (h1 : okD n a) (h2 : okD n b) : okD (n + 1) (.tup [a, b]) := okD_tup (by show 2 < _; decide) fun x hx => by
  rcases List.mem_cons.mp hx with rfl | hx
  · exact h1
  · rw [List.mem_singleton.mp hx]; exact h2
theorem ok_int {n : Nat} (i : Int) : okD n (.int i) := by cases n <;> trivial
theorem ok_str {n : Nat} (i : Str) : okD n (.str i) := by cases n <;> trivial
theorem ok_bl {n : Nat} (i : Bool) : okD n (.bl i) := by cases n <;> trivial
theorem ok_pairD (p : Int × Int) : okD 1 (pairD p) := ok_fix2 (ok_int _) (ok_int _)
/-- few enough items everywhere -/
structure CircFew (d : CircD) : Prop where
  ins : d.ins.length ≤ 1000
  gates : d.gates.length ≤ 1000
  gate : ∀ g ∈ d.gates, g.tab.length ≤ 1000 ∧ g.pins.length ≤ 1000 ∧ g.rng.length ≤ 1000
  regs : d.regs.length ≤ 1000
  outs : d.outs.length ≤ 1000
theorem ok_circD {d : CircD} (h : CircFew d) : okD 5 (circD d) := by
  have big : ∀ {n : Nat}, n ≤ 1000 → n < 2 ^ 61 := fun h => by omega
  refine okD_tup (by show 4 < _; decide) fun x hx => ?_
  simp only [List.mem_cons, List.not_mem_nil, or_false] at hx
  rcases hx with rfl | rfl | rfl | rfl
  · exact okD.mono (n := 1) (by decide) (okD_map (big h.ins) fun _ _ => ok_str _)
  · refine okD_map (big h.gates) fun g hg => ?_
    obtain ⟨h1, h2, h3⟩ := h.gate g hg
    refine okD_tup (by show 4 < _; decide) fun x hx => ?_
    simp only [List.mem_cons, List.not_mem_nil, or_false] at hx
    rcases hx with rfl | rfl | rfl | rfl
    · exact ok_str _
    · exact okD.mono (n := 1) (by decide) (okD_map (big h1) fun _ _ => ok_bl _)
    · exact okD.mono (n := 1) (by decide) (okD_map (big h2) fun _ _ => ok_str _)
    · exact okD_map (big h3) fun _ _ => ok_pairD _
  · refine okD.mono (n := 3) (by decide) (okD_map (big h.regs) fun r hr => okD_tup (by show 7 < _; decide) fun x hx => ?_)
    simp only [List.mem_cons, List.not_mem_nil, or_false] at hx
    rcases hx with rfl | rfl | rfl | rfl | rfl | rfl | rfl
    · exact ok_str _
    · exact ok_str _
    · exact ok_pairD _
    · exact ok_pairD _
    · exact ok_int _
    · exact ok_int _
    · exact ok_bl _
  · exact okD.mono (n := 2) (by decide) (okD_map (big h.outs) fun o ho => ok_fix2 (ok_str _) (ok_str _))
theorem CircWf.circFew {most : Nat} {d : CircD} {Gs : List GateD} (W : CircWf most d Gs) (hm : most ≤ 15) : CircFew d := by
  have := W.glen
  have := W.rlen
  have := W.ilen
  have := W.olen
  refine ⟨by omega, by omega, fun g hg => ?_, by omega, by omega⟩
  have w := W.gsm hg
  have h1 := w.few
  have h2 : 2 ^ g.pins.length ≤ 64 := pow_le64 (by omega)
  have h3 := w.tab
  have h4 := w.many
  omega
end G
namespace G
open PySem PySem.Spec PyProof.Rows L2 Evl TL
/-! ## _law_even -/
def evR (r0 r : RegD) : RegD := ⟨r.name, r.net, r0.edge, r0.out, r0.setup, r0.hold, r.start⟩
structure EvG (d : CircD) (g g' : GateD) : Prop where
  name : g'.name = g.name
  tab : g'.tab = g.tab
  rng : g'.rng = g.rng
  pins : g'.pins = g.pins ∨ (g'.pins.length = g.pins.length ∧ ∀ x ∈ g'.pins, x ∈ d.regs.map (·.name))
structure EvD (d d' : CircD) (r0 : RegD) : Prop where
  ins : d'.ins = d.ins
  outs : d'.outs = d.outs
  regs : d'.regs = d.regs.map (evR r0)
  head : r0 ∈ d.regs
  gates : All2 (EvG d) d.gates d'.gates
theorem if_joinA {b : Bool} {A : Prop} {N : Addr → Hp → Prop} {x : Addr} {H : Hp} (I : Addr → Hp → Prop) (tail : ∀ x' H', I x' H' → N x' H') (h0 : b = false → I x H) (h1 : b = true → (∀ x' H', I x' H' → N x' H') → A) : if b = true then A else N x H := by
  cases b with
  | true => exact iteT (h1 rfl tail)
  | false => exact iteF (tail x H (h0 rfl))
theorem shaped_regsT {rs : List RegD} (h : ∀ r ∈ rs, RegTx r) : SeqAt.shaped (.tuple (rs.map regP)) = true := by
  have h1 := lay_map (f := regP) (n := 2) (l := rs) fun x hx => lay_regP (h x hx)
  unfold SeqAt.shaped
  rw [Bool.and_eq_true]
  refine ⟨by simp only [PyData.canLay0, h1.1], decide_eq_true ?_⟩
  simp only [PyData.depth]
  have := h1.2
  omega
theorem dp_regsT {K : PySem.W.Frag} {H : Hp} {a : Addr} {as : List Addr} {rs : List RegD} (h : H a = some (.tup (as.map V.ref))) (z : All2 (RegAt H) as rs) : Dp K H (.ref a) (.tuple (rs.map regP)) := .tup (SqT.of h) (dpAll_all2 (fun _ _ q => dp_regT q) z)
section
variable {P : Program} {w : World} {K : PySem.W.Frag} {mg : Str → Option Value} {base : Heap}
def spEven : Sp := fun vs H Q _ => ∃ (p a c : Addr) (d : CircD) (Gs : List GateD) (it gt rt ot : Addr) (ga ra oa : List Addr), vs = [.ref p, .ref c] ∧ PoolOk p a H ∧ CircAt H c d it gt rt ot ga ra oa ∧ CircWf 6 d Gs ∧
  ∀ (c' : Addr) (d' : CircD) (it gt rt ot : Addr) (ga ra oa : List Addr) (H' : Hp), Px p a H H' → CircAt H' c' d' it gt rt ot ga ra oa → (d' = d ∨ ∃ r0, EvD d d' r0) → Q (.ref c') H'
theorem sc_law_even : FnScope ["pool", "circuit", "first", "regs", "gates", "gate", "nets", "row", "net"] ["pool", "circuit"] (defScope s_law_even) := ⟨rfl, rfl, rfl, by decide +kernel, rfl, by decide +kernel, by decide +kernel⟩
theorem ok_law_even (D : Dfd K mg "_law_even" s_law_even ["pool", "circuit"]) (T : TxtS mg) (C1 : Has P w K mg base 2 "_law_draw" ["pool", "many"] spDrawX) : Has P w K mg base 3 "_law_even" ["pool", "circuit"] spEven := by
  obtain ⟨f_law_draw, d_law_draw, G_law_draw, g_law_draw, k_law_draw, b_law_draw⟩ := C1
  refine D.has fun f fd F => F.ok sc_law_even (fun vs H Q E h => ?_) (fun cdv A outer s H vs Q E hr h => ?_)
  · obtain ⟨p, a, c, d, Gs, it, gt, rt, ot, ga, ra, oa, rfl, _⟩ := h
    rfl
  · obtain ⟨p, a, c, d, Gs, it, gt, rt, ot, ga, ra, oa, rfl, hp, hc, W, q⟩ := h
    refine ⟨_, (pss_cut (ps_if (PW.pt (pw_or (pt_cmpR (op_eqD hr.units) (pe_ix ix_tup (pv 1) pe_int (fun _ _ => rfl)) (pe_tup pa_nil) (nomark _)) (pw_or1 (pt_cmpR op_eq (pe_call G_law_draw (hr.mono (by omega)) (by rfl) g_law_draw k_law_draw b_law_draw .nil pass0 (pa_cons (pv 0) (pa_cons pe_int pa_nil))) pe_int (nomark _)))))
      (pss_one (ps_ret (pv 1)))
      pss_nil)
    (pss_cons (ps_set (i := 2) sc_law_even.nd rfl (.inr rfl) (pe_ix ix_tup (pe_ix ix_tup (pv 1) pe_int (fun _ _ => rfl)) pe_int (fun _ _ => rfl)))
    (pss_cons (ps_setLc (i := 3) (own := [("row", 7)]) (g := gName 7) (tt := tYes) rfl sc_law_even.nd rfl rfl (sw_true rfl rfl rfl (by decide +kernel)) (pi_tup (pe_ix ix_tup (pv 1) pe_int (fun _ _ => rfl))) (blkOk_by (N := ["pool", "circuit", "first", "regs", "gates", "gate", "nets", "row", "net"]) (sc := defScope s_law_even) (own := [("row", 7)]) (by decide +kernel)) (fun _ _ _ _ _ => (pg_name (i := 7) sc_law_even.nd rfl (.inl rfl))) (fun _ _ _ _ _ => pts_nil) (fun _ _ _ _ _ => (pe_op (kCatA (K := K) rfl) (pe_op (kCatA (K := K) rfl) (pe_tup (pa_cons (pe_ix (kIxT (K := K) rfl) (pv 7) pe_int (fun _ _ => rfl)) (pa_cons (pe_ix (kIxT (K := K) rfl) (pv 7) pe_int (fun _ _ => rfl)) pa_nil))) (pe_slice (kSlA (K := K) rfl) (pv 2) (po_some pe_int) (po_some pe_int))) (pe_slice (kSlA (K := K) rfl) (pv 7) (po_some pe_int) po_none))))
    (pss_cons (ps_set (i := 4) sc_law_even.nd rfl (.inl rfl) (pe_lst pa_nil))
    (pss_cons (ps_for PassesOwn.never rfl (pi_tup (pe_ix ix_tup (pv 1) pe_int (fun _ _ => rfl))) (pg_name (i := 5) sc_law_even.nd rfl (.inl rfl))
      (pss_cons (ps_set (i := 6) sc_law_even.nd rfl (.inl rfl) (pe_ix ix_tup (pv 5) pe_int (fun _ _ => rfl)))
      (pss_cons (ps_if (pt_cmpR op_eq (pe_call G_law_draw (hr.mono (by omega)) (by rfl) g_law_draw k_law_draw b_law_draw .nil pass0 (pa_cons (pv 0) (pa_cons pe_int pa_nil))) pe_int (nomark _))
        (pss_one (ps_set (i := 6) sc_law_even.nd rfl (.inl rfl) (pe_callTy call_tuple_of (by rfl) T.tuple (by decide +kernel) (pa_cons (pe_lc (own := [("net", 8)]) (g := gName 8) (tt := tYes) rfl sc_law_even.nd (pi_tup (pe_ix ix_tup (pv 5) pe_int (fun _ _ => rfl))) (blkOk_by (N := ["pool", "circuit", "first", "regs", "gates", "gate", "nets", "row", "net"]) (sc := defScope s_law_even) (own := [("net", 8)]) (by decide +kernel)) (fun _ _ _ _ _ => (pg_name (i := 8) sc_law_even.nd rfl (.inl rfl))) (fun _ _ _ _ _ => pts_nil) (fun _ _ _ _ _ => (pe_ix (kIxT (K := K) rfl) (pe_ix (kIxT (K := K) rfl) (pe_ix (kIxT (K := K) rfl) (pv 1) pe_int (fun _ _ => rfl)) (pe_call G_law_draw (hr.mono (by omega)) (by rfl) g_law_draw k_law_draw b_law_draw .nil pass0 (pa_cons (pv 0) (pa_cons (pe_callB (kLen (K := K) rfl) (by rfl) T.len (by decide +kernel) (pa_cons (pe_ix (kIxT (K := K) rfl) (pv 1) pe_int (fun _ _ => rfl)) pa_nil)) pa_nil))) (fun _ _ => rfl)) pe_int (fun _ _ => rfl)))) pa_nil))))
        pss_nil)
      (pss_one (ps_expr (pe_bm PySem.F.plainAttrs_list PySem.F.slot_list_append PySem.F.type_list_append mt_append (pv 4) (pa_cons (pe_tup (pa_cons (pe_ix ix_tup (pv 5) pe_int (fun _ _ => rfl)) (pa_cons (pe_ix ix_tup (pv 5) pe_int (fun _ _ => rfl)) (pa_cons (pv 6) (pa_cons (pe_ix ix_tup (pv 5) pe_int (fun _ _ => rfl)) pa_nil))))) pa_nil)))))))
    (pss_one (ps_ret (pe_tup (pa_cons (pe_ix ix_tup (pv 1) pe_int (fun _ _ => rfl)) (pa_cons (pe_callTy call_tuple_of (by rfl) T.tuple (by decide +kernel) (pa_cons (pv 4) pa_nil)) (pa_cons (pe_callTy call_tuple_of (by rfl) T.tuple (by decide +kernel) (pa_cons (pv 3) pa_nil)) (pa_cons (pe_ix ix_tup (pv 1) pe_int (fun _ _ => rfl)) pa_nil)))))))))))), ?_⟩
    have S := sound_of W (by decide)
    have hrl := W.rlen
    have hgl := W.glen
    obtain ⟨hN, _⟩ := nets_of W (by decide)
    have hTx : TxN d := fun x hx => hN.tx x ((names_perm d).mem_iff.mp hx)
    have hrtx : ∀ r ∈ d.regs, RegTx r := fun r h1 => ⟨hTx _ (List.mem_append_right _ (List.mem_map.mpr ⟨r, h1, rfl⟩)), hTx _ (S.net _ (List.mem_append_left _ (List.mem_append_right _ (List.mem_map.mpr ⟨r, h1, rfl⟩))))⟩
    refine ⟨fun σ' G => Px p a H G ∧ σ' = [some (.ref p), some (.ref c), none, none, none, none, none, none, none] ∧ d.regs ≠ [], ?_, ?_⟩
    · refine ⟨_, rfl, _, _, _, _, rfl, rfl, SqT.of hc.top, atI_nat (j := 2) rfl, (by show 0 ≤ sizeLine; decide), fun t0 nt0 => ?_⟩
      have E1 := Ex.new (o := .tup []) nt0
      have X1 := (Px.refl hp).more E1
      refine ⟨_, _, dp_regsT (E1 _ _ hc.rgs) (hc.regs.imp fun _ _ z => z.te (.of E1)), .tup (SqT.of (xs := []) upd_same) .nil, shaped_regsT hrtx, shaped_nilT, _, rfl, ite2 (fun c1 => ?_) (fun c1 => ?_)⟩
      · exact iteT ⟨_, rfl, q c d it gt rt ot ga ra oa _ X1 (hc.te (.of E1)) (.inl rfl)⟩
      have hne : d.regs ≠ [] := fun z => c1 (by rw [z]; rfl)
      generalize upd H t0 (.tup []) = H1 at *
      refine ⟨_, rfl, p, a, 4, rfl, by decide, by decide, X1.pool, fun v1 H2 h2 X2 k2 => ⟨rfl, _, rfl, ite2 (fun c2 => ?_) (fun c2 => ?_)⟩⟩
      · exact ⟨_, rfl, q c d it gt rt ot ga ra oa _ (X1.trans X2) (hc.te (TEx.px (X1.trans X2))) (.inl rfl)⟩
      · exact ⟨X1.trans X2, rfl, hne⟩
    rintro σ' H1 ⟨X1, rfl, hne⟩
    obtain ⟨r0, rs0, hrs0⟩ : ∃ r0 rs0, d.regs = r0 :: rs0 := by
      cases e : d.regs with
      | nil => exact absurd e hne
      | cons r l => exact ⟨r, l, rfl⟩
    obtain ⟨a0, as0, has0⟩ : ∃ a0 as0, ra = a0 :: as0 := by
      cases e : ra with
      | nil => have := hc.regs.1; rw [e, hrs0] at this; cases this
      | cons a l => exact ⟨a, l, rfl⟩
    have hc1 := hc.te (TEx.px X1)
    have hr0 : RegAt H1 a0 r0 := hc1.regs.2 0 a0 r0 (by rw [has0]; rfl) (by rw [hrs0]; rfl)
    refine ⟨_, rfl, _, _, _, _, rfl, rfl, SqT.of hc1.top, atI_nat (j := 2) rfl, _, _, _, _, rfl, rfl, SqT.of hc1.rgs, atI_nat (j := 0) (by rw [has0]; rfl), ?_⟩
    -- regs
    refine ⟨_, rfl, _, _, _, _, rfl, rfl, SqT.of hc1.top, atI_nat (j := 2) rfl, rt, rfl, ⟨_, SqT.of hc1.rgs⟩, fun RL nRL => wk_tup (K := K) (a := rt) (xs := ra.map V.ref)
      (fun j G => Ex H1 G ∧ ∃ bs : List Addr, G RL = some (.lst (bs.map V.ref)) ∧ bs.length ≤ j ∧ All2 (RegAt G) bs ((d.regs.take j).map (evR r0))) ⟨Ex.new nRL, [], upd_same, Nat.le_refl _, by rw [List.take_zero]; exact .nil⟩ (fun j G _ z => SqT.of (z.1 _ _ hc1.rgs)) ?_ ?_⟩
    · rintro j y G hy ⟨EG, bs, hL, hbl, hB⟩
      obtain ⟨b, hb, rfl⟩ := refs_get hy
      obtain ⟨r, hr', ea, ob, b1, b2, b3⟩ := hc1.regs.at_ hb
      have hj : j < d.regs.length := (List.getElem?_eq_some_iff.mp hr').1
      refine ⟨(by rw [wipe_set (by decide), wipe_wipe]), tYes_in ?_⟩
      simp only [wipe, _root_.L2.start, List.map_cons, List.map_nil, List.length_cons, List.length_nil, Nat.reduceAdd, Nat.reduceSub, List.replicate_succ, List.replicate_zero, List.cons_append, List.nil_append, List.set_cons_zero, List.set_cons_succ]
      refine ⟨_, rfl, _, _, _, _, rfl, rfl, SqT.of (EG _ _ b1), atI_nat (j := 0) rfl, _, rfl, _, _, _, _, rfl, rfl, SqT.of (EG _ _ b1), atI_nat (j := 1) rfl, (by show 2 ≤ sizeLine; decide), fun u1 nu1 => ?_⟩
      have E2 := Ex.new (o := .tup [.str r.name, .str r.net]) nu1
      have hu1 : upd G u1 (.tup [.str r.name, .str r.net]) u1 = some (.tup [.str r.name, .str r.net]) := upd_same
      generalize upd G u1 (.tup [.str r.name, .str r.net]) = G1 at *
      refine ⟨_, rfl, 2, rfl, 6, rfl, cut_reg (hr0.te (.of (EG.trans E2))) fun tm G2 E3 htm => ?_⟩
      obtain ⟨ea0, ob0, ht1, ht2, ht3⟩ := id htm
      refine cat_tup (E3 _ _ hu1) ht1 (by show 6 ≤ sizeLine; decide) fun u2 G3 E4 hu2 => ?_
      refine ⟨_, rfl, 6, rfl, ?_⟩
      unfold tNoPart
      dsimp only
      refine cut_tup ((EG.trans (E2.trans (E3.trans E4))) _ _ b1) fun u3 G4 E5 hu3 => ?_
      have hu3' : G4 u3 = some (.tup [.bl r.start]) := hu3
      refine cat_tup (E5 _ _ hu2) hu3' (by show 7 ≤ sizeLine; decide) fun nb G5 E6 hnb => ?_
      have e25 := E2.trans (E3.trans (E4.trans (E5.trans E6)))
      have e3 := E4.trans (E5.trans E6)
      have hL5 := e25 _ _ hL
      have hnbR : RegAt G5 nb (evR r0 r) := ⟨ea0, ob0, hnb, e3 _ _ ht2, e3 _ _ ht3⟩
      have TM : TEx G5 (upd G5 RL (.lst (bs.map V.ref ++ [V.ref nb]))) := TEx.mut hL5
      refine ⟨_, hL5, sz_lt (by rw [List.length_map]; omega), (EG.trans e25).mut nRL, bs ++ [nb], by rw [upd_same, List.map_append]; rfl, by rw [List.length_append, List.length_singleton]; omega, ?_⟩
      rw [take_snoc1 hr', List.map_append]
      exact (hB.imp fun _ _ z => (z.te (.of e25)).te TM).snoc (hnbR.te TM)
    rintro H2 ⟨E2, bs, hL, hbl, hB⟩
    rw [List.length_map, hc1.regs.1, List.take_length] at hB
    have hc2 := hc1.te (.of E2)
    refine ⟨Nat.zero_le _, fun GL nGL => ?_⟩
    have X2 : Px p a H H2 := X1.more E2
    have X3 := X2.new (o := .lst []) nGL
    have X23 := (Px.refl X2.pool).new (o := .lst []) nGL
    have hGL3 : upd H2 GL (.lst []) GL = some (.lst []) := upd_same
    have GLp : GL ≠ p := X2.pool.ne nGL
    have hGLo := nGL
    have E3 := Ex.new (o := .lst []) nGL
    have hL3 := E3 _ _ hL
    have hB3 := hB.imp fun _ _ z => (show RegAt (upd H2 GL (.lst [])) _ _ from z.te (.of E3))
    generalize upd H2 GL (.lst []) = H3 at *
    have hc3 := hc2.te (.of E3)
    have RLp : RL ≠ p := X1.pool.ne nRL
    have hrnl : d.regs.length ≤ 3 := hrl
    have hr1 : 1 ≤ d.regs.length := by rw [hrs0, List.length_cons]; omega
    refine ⟨_, rfl, _, _, _, _, rfl, rfl, SqT.of hc3.top, atI_nat (j := 1) rfl, gt, rfl, ⟨_, SqT.of hc3.gts⟩, for_tup (K := K) (a := gt) (xs := ga.map V.ref)
      (fun i σ G => Px p a H2 G ∧ ∃ (gs' : List GateD) (as : List Addr) (y5 y6 : Option V), G GL = some (.lst (as.map V.ref)) ∧ All2 (GateAt G) as gs' ∧ All2 (EvG d) (d.gates.take i) gs' ∧ σ = [some (.ref p), some (.ref c), some (.ref a0), some (.ref RL), some (.ref GL), y5, y6, none, none])
      ⟨X23, [], [], _, _, hGL3, .nil, by rw [List.take_zero]; exact .nil, rfl⟩ (fun i σ G _ z => SqT.of (TEx.px z.1 _ _ hc2.gts)) ?_ ?_⟩
    · rintro i y σ G hy ⟨XG, gs', as, y5, y6, hGL, hA, hEv, rfl⟩
      obtain ⟨b, hb, rfl⟩ := refs_get hy
      obtain ⟨g, hg, hgat⟩ := hc2.gates.at_ hb
      have hgm := List.mem_of_getElem? hg
      have hi : i < d.gates.length := (List.getElem?_eq_some_iff.mp hg).1
      have hcG := hc2.te (TEx.px XG)
      obtain ⟨tt, pt, rgt, rga, a1, a2, a3, a4, a5⟩ := hgat.te (TEx.px XG)
      have hpl := (S.cnt g hgm).1
      refine ⟨_, rfl, _, _, _, _, rfl, rfl, SqT.of a1, atI_nat (j := 2) rfl, ?_⟩
      refine ⟨_, rfl, p, a, 2, rfl, by decide, by decide, XG.pool, fun v1 G1 h1 X1' k1 => ?_⟩
      refine ⟨rfl, _, rfl, ?_⟩
      have XG1 := XG.trans X1'
      have hGL1 : G1 GL = some (.lst (as.map V.ref)) := (k1 GL GLp).trans hGL
      have TG := TEx.px X1'
      have hA1 := hA.imp fun _ _ z => (show GateAt G1 _ _ from z.te TG)
      have fin : ∀ (nt cg : Addr) (G' : Hp) (ns : List Str), Px p a H2 G' → G' GL = some (.lst (as.map V.ref)) → All2 (GateAt G') as gs' → TEx G G' → G' nt = some (.tup (ns.map V.str)) → (ns = g.pins ∨ (ns.length = g.pins.length ∧ ∀ x ∈ ns, x ∈ d.regs.map (·.name))) → G' cg = none →
          (upd G' cg (.tup [.str g.name, .ref tt, .ref nt, .ref rgt])) GL = some (.lst (as.map V.ref)) ∧ (as.map V.ref).length < sizeLine ∧ Px p a H2 (upd (upd G' cg (.tup [.str g.name, .ref tt, .ref nt, .ref rgt])) GL (.lst (as.map V.ref ++ [.ref cg]))) ∧
          ∃ (gs'' : List GateD) (as'' : List Addr) (z5 z6 : Option V), (upd (upd G' cg (.tup [.str g.name, .ref tt, .ref nt, .ref rgt])) GL (.lst (as.map V.ref ++ [.ref cg]))) GL = some (.lst (as''.map V.ref)) ∧ All2 (GateAt (upd (upd G' cg (.tup [.str g.name, .ref tt, .ref nt, .ref rgt])) GL (.lst (as.map V.ref ++ [.ref cg])))) as'' gs'' ∧ All2 (EvG d) (d.gates.take (i + 1)) gs'' ∧
            [some (V.ref p), some (V.ref c), some (V.ref a0), some (V.ref RL), some (V.ref GL), some (V.ref b), some (V.ref nt), none, none] = [some (V.ref p), some (V.ref c), some (V.ref a0), some (V.ref RL), some (V.ref GL), z5, z6, none, none] := fun nt cg G' ns XG' hGL' hA' TG' hnt hns ncg => by
        have E1 := Ex.new (o := .tup [.str g.name, .ref tt, .ref nt, .ref rgt]) ncg
        have hcg : upd G' cg (.tup [.str g.name, .ref tt, .ref nt, .ref rgt]) cg = some (.tup [.str g.name, .ref tt, .ref nt, .ref rgt]) := upd_same
        generalize upd G' cg (.tup [.str g.name, .ref tt, .ref nt, .ref rgt]) = G2 at *
        have hGL2 := E1 _ _ hGL'
        have TM : TEx G2 (upd G2 GL (.lst (as.map V.ref ++ [.ref cg]))) := TEx.mut hGL2
        have TT := TG'.trans (.of E1)
        have hal : as.length ≤ 6 := by rw [hA'.1, ← hEv.1, List.length_take]; omega
        have hnew : GateAt G2 cg { g with pins := ns } := ⟨tt, nt, rgt, rga, hcg, TT _ _ a2, E1 _ _ hnt, TT _ _ a4, a5.imp fun _ _ z => TT _ _ z⟩
        refine ⟨hGL2, sz_lt (by rw [List.length_map]; omega), (XG'.more E1).mut nGL, gs' ++ [{ g with pins := ns }], as ++ [cg], _, _, by rw [upd_same, List.map_append]; rfl, ((hA'.imp fun _ _ z => (z.te (.of E1)).te TM)).snoc (hnew.te TM), ?_, rfl⟩
        rw [take_snoc1 hg]
        exact hEv.snoc ⟨rfl, rfl, rfl, hns⟩
      simp only [wipe, _root_.L2.start, List.map_cons, List.map_nil, List.length_cons, List.length_nil, Nat.reduceAdd, Nat.reduceSub, List.replicate_succ, List.replicate_zero, List.cons_append, List.nil_append, List.set_cons_zero, List.set_cons_succ]
      refine ite2 (fun c3 => ?_) (fun c3 => ?_)
      · refine ⟨_, rfl, _, _, _, _, rfl, rfl, SqT.of (TG _ _ a1), atI_nat (j := 2) rfl, pt, rfl, ⟨_, SqT.of (TG _ _ a3)⟩, fun NL nNL => wk_tup (K := K) (a := pt) (xs := g.pins.map V.str)
          (fun j G2 => Px p a G1 G2 ∧ ∃ ns : List Str, G2 NL = some (.lst (ns.map V.str)) ∧ ns.length = j ∧ ∀ x ∈ ns, x ∈ d.regs.map (·.name)) ⟨(Px.refl XG1.pool).new nNL, [], upd_same, rfl, fun _ h => nomatch h⟩ (fun j G2 _ z => SqT.of (TEx.px z.1 _ _ (TG _ _ a3))) ?_ ?_⟩
        · rintro j y G2 hy ⟨X2', ns, hNL, hnl, hns⟩
          have hj : j < g.pins.length := by have := (List.getElem?_eq_some_iff.mp hy).1; rw [List.length_map] at this; exact this
          have NLp : NL ≠ p := XG1.pool.ne nNL
          have hc2' := hc2.te (TEx.px (XG1.trans X2'))
          refine ⟨(by rw [wipe_set (by decide), wipe_wipe]), tYes_in ?_⟩
          simp only [wipe, _root_.L2.start, List.map_cons, List.map_nil, List.length_cons, List.length_nil, Nat.reduceAdd, Nat.reduceSub, List.replicate_succ, List.replicate_zero, List.cons_append, List.nil_append, List.set_cons_zero, List.set_cons_succ]
          have hral : (ra.map V.ref).length = d.regs.length := by rw [List.length_map, hc.regs.1]
          refine ⟨_, rfl, _, _, _, _, rfl, rfl, SqT.of hc2'.top, atI_nat (j := 2) rfl, _, rfl, _, rfl, _, _, _, _, rfl, rfl, SqT.of hc2'.top, atI_nat (j := 2) rfl, _, _, rfl, .inr (SqT.of hc2'.rgs), p, a, _, rfl, by rw [hral]; omega, by rw [hral]; omega, X2'.pool, fun v G3 hv X3' k3 => ?_⟩
          have hv' : v < d.regs.length := by rw [hral] at hv; omega
          have hva : v < ra.length := by rw [hc.regs.1]; exact hv'
          have hc3' := hc2'.te (TEx.px X3')
          obtain ⟨ea, ob, b1, b2, b3⟩ := hc3'.regs.2 v ra[v] d.regs[v] (List.getElem?_eq_getElem hva) (List.getElem?_eq_getElem hv')
          have hvr : (ra.map V.ref)[v]? = some (.ref ra[v]) := by rw [List.getElem?_map, List.getElem?_eq_getElem hva]; rfl
          have hNL3 := (k3 NL NLp).trans hNL
          refine ⟨_, _, _, _, rfl, rfl, SqT.of hc3'.rgs, atI_nat hvr, _, _, _, _, rfl, rfl, SqT.of b1, atI_nat (j := 0) rfl, _, hNL3, sz_lt (by rw [List.length_map]; omega), (X2'.trans X3').mut nNL, ns ++ [d.regs[v].name], by rw [upd_same, List.map_append]; rfl, by rw [List.length_append, List.length_singleton]; omega, fun x hx => ?_⟩
          rcases List.mem_append.mp hx with z | z
          · exact hns x z
          · rw [List.mem_singleton.mp z]; exact List.mem_map.mpr ⟨_, List.getElem_mem hv', rfl⟩
        · rintro G2 ⟨X2', ns, hNL, hnl, hns⟩
          rw [List.length_map] at hnl
          simp only [wipe, _root_.L2.start, List.map_cons, List.map_nil, List.length_cons, List.length_nil, Nat.reduceAdd, Nat.reduceSub, List.replicate_succ, List.replicate_zero, List.cons_append, List.nil_append, List.set_cons_zero, List.set_cons_succ]
          have hGL2 : G2 GL = some (.lst (as.map V.ref)) := X2'.at_ (by rw [hid_ne GLp]; exact hGL1)
          have TG2 := TG.trans (TEx.px X2')
          refine ⟨NL, _, rfl, .inl ⟨SqL.of hNL, fun nt nnt => ?_⟩⟩
          have E4 := Ex.new (o := .tup (ns.map V.str)) nnt
          have hnt : upd G2 nt (.tup (ns.map V.str)) nt = some (.tup (ns.map V.str)) := upd_same
          generalize upd G2 nt (.tup (ns.map V.str)) = G4 at *
          have TG4 := TG2.trans (.of E4)
          refine ⟨_, rfl, .inl ⟨rfl, _, SqL.of (E4 _ _ hGL2)⟩, _, rfl, _, _, _, _, rfl, rfl, SqT.of (TG4 _ _ a1), atI_nat (j := 0) rfl, _, rfl, _, _, _, _, rfl, rfl, SqT.of (TG4 _ _ a1), atI_nat (j := 1) rfl, _, rfl, _, rfl, _, _, _, _, rfl, rfl, SqT.of (TG4 _ _ a1), atI_nat (j := 3) rfl, (by show 4 ≤ sizeLine; decide), fun cg ncg => ?_⟩
          obtain ⟨f1, f2, f3⟩ := fin nt cg G4 ns (XG1.trans (X2'.more E4)) (E4 _ _ hGL2) (hA.imp fun _ _ z => z.te TG4) TG4 hnt (.inr ⟨hnl, hns⟩) ncg
          exact ⟨GL, _, _, rfl, rfl, f1, f2, f3⟩
      · refine ⟨_, rfl, .inl ⟨rfl, _, SqL.of hGL1⟩, _, rfl, _, _, _, _, rfl, rfl, SqT.of (TG _ _ a1), atI_nat (j := 0) rfl, _, rfl, _, _, _, _, rfl, rfl, SqT.of (TG _ _ a1), atI_nat (j := 1) rfl, _, rfl, _, rfl, _, _, _, _, rfl, rfl, SqT.of (TG _ _ a1), atI_nat (j := 3) rfl, (by show 4 ≤ sizeLine; decide), fun cg ncg => ?_⟩
        obtain ⟨f1, f2, f3⟩ := fin pt cg G1 g.pins XG1 hGL1 hA1 TG (TG _ _ a3) (.inl rfl) ncg
        exact ⟨GL, _, _, rfl, rfl, f1, f2, f3⟩
    rintro σ G ⟨XG, gs', as, y5, y6, hGL, hA, hEv, rfl⟩
    rw [List.length_map, hc3.gates.1, List.take_length] at hEv
    have X1G := X2.trans XG
    have hLG : G RL = some (.lst (bs.map V.ref)) := XG.at_ (by rw [hid_ne RLp]; exact hL)
    have hcG := hc.te (TEx.px X1G)
    have hBG := hB.imp fun _ _ z => (show RegAt G _ _ from z.te (TEx.px XG))
    refine ⟨_, rfl, _, _, _, _, rfl, rfl, SqT.of hcG.top, atI_nat (j := 0) rfl, _, rfl, GL, _, rfl, .inl ⟨SqL.of hGL, fun gt2 ngt2 => ⟨_, rfl, RL, _, rfl, .inl ⟨SqL.of (Ex.new ngt2 _ _ hLG), fun rt2 nrt2 => ?_⟩⟩⟩⟩
    have F1 := Ex.new (o := .tup (as.map V.ref)) ngt2
    have hgt2 : upd G gt2 (.tup (as.map V.ref)) gt2 = some (.tup (as.map V.ref)) := upd_same
    generalize upd G gt2 (.tup (as.map V.ref)) = G3 at *
    have F2 := Ex.new (o := .tup (bs.map V.ref)) nrt2
    have hrt2 : upd G3 rt2 (.tup (bs.map V.ref)) rt2 = some (.tup (bs.map V.ref)) := upd_same
    generalize upd G3 rt2 (.tup (bs.map V.ref)) = G4 at *
    have hc4 := hcG.te (.of (F1.trans F2))
    refine ⟨_, rfl, _, _, _, _, rfl, rfl, SqT.of hc4.top, atI_nat (j := 3) rfl, (by show 4 ≤ sizeLine; decide), fun fc nfc => ?_⟩
    have F3 := Ex.new (o := .tup [.ref it, .ref gt2, .ref rt2, .ref ot]) nfc
    have eG5 := F1.trans (F2.trans F3)
    exact q fc ⟨d.ins, gs', d.regs.map (evR r0), d.outs⟩ it gt2 rt2 ot as bs oa _ (X1G.more eG5) ⟨upd_same, F3 _ _ hc4.ins, F3 _ _ (F2 _ _ hgt2), F3 _ _ hrt2, F3 _ _ hc4.ots, hA.imp fun _ _ z => z.te (.of eG5), hBG.imp fun _ _ z => z.te (.of eG5), hc4.outs.imp fun _ _ z => F3 _ _ z⟩ (.inr ⟨r0, rfl, rfl, rfl, by rw [hrs0]; exact List.mem_cons_self, hEv⟩)
end
end G
namespace G
open PySem PySem.Spec PyProof.Rows L2 Evl TL
/-! ## what is drawn; _law_told -/
structure Dr (d : CircD) : Prop where
  S : Sound d
  few : FewE d
  tx : TxN d
  dtx : ∀ g ∈ d.gates, PyData.strOk (dN g.name) = true
  gl : d.gates.length ≤ 100
  sl : (srcs d).length ≤ 90
  nm : (namesD d).length ≤ 200
  sh : ∀ x ∈ namesD d, x.length ≤ 10
theorem circFew_of {d : CircD} (S : Sound d) : CircFew d := by
  have F := S.few
  have hn := F.nm
  unfold namesD at hn
  rw [List.length_append, List.length_append, List.length_map, List.length_map] at hn
  have h1 := F.gs
  have h2 := F.rs
  have h3 := F.os
  refine ⟨by omega, by omega, fun g hg => ?_, by omega, by omega⟩
  obtain ⟨a, b, c⟩ := S.cnt g hg
  have h2 : 2 ^ g.pins.length ≤ 64 := pow_le64 a
  omega
theorem dn_tx : ∀ k, k < 16 → PyData.strOk (dN (nm "g" k)) = true := by decide +kernel
theorem names_short {d : CircD} {Gs : List GateD} (W : CircWf 6 d Gs) : ∀ x ∈ namesD d, x.length ≤ 10 := fun x hx => by
  unfold namesD at hx
  rcases List.mem_append.mp hx with z | z
  · rcases List.mem_append.mp z with z | z
    · obtain ⟨n, _, h2, e⟩ := W.ins
      rw [e] at z
      obtain ⟨k, hk, rfl⟩ := List.mem_map.mp z
      exact nm_len15 "i" nmi_str k (by have := List.mem_range.mp hk; omega)
    · obtain ⟨g, hg, rfl⟩ := List.mem_map.mp z
      obtain ⟨k, hk, w⟩ := W.gate hg
      have := W.few
      rw [w.name]
      exact nm_len15 "g" nmg_str k (by omega)
  · obtain ⟨n, h2, e⟩ := W.regs
    rw [e] at z
    obtain ⟨k, hk, rfl⟩ := List.mem_map.mp z
    exact nm_len15 "r" nmr_str k (by have := List.mem_range.mp hk; omega)
theorem dr_of {d : CircD} {Gs : List GateD} (W : CircWf 6 d Gs) : Dr d := by
  have S := sound_of W (by decide)
  obtain ⟨hN, _⟩ := nets_of W (by decide)
  have h1 := W.glen
  have h2 := W.rlen
  have h3 := W.ilen
  have h4 := W.olen
  refine ⟨S, ⟨?_, by omega, by omega, by omega, fun x hx => by have := names_short W x hx; omega⟩, fun x hx => hN.tx x ((names_perm d).mem_iff.mp hx), fun g hg => ?_, by omega, by have := hN.fews; omega, ?_, names_short W⟩
  · unfold namesD
    rw [List.length_append, List.length_append, List.length_map, List.length_map]; omega
  · obtain ⟨k, hk, w⟩ := W.gate hg
    have := W.few
    rw [w.name]
    exact dn_tx k (by omega)
  · unfold namesD
    rw [List.length_append, List.length_append, List.length_map, List.length_map]; omega
theorem all2_map_eq {α β γ : Type} {R : α → β → Prop} {f : α → γ} {g : β → γ} {as : List α} {bs : List β} (h : All2 R as bs) (e : ∀ a b, R a b → g b = f a) : bs.map g = as.map f := by
  refine List.ext_getElem? fun i => ?_
  rw [List.getElem?_map, List.getElem?_map]
  cases h1 : as[i]? with
  | none =>
    rw [List.getElem?_eq_none_iff] at h1
    rw [List.getElem?_eq_none (by rw [← h.1]; exact h1)]; rfl
  | some a =>
    obtain ⟨b, h2, h3⟩ := h.at_ h1
    rw [h2]
    exact congrArg some (e a b h3)
theorem all2_mem {α β : Type} {R : α → β → Prop} {as : List α} {bs : List β} (h : All2 R as bs) {b : β} (hb : b ∈ bs) : ∃ a ∈ as, R a b := by
  obtain ⟨i, hi, e⟩ := List.getElem_of_mem hb
  have hi2 : i < as.length := by rw [h.1]; exact hi
  exact ⟨as[i], List.getElem_mem hi2, h.2 i as[i] b (List.getElem?_eq_getElem hi2) (by rw [List.getElem?_eq_getElem hi, e])⟩
theorem ev_dr {d d' : CircD} {Gs : List GateD} {r0 : RegD} (W : CircWf 6 d Gs) (h : EvD d d' r0) : Dr d' := by
  have R := dr_of W
  have S := R.S
  have hgn : gnames d' = gnames d := all2_map_eq h.gates fun a b z => z.name
  have hrn : d'.regs.map (·.name) = d.regs.map (·.name) := by rw [h.regs, List.map_map]; rfl
  have hrt : d'.regs.map (·.net) = d.regs.map (·.net) := by rw [h.regs, List.map_map]; rfl
  have hnm : namesD d' = namesD d := by
    unfold namesD
    rw [h.ins, hrn, show d'.gates.map (·.name) = gnames d' from rfl, hgn]; rfl
  have hgl : d'.gates.length = d.gates.length := h.gates.1.symm
  have hrl : d'.regs.length = d.regs.length := by rw [h.regs, List.length_map]
  have hrd : ∀ x ∈ readsD d', x ∈ namesD d' := fun x hx => by
    rw [hnm]
    unfold readsD at hx
    rcases List.mem_append.mp hx with z | z
    · rcases List.mem_append.mp z with z | z
      · obtain ⟨g', hg', hx'⟩ := List.mem_flatMap.mp z
        obtain ⟨g, hg, e⟩ := all2_mem h.gates hg'
        rcases e.pins with q | q
        · rw [q] at hx'
          exact S.net x (List.mem_append_left _ (List.mem_append_left _ (List.mem_flatMap.mpr ⟨g, hg, hx'⟩)))
        · exact List.mem_append_right _ (q.2 x hx')
      · rw [hrt] at z
        exact S.net x (List.mem_append_left _ (List.mem_append_right _ z))
    · rw [h.outs] at z
      exact S.net x (List.mem_append_right _ z)
  have hpl : ∀ g' ∈ d'.gates, ∃ g ∈ d.gates, EvG d g g' ∧ g'.pins.length = g.pins.length := fun g' hg' => by
    obtain ⟨g, hg, e⟩ := all2_mem h.gates hg'
    exact ⟨g, hg, e, by rcases e.pins with q | q; · rw [q]
                        · exact q.1⟩
  have S' : Sound d' := by
    refine ⟨⟨by rw [hnm]; exact S.nm.1, by rw [h.outs]; exact S.nm.2⟩, fun g' hg' => ?_, hrd, ⟨fun g' hg' => ?_, fun r' hr' => ?_⟩, ⟨by rw [hnm]; exact S.few.nm, by rw [hgl]; exact S.few.gs, by rw [hrl]; exact S.few.rs, by rw [h.outs]; exact S.few.os, fun g' hg' => ?_, fun r' hr' => ?_, fun x hx => ?_⟩, ?_⟩
    · obtain ⟨g, hg, e, l⟩ := hpl g' hg'
      obtain ⟨a, b, c⟩ := S.cnt g hg
      exact ⟨by rw [l]; exact a, by rw [e.rng, l]; exact b, by rw [e.tab, l]; exact c⟩
    · obtain ⟨g, hg, e, l⟩ := hpl g' hg'
      rw [e.rng]; exact S.rng.1 g hg
    · rw [h.regs] at hr'
      obtain ⟨r, hr1, rfl⟩ := List.mem_map.mp hr'
      have q : RegG r0 := S.rng.2 r0 h.head
      exact q
    · obtain ⟨g, hg, e, l⟩ := hpl g' hg'
      rw [e.name]; exact S.few.gn g hg
    · rw [h.regs] at hr'
      obtain ⟨r, hr1, rfl⟩ := List.mem_map.mp hr'
      exact S.few.rn r hr1
    · have h1 := hrd x hx
      rw [hnm] at h1
      have := names_short W x h1
      omega
    · obtain ⟨rank, hrk⟩ := S.rank
      refine ⟨rank, fun g' hg' x hx hxg => ?_⟩
      obtain ⟨g, hg, e, l⟩ := hpl g' hg'
      rw [hgn] at hxg
      rw [e.name]
      rcases e.pins with q | q
      · rw [q] at hx; exact hrk g hg x hx hxg
      · exact absurd (q.2 x hx) ((nd_parts S).2.2.2 x hxg)
  refine ⟨S', ⟨by rw [hnm]; exact R.few.nm, by rw [hgl]; exact R.few.gs, by rw [hrl]; exact R.few.rs, by rw [h.outs]; exact R.few.os, by rw [hnm]; exact R.few.tx⟩, fun x hx => R.tx x (by rw [← hnm]; exact hx), fun g' hg' => ?_, by rw [hgl]; exact R.gl, ?_, by rw [hnm]; exact R.nm, by rw [hnm]; exact R.sh⟩
  · obtain ⟨g, hg, e, l⟩ := hpl g' hg'
    rw [e.name]; exact R.dtx g hg
  · have : srcs d' = srcs d := by unfold srcs; rw [h.ins, hrn]
    rw [this]; exact R.sl
section
variable {P : Program} {w : World} {K : PySem.W.Frag} {mg : Str → Option Value} {base : Heap}
structure DuoM (K : PySem.W.Frag) (C U B S : Addr) (b0 b1 : Bool) : Prop where
  isc : ExcC K C
  k0 : PySem.W.kitOne K (.ref C) (.ref U) = some b0
  k1 : PySem.W.kitOne K (.ref C) (.ref B) = some b1
  hit : PySem.W.exmOne K (.ref C) (.ref S) = some true
def spTold78 : Sp := fun vs H Q _ => ∃ (c : Addr) (g : Int) (d : CircD) (it gt rt ot : Addr) (ga ra oa : List Addr) (b : Bool), vs = [.ref c, .int g] ∧ CircAt H c d it gt rt ot ga ra oa ∧ Sound d ∧ FewE d ∧ (srcs d).length ≤ 100 ∧
  ((¬ (0 ≤ g ∧ g < d.gates.length) ∧ b = true) ∨ ((∃ (k : Nat) (gd : GateD), g = (k : Int) ∧ d.gates[k]? = some gd ∧ (Mv d gd → ∀ ord, LOrd (needN (movD d k gd)) ord → DeepP (needN (movD d k gd)) ord)) ∧ b = false)) ∧
  ∀ (l : Addr) (H' : Hp), Ex H H' → H' l = some (.lst [.bl b, .bl !b]) → Q (.ref l) H'
theorem sc_law_told : FnScope ["circuit", "g", "e"] ["circuit", "g"] (defScope s_law_told) := ⟨rfl, rfl, rfl, by decide +kernel, rfl, by decide +kernel, by decide +kernel⟩
theorem ok_law_told {Ba Fa S : Addr} (D : Dfd K mg "_law_told" s_law_told ["circuit", "g"]) (T : TxtS mg) (g_BadArgument : mg "BadArgument" = some (.ref Ba)) (g_Refused : mg "Refused" = some (.ref Fa)) (gS : mg "SignoffError" = some (.ref S)) (t0 : DuoM K Ba Ba Fa S true false) (t1 : DuoM K Fa Ba Fa S false true)
    (C1 : HasX P w K mg base 6 "move_forward" ["circuit", "g"] (spMove Ba Fa)) : Has P w K mg base 7 "_law_told" ["circuit", "g"] spTold78 := by
  obtain ⟨f_move_forward, d_move_forward, G_move_forward, g_move_forward, k_move_forward, b_move_forward⟩ := C1
  refine D.has fun f fd F => F.ok sc_law_told (fun vs H Q E h => ?_) (fun cdv A outer s H vs Q E hr h => ?_)
  · obtain ⟨c, g, d, it, gt, rt, ot, ga, ra, oa, b, rfl, _⟩ := h
    rfl
  · obtain ⟨c, g, d, it, gt, rt, ot, ga, ra, oa, b, rfl, hc, hS, hF, hsl, hb, q⟩ := h
    refine ⟨_, (pss_cons (ps_try_as (c := .ref S) (i := 2) rfl rfl sc_law_told.nd rfl rfl ⟨rfl, by decide, .inl gS⟩ takes0
      (fun W pn xe tk hp => (pss_one (ps_expr (pe_callS G_move_forward (hr.mono (by omega)) rfl g_move_forward k_move_forward b_move_forward (fun σ => passAt tk σ) (pa_cons (pv 0) (pa_cons (pv 1) pa_nil))))))
      (fun a oe cls dd pn hz hf => (pss_one (ps_ret (pe_lst (pa_cons (pe_isE hz hf (fun D hz1 ic => pe_callB (call_isE ic hz1 hf) (by rfl) T.isinstance (by decide +kernel) (pa_cons (pv 2) (pa_cons (gRef rfl g_BadArgument) pa_nil)))) (pa_cons (pe_isE hz hf (fun D hz1 ic => pe_callB (call_isE ic hz1 hf) (by rfl) T.isinstance (by decide +kernel) (pa_cons (pv 2) (pa_cons (gRef rfl g_Refused) pa_nil)))) pa_nil)))))))
    (pss_one (ps_ret (pe_lst (pa_cons pe_bl (pa_cons pe_bl pa_nil)))))), ?_⟩
    have inR : ∀ (k : Nat) (gd : GateD), g = (k : Int) → d.gates[k]? = some gd → 0 ≤ g ∧ g < d.gates.length := fun k gd e1 e2 => by
      have := (List.getElem?_eq_some_iff.mp e2).1
      omega
    refine ⟨_, rfl, _, rfl, c, g, d, it, gt, rt, ot, ga, ra, oa, rfl, hc, hS, hF, hsl, fun hno H1 E1 => ?_, fun k gd e1 e2 nM H1 E1 => ?_, fun k gd e1 e2 M ord L => ⟨fun dp H1 E1 => ?_, fun nd c' it' gt' rt' ot' ga' ra' oa' H1 E1 hc' => ?_⟩⟩
    · obtain rfl : b = true := by
        rcases hb with z | z
        · exact z.2
        · obtain ⟨⟨k, gd, e1, e2, _⟩, _⟩ := z
          exact absurd (inR k gd e1 e2) hno
      exact ⟨true, t0.hit, fun _ a na => ⟨Ba, ⟨rfl, rfl, t0.isc⟩, _, rfl, .ref Ba, .ref Ba, true, rfl, (fun u hu => hu), t0.k0, Ba, ⟨rfl, rfl, t0.isc⟩, _, rfl, .ref Fa, .ref Fa, false, rfl, (fun u hu => hu), t0.k1, (by show 2 ≤ sizeLine; decide), fun l nl => q l _ (E1.trans (Ex.new nl)) upd_same⟩, fun q => nomatch q⟩
    · obtain rfl : b = false := by
        rcases hb with z | z
        · exact absurd (inR k gd e1 e2) z.1
        · exact z.2
      exact ⟨true, t1.hit, fun _ a na => ⟨Fa, ⟨rfl, rfl, t1.isc⟩, _, rfl, .ref Ba, .ref Ba, false, rfl, (fun u hu => hu), t1.k0, Fa, ⟨rfl, rfl, t1.isc⟩, _, rfl, .ref Fa, .ref Fa, true, rfl, (fun u hu => hu), t1.k1, (by show 2 ≤ sizeLine; decide), fun l nl => q l _ (E1.trans (Ex.new nl)) upd_same⟩, fun q => nomatch q⟩
    · obtain rfl : b = false := by
        rcases hb with z | z
        · exact absurd (inR k gd e1 e2) z.1
        · exact z.2
      exact ⟨true, t1.hit, fun _ a na => ⟨Fa, ⟨rfl, rfl, t1.isc⟩, _, rfl, .ref Ba, .ref Ba, false, rfl, (fun u hu => hu), t1.k0, Fa, ⟨rfl, rfl, t1.isc⟩, _, rfl, .ref Fa, .ref Fa, true, rfl, (fun u hu => hu), t1.k1, (by show 2 ≤ sizeLine; decide), fun l nl => q l _ (E1.trans (Ex.new nl)) upd_same⟩, fun q => nomatch q⟩
    · rcases hb with z | z
      · exact absurd (inR k gd e1 e2) z.1
      · obtain ⟨⟨k', gd', e1', e2', z⟩, _⟩ := z
        have ek : k' = k := by omega
        subst ek
        rw [e2] at e2'
        obtain rfl := Option.some.inj e2'
        exact absurd (z M ord L) nd
end
end G
namespace G
open PySem PySem.Spec PyProof.Rows L2 Evl TL
/-! ## a chain of gates -/
def dn (k : Nat) : Str := nm "d" k
def chG (k : Nat) : GateD := ⟨dn k, [true, false], [if k = 0 then "i" else dn (k - 1)], [(0, 2)]⟩
def chD (gs : List GateD) : CircD := ⟨["i"], gs, [], []⟩
theorem tl_dn (k : Nat) : tl (dn k) = 100 :: numL k := by
  unfold dn nm
  rw [tl_append, tl_num]; rfl
theorem dn_inj {a b : Nat} (h : dn a = dn b) : a = b := by
  have := congrArg tl h
  rw [tl_dn, tl_dn] at this
  exact numL_inj (List.cons.inj this).2
theorem dn_ne (k : Nat) : dn k ≠ ("i" : Str) := fun h => by
  have := congrArg tl h
  rw [tl_dn] at this
  exact absurd (List.cons.inj this).1 (by decide)
theorem dn_len {k : Nat} (h : k ≤ 200) : (dn k).length ≤ 10 := by
  have := numL_len (n := k) (k := 9) (by decide) (by omega)
  rw [len_tl, tl_dn, List.length_cons]; omega
section
variable {gs : List GateD} {n : Nat}
theorem ch_names (hp : gs.Perm ((List.range n).map chG)) : (gnames (chD gs)).Perm ((List.range n).map dn) := by
  have := hp.map (fun g : GateD => g.name)
  rw [List.map_map] at this
  exact this
theorem ch_nd (hp : gs.Perm ((List.range n).map chG)) : (gnames (chD gs)).Nodup := by
  rw [(ch_names hp).nodup_iff, List.nodup_iff_pairwise_ne, List.pairwise_map]
  exact List.nodup_range.imp fun h e => h (dn_inj e)
theorem ch_mem (hp : gs.Perm ((List.range n).map chG)) {g : GateD} : g ∈ gs ↔ ∃ k, k < n ∧ g = chG k := by
  rw [hp.mem_iff, List.mem_map]
  exact ⟨fun ⟨k, h, e⟩ => ⟨k, List.mem_range.mp h, e.symm⟩, fun ⟨k, h, e⟩ => ⟨k, List.mem_range.mpr h, e.symm⟩⟩
theorem ch_in (hp : gs.Perm ((List.range n).map chG)) {x : Str} : x ∈ gnames (chD gs) ↔ ∃ k, k < n ∧ x = dn k := by
  rw [(ch_names hp).mem_iff, List.mem_map]
  exact ⟨fun ⟨k, h, e⟩ => ⟨k, List.mem_range.mp h, e.symm⟩, fun ⟨k, h, e⟩ => ⟨k, List.mem_range.mpr h, e.symm⟩⟩
theorem ch_len (hp : gs.Perm ((List.range n).map chG)) : gs.length = n := by rw [hp.length_eq, List.length_map, List.length_range]
/-- where the k-th stands -/
def pos (gs : List GateD) (k : Nat) : Nat := (gnames (chD gs)).idxOf (dn k)
theorem pos_lt (hp : gs.Perm ((List.range n).map chG)) {k : Nat} (h : k < n) : pos gs k < gs.length := by
  have := List.idxOf_lt_length_iff.mpr ((ch_in hp).mpr ⟨k, h, rfl⟩)
  have e : (gnames (chD gs)).length = gs.length := List.length_map _
  rw [e] at this; exact this
theorem pos_name (hp : gs.Perm ((List.range n).map chG)) {k : Nat} (h : k < n) : (gnames (chD gs))[pos gs k]? = some (dn k) := by
  have := List.idxOf_lt_length_iff.mpr ((ch_in hp).mpr ⟨k, h, rfl⟩)
  unfold pos
  rw [List.getElem?_eq_getElem this]
  exact congrArg some (List.getElem_idxOf this)
theorem pos_gate (hp : gs.Perm ((List.range n).map chG)) {k : Nat} (h : k < n) : gs[pos gs k]? = some (chG k) := by
  have h1 := pos_name hp h
  have hl := pos_lt hp h
  have e : (gnames (chD gs))[pos gs k]? = (gs[pos gs k]?).map (fun g : GateD => g.name) := List.getElem?_map ..
  rw [e, List.getElem?_eq_getElem hl] at h1
  obtain ⟨j, hj, ej⟩ := (ch_mem hp).mp (List.getElem_mem hl)
  rw [List.getElem?_eq_getElem hl, ej]
  rw [ej] at h1
  have h2 : dn j = dn k := Option.some.inj h1
  rw [dn_inj h2]
theorem pos_inj (hp : gs.Perm ((List.range n).map chG)) {a b : Nat} (ha : a < n) (hb : b < n) (h : pos gs a = pos gs b) : a = b := by
  have h1 := pos_name hp ha
  rw [h, pos_name hp hb] at h1
  exact (dn_inj (Option.some.inj h1)).symm
theorem pos_all (hp : gs.Perm ((List.range n).map chG)) {f : Nat} (h : f < gs.length) : ∃ k, k < n ∧ f = pos gs k := by
  obtain ⟨k, hk, e⟩ := (ch_mem hp).mp (List.getElem_mem h)
  refine ⟨k, hk, ?_⟩
  have h1 : (gnames (chD gs))[f]? = some (dn k) := by
    have e2 : (gnames (chD gs))[f]? = (gs[f]?).map (fun g : GateD => g.name) := List.getElem?_map ..
    rw [e2, List.getElem?_eq_getElem h, e]; rfl
  obtain ⟨l1, x1⟩ := List.getElem?_eq_some_iff.mp h1
  obtain ⟨l2, x2⟩ := List.getElem?_eq_some_iff.mp (pos_name hp hk)
  exact (List.getElem_inj (ch_nd hp)).mp (x1.trans x2.symm)
theorem ch_need (hp : gs.Perm ((List.range n).map chG)) {k : Nat} (h : k < n) : (needN (chD gs)).getD (pos gs k) [] = if k = 0 then [] else [pos gs (k - 1)] := by
  rw [need_at (pos_gate hp h)]
  show (([if k = 0 then ("i" : Str) else dn (k - 1)].filter fun x => decide (x ∈ gnames (chD gs))).map fun x => (gnames (chD gs)).idxOf x) = _
  by_cases e : k = 0
  · rw [if_pos e, if_pos e]
    have : ("i" : Str) ∉ gnames (chD gs) := fun z => by
      obtain ⟨j, _, ej⟩ := (ch_in hp).mp z
      exact dn_ne j ej.symm
    rw [List.filter_cons, decide_eq_false this]; rfl
  · rw [if_neg e, if_neg e]
    have : dn (k - 1) ∈ gnames (chD gs) := (ch_in hp).mpr ⟨k - 1, by omega, rfl⟩
    rw [List.filter_cons, decide_eq_true this]; rfl
def chO (gs : List GateD) (n : Nat) : List Nat := (List.range n).map (pos gs)
theorem chO_len (gs : List GateD) (n : Nat) : (chO gs n).length = n := by unfold chO; rw [List.length_map, List.length_range]
theorem chO_at {k : Nat} (h : k < n) : (chO gs n)[k]? = some (pos gs k) := by unfold chO; rw [List.getElem?_map, List.getElem?_range h]; rfl
theorem chO_take {i : Nat} (h : i ≤ n) : (chO gs n).take i = chO gs i := by
  unfold chO
  rw [← List.map_take, List.take_range, Nat.min_eq_left h]
theorem chO_mem {x : Nat} : x ∈ chO gs n ↔ ∃ k, k < n ∧ x = pos gs k := by
  unfold chO
  rw [List.mem_map]
  exact ⟨fun ⟨k, h, e⟩ => ⟨k, List.mem_range.mp h, e.symm⟩, fun ⟨k, h, e⟩ => ⟨k, List.mem_range.mpr h, e.symm⟩⟩
theorem ch_ord (hp : gs.Perm ((List.range n).map chG)) : LOrd (needN (chD gs)) (chO gs n) := by
  have hnl : (needN (chD gs)).length = gs.length := need_len _
  have at_ : ∀ i k, (chO gs n)[i]? = some k → i < n ∧ k = pos gs i := fun i k h => by
    have hi : i < n := by have := (List.getElem?_eq_some_iff.mp h).1; rw [chO_len] at this; exact this
    rw [chO_at hi] at h
    exact ⟨hi, (Option.some.inj h).symm⟩
  refine ⟨?_, fun k hk => ?_, fun i k hi o ho => ?_, fun k hk _ => ?_, fun i k hi f hf hfo hfn => ?_⟩
  · rw [List.nodup_iff_pairwise_ne]
    refine List.pairwise_iff_getElem.mpr fun i j hi hj hij e => ?_
    rw [chO_len] at hi hj
    have e1 := chO_at (gs := gs) hi
    have e2 := chO_at (gs := gs) hj
    rw [List.getElem?_eq_getElem (by rw [chO_len]; exact hi)] at e1
    rw [List.getElem?_eq_getElem (by rw [chO_len]; exact hj)] at e2
    have := pos_inj hp hi hj ((Option.some.inj e1).symm.trans (e.trans (Option.some.inj e2)))
    omega
  · obtain ⟨j, hj, rfl⟩ := chO_mem.mp hk
    rw [hnl]; exact pos_lt hp hj
  · obtain ⟨h1, rfl⟩ := at_ i k hi
    rw [ch_need hp h1] at ho
    by_cases e : i = 0
    · rw [if_pos e] at ho; cases ho
    · rw [if_neg e] at ho
      rw [chO_take (by omega), List.mem_singleton.mp ho]
      exact chO_mem.mpr ⟨i - 1, by omega, rfl⟩
  · obtain ⟨j, hj, rfl⟩ := pos_all hp (by rw [hnl] at hk; exact hk)
    exact chO_mem.mpr ⟨j, hj, rfl⟩
  · obtain ⟨h1, rfl⟩ := at_ i k hi
    obtain ⟨j, hj, rfl⟩ := pos_all hp (by rw [hnl] at hf; exact hf)
    rw [chO_take (by omega)] at hfo hfn
    have hij : i ≤ j := Nat.not_lt.mp fun z => hfo (chO_mem.mpr ⟨j, z, rfl⟩)
    rw [ch_need hp hj] at hfn
    by_cases e : j = 0
    · have : i = j := by omega
      rw [this]; exact Nat.le_refl _
    · rw [if_neg e] at hfn
      obtain ⟨m, hm, em⟩ := chO_mem.mp (hfn _ (List.mem_singleton.mpr rfl))
      have := pos_inj hp (by omega) (by omega) em
      have : i = j := by omega
      rw [this]; exact Nat.le_refl _
theorem ch_lens (hp : gs.Perm ((List.range n).map chG)) : ∀ i, i ≤ n → ∀ j, j < i → lenF (needN (chD gs)) (chO gs i) (pos gs j) = j + 1
  | 0, _, j, h => absurd h (Nat.not_lt_zero _)
  | i + 1, hi, j, hj => by
    have ih := ch_lens hp i (by omega)
    have e : chO gs (i + 1) = chO gs i ++ [pos gs i] := by unfold chO; rw [List.range_succ, List.map_append]; rfl
    rw [e, lenF_snoc]
    unfold stepL
    by_cases ej : j = i
    · subst ej
      rw [if_pos rfl, ch_need hp (by omega)]
      by_cases e0 : j = 0
      · subst e0; rfl
      · rw [if_neg e0]
        show 1 + ([lenF (needN (chD gs)) (chO gs j) (pos gs (j - 1))].foldl max 0) = _
        rw [ih (j - 1) (by omega)]
        show 1 + max 0 (j - 1 + 1) = _
        omega
    · rw [if_neg fun z => ej (pos_inj hp (by omega) (by omega) z)]
      exact ih j (by omega)
theorem ch_deep (hp : gs.Perm ((List.range n).map chG)) : DeepP (needN (chD gs)) (chO gs n) ↔ 100 < n := by
  constructor
  · rintro ⟨i, k, hi, hd⟩
    have h1 : i < n := by have := (List.getElem?_eq_some_iff.mp hi).1; rw [chO_len] at this; exact this
    rw [chO_at h1] at hi
    rw [← Option.some.inj hi, chO_take (by omega), ch_lens hp (i + 1) (by omega) i (by omega)] at hd
    omega
  · intro h
    refine ⟨100, pos gs 100, chO_at h, ?_⟩
    rw [chO_take (by omega), ch_lens hp 101 (by omega) 100 (by omega)]
    omega
theorem ch_reads (hp : gs.Perm ((List.range n).map chG)) {x : Str} (h : x ∈ readsD (chD gs)) : x = "i" ∨ ∃ k, k < n ∧ x = dn k := by
  have h : x ∈ gs.flatMap (fun g : GateD => g.pins) ++ [] ++ [] := h
  rw [List.append_nil, List.append_nil] at h
  obtain ⟨g, hg, hx⟩ := List.mem_flatMap.mp h
  obtain ⟨k, hk, rfl⟩ := (ch_mem hp).mp hg
  have hx : x ∈ [if k = 0 then ("i" : Str) else dn (k - 1)] := hx
  rw [List.mem_singleton.mp hx]
  by_cases e : k = 0
  · rw [if_pos e]; exact .inl rfl
  · rw [if_neg e]; exact .inr ⟨k - 1, by omega, rfl⟩
theorem ch_sound (hp : gs.Perm ((List.range n).map chG)) (hn : n ≤ 150) : FewD (chD gs) ∧ NmD (chD gs) ∧ CntD (chD gs) ∧ NetD (chD gs) ∧ RngD (chD gs) ∧ GN (chD gs) := by
  have hl := ch_len hp
  have en : namesD (chD gs) = ("i" : Str) :: gnames (chD gs) := by
    show [("i" : Str)] ++ gs.map (fun g : GateD => g.name) ++ [] = _
    rw [List.append_nil]; rfl
  have eg : (gnames (chD gs)).length = gs.length := List.length_map _
  have hni : ("i" : Str) ∉ gnames (chD gs) := fun z => by
    obtain ⟨j, _, ej⟩ := (ch_in hp).mp z
    exact dn_ne j ej.symm
  have hgl : (chD gs).gates.length = n := hl
  have cnt : CntD (chD gs) := fun g hg => by
    obtain ⟨k, hk, rfl⟩ := (ch_mem hp).mp hg
    exact ⟨by show 1 ≤ 6; decide, rfl, rfl⟩
  refine ⟨⟨by rw [en, List.length_cons]; omega, by omega, Nat.zero_le _, Nat.zero_le _, fun g hg => ?_, (fun _ h => nomatch h), fun x hx => ?_⟩, ⟨by rw [en]; exact List.nodup_cons.mpr ⟨hni, ch_nd hp⟩, List.nodup_nil⟩, cnt, fun x hx => ?_, ⟨fun g hg r hr => ?_, (fun _ h => nomatch h)⟩, ⟨ch_nd hp, by omega, fun g hg => by have := (cnt g hg).1; omega⟩⟩
  · obtain ⟨k, hk, rfl⟩ := (ch_mem hp).mp hg
    have := dn_len (k := k) (by omega)
    show (dn k).length ≤ 1000
    omega
  · rcases ch_reads hp hx with e | ⟨k, hk, e⟩
    · rw [e]; decide
    · rw [e]
      have := dn_len (k := k) (by omega)
      omega
  · rw [en]
    rcases ch_reads hp hx with e | ⟨k, hk, e⟩
    · rw [e]; exact List.mem_cons_self ..
    · rw [e]; exact List.mem_cons_of_mem _ ((ch_in hp).mpr ⟨k, hk, rfl⟩)
  · obtain ⟨k, hk, rfl⟩ := (ch_mem hp).mp hg
    have hr : r ∈ [((0 : Int), (2 : Int))] := hr
    rw [List.mem_singleton.mp hr]
    exact ⟨by decide, by decide⟩
end
end G
namespace G
open PySem PySem.Spec PyProof.Rows L2 Evl TL
/-! ## the long circuit -/
def preN (n : Nat) : Str := if n = 0 then "i" else dn (n - 1)
def lastG : GateD := ⟨"g", [false, true], ["r"], [(1, 3)]⟩
def regL (n : Nat) (b : Bool) : RegD := ⟨"r", preN n, (0, 1), (1, 2), 0, 1, b⟩
def lgD (n : Nat) (b : Bool) : CircD := ⟨["i"], (List.range n).map chG ++ [lastG], [regL n b], [("p", "g")]⟩
theorem dn_nef {k : Nat} {x : Str} (h : (tl x).head? ≠ some 100) : dn k ≠ x := fun e => by
  rw [← e, tl_dn] at h
  exact h rfl
theorem dn_g (k : Nat) : dn k ≠ ("g" : Str) := dn_nef (by decide)
theorem dn_r (k : Nat) : dn k ≠ ("r" : Str) := dn_nef (by decide)
theorem dn_gd (k : Nat) : dn k ≠ ("g/d" : Str) := dn_nef (by decide)
theorem dn_i (k : Nat) : dn k ≠ ("i" : Str) := dn_nef (by decide)
section
variable {n : Nat} {b : Bool}
theorem lg_names (n : Nat) (b : Bool) : namesD (lgD n b) = [("i" : Str)] ++ ((List.range n).map dn ++ [("g" : Str)]) ++ [("r" : Str)] := by
  show [("i" : Str)] ++ (((List.range n).map chG ++ [lastG]).map fun g : GateD => g.name) ++ [("r" : Str)] = _
  rw [List.map_append, List.map_map]; rfl
theorem lg_gn (n : Nat) (b : Bool) : gnames (lgD n b) = (List.range n).map dn ++ [("g" : Str)] := by
  show (((List.range n).map chG ++ [lastG]).map fun g : GateD => g.name) = _
  rw [List.map_append, List.map_map]; rfl
theorem lg_mem {x : Str} : x ∈ namesD (lgD n b) ↔ x = "i" ∨ (∃ k, k < n ∧ x = dn k) ∨ x = "g" ∨ x = "r" := by
  rw [lg_names]
  simp only [List.mem_append, List.mem_singleton, List.mem_map, List.mem_range]
  constructor
  · rintro ((h | (⟨k, h1, h2⟩ | h)) | h)
    · exact .inl h
    · exact .inr (.inl ⟨k, h1, h2.symm⟩)
    · exact .inr (.inr (.inl h))
    · exact .inr (.inr (.inr h))
  · rintro (h | ⟨k, h1, h2⟩ | h | h)
    · exact .inl (.inl h)
    · exact .inl (.inr (.inl ⟨k, h1, h2.symm⟩))
    · exact .inl (.inr (.inr h))
    · exact .inr h
theorem dns_nd (n : Nat) : ((List.range n).map dn).Nodup := by
  rw [List.nodup_iff_pairwise_ne, List.pairwise_map]
  exact List.nodup_range.imp fun h e => h (dn_inj e)
theorem lg_nd : (namesD (lgD n b)).Nodup := by
  rw [lg_names, List.append_assoc, List.singleton_append, List.nodup_cons, List.append_assoc, List.nodup_append]
  refine ⟨fun h => ?_, dns_nd n, by decide, fun x hx y hy e => ?_⟩
  · rcases List.mem_append.mp h with z | z
    · obtain ⟨k, _, e⟩ := List.mem_map.mp z
      exact dn_i k e
    · exact absurd z (by decide)
  · obtain ⟨k, _, rfl⟩ := List.mem_map.mp hx
    subst e
    have : dn k = "g" ∨ dn k = "r" := by simpa using hy
    rcases this with z | z
    · exact dn_g k z
    · exact dn_r k z
theorem pre_mem : preN n ∈ namesD (lgD n b) := by
  unfold preN
  by_cases e : n = 0
  · rw [if_pos e]; exact lg_mem.mpr (.inl rfl)
  · rw [if_neg e]; exact lg_mem.mpr (.inr (.inl ⟨n - 1, by omega, rfl⟩))
theorem lg_gate {g : GateD} (h : g ∈ (lgD n b).gates) : (∃ k, k < n ∧ g = chG k) ∨ g = lastG := by
  rcases List.mem_append.mp h with z | z
  · obtain ⟨k, hk, e⟩ := List.mem_map.mp z
    exact .inl ⟨k, List.mem_range.mp hk, e.symm⟩
  · exact .inr (List.mem_singleton.mp z)
theorem lg_len : (lgD n b).gates.length = n + 1 := by
  show ((List.range n).map chG ++ [lastG]).length = _
  rw [List.length_append, List.length_map, List.length_range]; rfl
theorem dn_txL : ∀ k, k < 101 → PyData.strOk (dn k) = true := by decide +kernel
theorem dnd_txL : ∀ k, k < 101 → PyData.strOk (dN (dn k)) = true := by decide +kernel
theorem lg_tx (hn : n ≤ 100) : TxN (lgD n b) := fun x hx => by
  rcases lg_mem.mp hx with h | ⟨k, hk, h⟩ | h | h
  · rw [h]; decide +kernel
  · rw [h]; exact dn_txL k (by omega)
  · rw [h]; decide +kernel
  · rw [h]; decide +kernel
theorem lg_short (hn : n ≤ 100) : ∀ x ∈ namesD (lgD n b), x.length ≤ 10 := fun x hx => by
  rcases lg_mem.mp hx with h | ⟨k, hk, h⟩ | h | h
  · rw [h]; decide
  · rw [h]; exact dn_len (by omega)
  · rw [h]; decide
  · rw [h]; decide
theorem lg_at {k : Nat} (h : k < n) : (lgD n b).gates[k]? = some (chG k) := by
  show ((List.range n).map chG ++ [lastG])[k]? = _
  rw [List.getElem?_append_left (by rw [List.length_map, List.length_range]; exact h), List.getElem?_map, List.getElem?_range h]; rfl
theorem lg_last : (lgD n b).gates[n]? = some lastG := by
  show ((List.range n).map chG ++ [lastG])[n]? = _
  rw [List.getElem?_append_right (by rw [List.length_map, List.length_range]; exact Nat.le_refl _), List.length_map, List.length_range, Nat.sub_self]; rfl
theorem lg_sound (hn : n ≤ 100) : Sound (lgD n b) := by
  have hlen : (namesD (lgD n b)).length = n + 3 := by
    rw [lg_names]
    simp only [List.length_append, List.length_map, List.length_range, List.length_singleton]
    omega
  have hrd : ∀ x ∈ readsD (lgD n b), x ∈ namesD (lgD n b) := fun x hx => by
    unfold readsD at hx
    rcases List.mem_append.mp hx with z | z
    · rcases List.mem_append.mp z with z | z
      · obtain ⟨g, hg, hx⟩ := List.mem_flatMap.mp z
        rcases lg_gate hg with ⟨k, hk, e⟩ | e
        · subst e
          have hx : x ∈ [if k = 0 then ("i" : Str) else dn (k - 1)] := hx
          rw [List.mem_singleton.mp hx]
          by_cases e : k = 0
          · rw [if_pos e]; exact lg_mem.mpr (.inl rfl)
          · rw [if_neg e]; exact lg_mem.mpr (.inr (.inl ⟨k - 1, by omega, rfl⟩))
        · subst e
          have hx : x ∈ [("r" : Str)] := hx
          rw [List.mem_singleton.mp hx]
          exact lg_mem.mpr (.inr (.inr (.inr rfl)))
      · have z : x ∈ [preN n] := z
        rw [List.mem_singleton.mp z]; exact pre_mem
    · have z : x ∈ [("g" : Str)] := z
      rw [List.mem_singleton.mp z]
      exact lg_mem.mpr (.inr (.inr (.inl rfl)))
  have hsh := lg_short (b := b) hn
  refine ⟨⟨lg_nd, by show ([("p" : Str)]).Nodup; decide⟩, fun g hg => ?_, hrd, ⟨fun g hg r hr => ?_, fun r hr => ?_⟩, ⟨by rw [hlen]; omega, by rw [lg_len]; omega, by show 1 ≤ 200; decide, by show 1 ≤ 200; decide, fun g hg => ?_, fun r hr => ?_, fun x hx => ?_⟩, ?_⟩
  · rcases lg_gate hg with ⟨k, hk, e⟩ | e
    · subst e; exact ⟨by show 1 ≤ 6; decide, rfl, rfl⟩
    · subst e; exact ⟨by decide, rfl, rfl⟩
  · rcases lg_gate hg with ⟨k, hk, e⟩ | e
    · subst e
      have hr : r ∈ [((0 : Int), (2 : Int))] := hr
      rw [List.mem_singleton.mp hr]; exact ⟨by decide, by decide⟩
    · subst e
      have hr : r ∈ [((1 : Int), (3 : Int))] := hr
      rw [List.mem_singleton.mp hr]; exact ⟨by decide, by decide⟩
  · rw [List.mem_singleton.mp hr]
    have q : RegG ⟨"r", "i", (0, 1), (1, 2), 0, 1, true⟩ := ⟨⟨⟨by decide, by decide⟩, ⟨by decide, by decide⟩⟩, by decide, by decide, by decide⟩
    exact q
  · have := hsh g.name (List.mem_append_left _ (List.mem_append_right _ (List.mem_map.mpr ⟨g, hg, rfl⟩))); omega
  · have := hsh r.name (List.mem_append_right _ (List.mem_map.mpr ⟨r, hr, rfl⟩)); omega
  · have := hsh x (hrd x hx); omega
  · have hgd : (gnames (lgD n b)).Nodup := by
      rw [lg_gn, List.nodup_append]
      exact ⟨dns_nd n, by decide, fun x hx y hy e => by
        obtain ⟨k, _, rfl⟩ := List.mem_map.mp hx
        rw [List.mem_singleton.mp hy] at e
        exact dn_g k e⟩
    have ix : ∀ k, k < n → (gnames (lgD n b)).idxOf (dn k) = k := fun k hk => by
      have h1 : (gnames (lgD n b))[k]? = some (dn k) := by unfold gnames; rw [List.getElem?_map, lg_at hk]; rfl
      obtain ⟨hl, e⟩ := List.getElem?_eq_some_iff.mp h1
      rw [← e]
      exact hgd.idxOf_getElem k hl
    refine ⟨fun x => (gnames (lgD n b)).idxOf x, fun g hg x hx hxg => ?_⟩
    rcases lg_gate hg with ⟨k, hk, e⟩ | e
    · subst e
      have hx : x ∈ [if k = 0 then ("i" : Str) else dn (k - 1)] := hx
      rw [List.mem_singleton.mp hx] at hxg ⊢
      by_cases e : k = 0
      · rw [if_pos e, lg_gn] at hxg
        rcases List.mem_append.mp hxg with z | z
        · obtain ⟨j, _, ej⟩ := List.mem_map.mp z
          exact absurd ej (dn_i j)
        · exact absurd z (by decide)
      · rw [if_neg e]
        show (gnames (lgD n b)).idxOf (dn (k - 1)) < (gnames (lgD n b)).idxOf (dn k)
        rw [ix _ (by omega), ix _ hk]; omega
    · subst e
      have hx : x ∈ [("r" : Str)] := hx
      rw [List.mem_singleton.mp hx, lg_gn] at hxg
      rcases List.mem_append.mp hxg with z | z
      · obtain ⟨j, _, ej⟩ := List.mem_map.mp z
        exact absurd ej (dn_r j)
      · exact absurd z (by decide)
theorem lg_few (hn : n ≤ 100) : FewE (lgD n b) := by
  have hlen : (namesD (lgD n b)).length = n + 3 := by
    rw [lg_names]
    simp only [List.length_append, List.length_map, List.length_range, List.length_singleton]
    omega
  exact ⟨by rw [hlen]; omega, by rw [lg_len]; omega, by show 1 ≤ 190; decide, by show 1 ≤ 190; decide, fun x hx => by have := lg_short hn x hx; omega⟩
theorem lg_read : readM (lgD n b) lastG = [regL n b] := rfl
theorem lg_mv : Mv (lgD n b) lastG := by
  refine ⟨by decide, rfl, fun r hr => ?_, fun h => ?_⟩
  · rw [lg_read] at hr ⊢
    rw [List.mem_singleton.mp hr]; rfl
  · have e : dN lastG.name = "g/d" := by decide +kernel
    rw [e] at h
    rcases lg_mem.mp h with h | ⟨k, hk, h⟩ | h | h
    · exact absurd h (by decide)
    · exact dn_gd k h.symm
    · exact absurd h (by decide)
    · exact absurd h (by decide)
theorem lg_need (b : Bool) : needN (movD (lgD 100 b) 100 lastG) = needN (chD ((List.range 101).map chG)) := by
  cases b <;> decide +kernel
theorem lg_deep (b : Bool) {ord : List Nat} (L : LOrd (needN (movD (lgD 100 b) 100 lastG)) ord) : DeepP (needN (movD (lgD 100 b) 100 lastG)) ord := by
  rw [lg_need] at L ⊢
  have hp := List.Perm.refl ((List.range 101).map chG)
  obtain rfl := LOrd.one (ch_ord hp) L
  exact (ch_deep hp).mpr (by decide)
end
end G
namespace G
open PySem PySem.Spec PyProof.Rows L2 Evl TL
/-! ## _law_long -/
section
variable {P : Program} {w : World} {K : PySem.W.Frag} {mg : Str → Option Value} {base : Heap}
def spLong : Sp := fun vs H Q _ => ∃ (p a : Addr) (n : Nat), vs = [.ref p, .int (n : Int)] ∧ n ≤ 100 ∧ PoolOk p a H ∧ ∀ (c : Addr) (b : Bool) (it gt rt ot : Addr) (ga ra oa : List Addr) (H' : Hp), Px p a H H' → CircAt H' c (lgD n b) it gt rt ot ga ra oa → Q (.ref c) H'
theorem sc_law_long : FnScope ["pool", "many", "times", "gates", "k", "regs"] ["pool", "many"] (defScope s_law_long) := ⟨rfl, rfl, rfl, by decide +kernel, rfl, by decide +kernel, by decide +kernel⟩
theorem ok_law_long (D : Dfd K mg "_law_long" s_law_long ["pool", "many"]) (T : TxtS mg) (C1 : Has P w K mg base 2 "_law_draw" ["pool", "many"] spDrawX) : Has P w K mg base 3 "_law_long" ["pool", "many"] spLong := by
  obtain ⟨f_law_draw, d_law_draw, G_law_draw, g_law_draw, k_law_draw, b_law_draw⟩ := C1
  refine D.has fun f fd F => F.ok sc_law_long (fun vs H Q E h => ?_) (fun cdv A outer s H vs Q E hr h => ?_)
  · obtain ⟨p, a, n, rfl, _⟩ := h
    rfl
  · obtain ⟨p, a, n, rfl, hn, hp, q⟩ := h
    refine ⟨_, (pss_cons (ps_set (i := 2) sc_law_long.nd rfl (.inl rfl) (pe_tup (pa_cons (pe_tup (pa_cons pe_int (pa_cons pe_int pa_nil))) (pa_cons (pe_tup (pa_cons pe_int (pa_cons pe_int pa_nil))) (pa_cons pe_int (pa_cons pe_int (pa_cons (pe_cmpR op_eq (pe_call G_law_draw (hr.mono (by omega)) (by rfl) g_law_draw k_law_draw b_law_draw .nil pass0 (pa_cons (pv 0) (pa_cons pe_int pa_nil))) pe_int (nomark _)) pa_nil)))))))
    (pss_cons (ps_set (i := 3) sc_law_long.nd rfl (.inl rfl) (pe_lst pa_nil))
    (pss_cons (ps_for PassesOwn.never rfl (pi_range1 rfl T.range (pa_cons (pv 1) pa_nil)) (pg_name (i := 4) sc_law_long.nd rfl (.inl rfl))
      (pss_one (ps_expr (pe_bm PySem.F.plainAttrs_list PySem.F.slot_list_append PySem.F.type_list_append mt_append (pv 3) (pa_cons (pe_tup (pa_cons (pe_op op_add_str pe_str (pe_callTy call_str_int (by rfl) T.str (by decide +kernel) (pa_cons (pv 4) pa_nil))) (pa_cons (pe_tup (pa_cons pe_bl (pa_cons pe_bl pa_nil))) (pa_cons (pe_tup (pa_cons (pe_ix ix_list (pe_lst (pa_cons (pe_op op_add_str pe_str (pe_callTy call_str_int (by rfl) T.str (by decide +kernel) (pa_cons (pe_op op_sub (pv 4) pe_int) pa_nil))) (pa_cons pe_str pa_nil))) (pe_callTy call_int1 (by rfl) T.int (by decide +kernel) (pa_cons (pe_cmpR op_eq (pv 4) pe_int (nomark _)) pa_nil)) (fun _ _ => rfl)) pa_nil)) (pa_cons (pe_tup (pa_cons (pe_tup (pa_cons pe_int (pa_cons pe_int pa_nil))) pa_nil)) pa_nil))))) pa_nil)))))
    (pss_cons (ps_expr (pe_bm PySem.F.plainAttrs_list PySem.F.slot_list_append PySem.F.type_list_append mt_append (pv 3) (pa_cons (pe_tup (pa_cons pe_str (pa_cons (pe_tup (pa_cons pe_bl (pa_cons pe_bl pa_nil))) (pa_cons (pe_tup (pa_cons pe_str pa_nil)) (pa_cons (pe_tup (pa_cons (pe_tup (pa_cons pe_int (pa_cons pe_int pa_nil))) pa_nil)) pa_nil))))) pa_nil)))
    (pss_cons (ps_set (i := 5) sc_law_long.nd rfl (.inl rfl) (pe_tup (pa_cons (pe_op op_catA (pe_tup (pa_cons pe_str (pa_cons (pe_ix ix_list (pe_lst (pa_cons (pe_op op_add_str pe_str (pe_callTy call_str_int (by rfl) T.str (by decide +kernel) (pa_cons (pe_op op_sub (pv 1) pe_int) pa_nil))) (pa_cons pe_str pa_nil))) (pe_callTy call_int1 (by rfl) T.int (by decide +kernel) (pa_cons (pe_cmpR op_eq (pv 1) pe_int (nomark _)) pa_nil)) (fun _ _ => rfl)) pa_nil))) (pv 2)) pa_nil)))
    (pss_one (ps_ret (pe_tup (pa_cons (pe_tup (pa_cons pe_str pa_nil)) (pa_cons (pe_callTy call_tuple_of (by rfl) T.tuple (by decide +kernel) (pa_cons (pv 3) pa_nil)) (pa_cons (pv 5) (pa_cons (pe_tup (pa_cons (pe_tup (pa_cons pe_str (pa_cons pe_str pa_nil))) pa_nil)) pa_nil)))))))))))), ?_⟩
    refine ⟨(by show 2 ≤ sizeLine; decide), fun u1 nu1 => ⟨(by show 2 ≤ sizeLine; decide), fun u2 nu2 => ?_⟩⟩
    have E1 := (Ex.new (o := .tup [.int 0, .int 1]) nu1).trans (Ex.new (o := .tup [.int 1, .int 2]) nu2)
    have hu1 := Ex.new (o := .tup [.int 1, .int 2]) nu2 _ _ (upd_same (H := H) (a := u1) (o := .tup [.int 0, .int 1]))
    have hu2 : upd (upd H u1 (.tup [.int 0, .int 1])) u2 (.tup [.int 1, .int 2]) u2 = some (.tup [.int 1, .int 2]) := upd_same
    generalize upd (upd H u1 (.tup [.int 0, .int 1])) u2 (.tup [.int 1, .int 2]) = H1 at *
    have X1 := (Px.refl hp).more E1
    refine ⟨_, rfl, p, a, 2, rfl, by decide, by decide, X1.pool, fun v H2 hv X2 k2 => ⟨rfl, (by show 5 ≤ sizeLine; decide), fun tm ntm => ?_⟩⟩
    generalize hb : decide (V.int (v : Int) = V.int 1) = b
    have hu1' := TEx.px X2 _ _ hu1
    have hu2' := TEx.px X2 _ _ hu2
    have X3 := (X1.trans X2).new (o := .tup [.ref u1, .ref u2, .int 0, .int 1, .bl b]) ntm
    have E3 := Ex.new (o := .tup [.ref u1, .ref u2, .int 0, .int 1, .bl b]) ntm
    have htm : upd H2 tm (.tup [.ref u1, .ref u2, .int 0, .int 1, .bl b]) tm = some (.tup [.ref u1, .ref u2, .int 0, .int 1, .bl b]) := upd_same
    have hu1 := E3 _ _ hu1'
    have hu2 := E3 _ _ hu2'
    generalize upd H2 tm (.tup [.ref u1, .ref u2, .int 0, .int 1, .bl b]) = H3 at *
    refine ⟨Nat.zero_le _, fun AL nAL => ?_⟩
    have EA := Ex.new (o := .lst []) nAL
    have hAL : upd H3 AL (.lst []) AL = some (.lst []) := upd_same
    refine ⟨_, rfl, _, rfl, by omega, by omega, for_range (n := ((n : Nat) : Int).toNat)
      (fun i σ H' => Ex H3 H' ∧ ∃ (as : List Addr) (x4 : Option V), H' AL = some (.lst (as.map V.ref)) ∧ All2 (GateAt H') as ((List.range i).map chG) ∧ σ = [some (.ref p), some (.int (n : Nat)), some (.ref tm), some (.ref AL), x4, none])
      ⟨EA, [], _, hAL, .nil, rfl⟩ ?_ ?_⟩
    · rintro i σ H5 hi ⟨E5, as, x6, hA, hG, rfl⟩
      rw [Int.toNat_natCast] at hi
      have hlg : ((i : Nat) : Int).natAbs.log2 < 1920 := by
        have : (i : Int).natAbs < 2 ^ 30 := by rw [Int.natAbs_natCast]; omega
        have := PySem.Flt.log2_lt_of (by decide : 0 < 30) this
        omega
      have hlg1 : ((i : Nat) - 1 : Int).natAbs.log2 < 1920 := by
        have : ((i : Nat) - 1 : Int).natAbs < 2 ^ 30 := by omega
        have := PySem.Flt.log2_lt_of (by decide : 0 < 30) this
        omega
      have hl1 : ("d" : Str).length = 1 := rfl
      have hli : (Str.ofString (toString ((i : Nat) : Int))).length ≤ 9 := by
        rw [len_tl, tl_num]
        exact numL_len (k := 9) (by decide) (by omega)
      have hlm : (Str.ofString (toString ((i : Nat) - 1 : Int))).length ≤ 9 := by
        by_cases e : i = 0
        · subst e; decide
        · rw [show ((i : Nat) - 1 : Int) = ((i - 1 : Nat) : Int) by omega, len_tl, tl_num]
          exact numL_len (k := 9) (by decide) (by omega)
      rw [Int.zero_add]
      refine ⟨_, rfl, .inl ⟨rfl, _, SqL.of hA⟩, _, rfl, _, rfl, hlg, _, _, rfl, rfl, sz_of (by omega), (by show 2 ≤ sizeLine; decide), fun t1 n1 => ?_⟩
      have E6 := E5.trans (Ex.new (o := .tup [V.bl true, V.bl false]) n1)
      have ht1 : (upd H5 t1 (.tup [V.bl true, V.bl false])) t1 = some (.tup (([true, false] : List Bool).map V.bl)) := upd_same
      have hA6 := Ex.new (o := .tup [V.bl true, V.bl false]) n1 _ _ hA
      have T6 := TEx.new (H := H5) (o := .tup [V.bl true, V.bl false]) n1
      have hG6 := hG.imp fun _ _ z => z.te T6
      generalize upd H5 t1 (.tup [V.bl true, V.bl false]) = H6 at *
      refine ⟨_, rfl, _, _, rfl, rfl, _, rfl, hlg1, _, _, rfl, rfl, sz_of (by omega), (by show 2 ≤ sizeLine; decide), fun l2 nl2 => ⟨_, rfl, rfl, .inr ⟨_, rfl, l2, _, _, .str (if i = 0 then ("i" : Str) else dn (i - 1)), rfl, rfl, SqL.of upd_same, ?_, (by show 1 ≤ sizeLine; decide), fun t3 n3 => ?_⟩⟩⟩
      · by_cases e : i = 0
        · subst e; rfl
        · rw [if_neg (show ¬ decide (V.int ((i : Nat) : Int) = V.int 0) = true from fun z => e (by have := of_decide_eq_true z; injection this; omega)), if_neg e]
          show some (V.str (("d" : Str) ++ Str.ofString (toString ((i : Nat) - 1 : Int)))) = some (V.str (("d" : Str) ++ Str.ofString (toString ((i - 1 : Nat) : Int))))
          rw [show ((i : Nat) - 1 : Int) = ((i - 1 : Nat) : Int) by omega]
      have E7 := (Ex.new (o := .lst [V.str (("d" : Str) ++ Str.ofString (toString ((i : Nat) - 1 : Int))), V.str ("i" : Str)]) nl2).trans (Ex.new (o := .tup [V.str (if i = 0 then ("i" : Str) else dn (i - 1))]) n3)
      have ht3 : (upd (upd H6 l2 (.lst [V.str (("d" : Str) ++ Str.ofString (toString ((i : Nat) - 1 : Int))), V.str ("i" : Str)])) t3 (.tup [V.str (if i = 0 then ("i" : Str) else dn (i - 1))])) t3 = some (.tup ((chG i).pins.map V.str)) := upd_same
      generalize upd (upd H6 l2 (.lst [V.str (("d" : Str) ++ Str.ofString (toString ((i : Nat) - 1 : Int))), V.str ("i" : Str)])) t3 (.tup [V.str (if i = 0 then ("i" : Str) else dn (i - 1))]) = H7 at *
      refine ⟨(by show 2 ≤ sizeLine; decide), fun t4 n4 => ⟨(by show 1 ≤ sizeLine; decide), fun t5 n5 => ⟨(by show 4 ≤ sizeLine; decide), fun t6 n6 => ?_⟩⟩⟩
      have E8 := (Ex.new (o := .tup [V.int 0, V.int 2]) n4).trans (Ex.new (o := .tup [V.ref t4]) n5)
      have ht4 : (upd (upd H7 t4 (.tup [V.int 0, V.int 2])) t5 (.tup [V.ref t4])) t4 = some (.tup [V.int 0, V.int 2]) := Ex.new n5 _ _ upd_same
      have ht5 : (upd (upd H7 t4 (.tup [V.int 0, V.int 2])) t5 (.tup [V.ref t4])) t5 = some (.tup (([t4] : List Addr).map V.ref)) := upd_same
      generalize upd (upd H7 t4 (.tup [V.int 0, V.int 2])) t5 (.tup [V.ref t4]) = H8 at *
      have E9 := Ex.new (o := .tup [V.str (("d" : Str) ++ Str.ofString (toString ((i : Nat) : Int))), V.ref t1, V.ref t3, V.ref t5]) n6
      have ht6 : (upd H8 t6 (.tup [V.str (("d" : Str) ++ Str.ofString (toString ((i : Nat) : Int))), V.ref t1, V.ref t3, V.ref t5])) t6 = some (.tup [V.str (dn i), V.ref t1, V.ref t3, V.ref t5]) := upd_same
      generalize upd H8 t6 (.tup [V.str (("d" : Str) ++ Str.ofString (toString ((i : Nat) : Int))), V.ref t1, V.ref t3, V.ref t5]) = H9 at *
      have E69 := E7.trans (E8.trans E9)
      have hA9 := E69 _ _ hA6
      have hl : as.length = i := by rw [hG.1, List.length_map, List.length_range]
      have hgate : GateAt H9 t6 (chG i) := ⟨t1, t3, t5, [t4], ht6, E69 _ _ ht1, (E8.trans E9) _ _ ht3, E9 _ _ ht5, .cons (E9 _ _ ht4) .nil⟩
      refine ⟨AL, _, _, rfl, rfl, hA9, sz_lt (by rw [List.length_map]; omega), (E6.trans E69).mut nAL, as ++ [t6], _, by rw [upd_same, List.map_append]; rfl, ?_, rfl⟩
      rw [List.range_succ, List.map_append]
      have TM : TEx H9 (upd H9 AL (.lst (as.map V.ref ++ [V.ref t6]))) := TEx.mut hA9
      exact (hG6.imp fun _ _ z => (z.te (TEx.of E69)).te TM).snoc (hgate.te TM)
    rintro σ H5 ⟨E5, as, x6, hA, hG, rfl⟩
    rw [Int.toNat_natCast] at hG
    have hl : as.length = n := by rw [hG.1, List.length_map, List.length_range]
    -- the last gate
    refine ⟨_, rfl, .inl ⟨rfl, _, SqL.of hA⟩, (by show 2 ≤ sizeLine; decide), fun t1 n1 => ⟨(by show 1 ≤ sizeLine; decide), fun t2 n2 => ⟨(by show 2 ≤ sizeLine; decide), fun t3 n3 => ⟨(by show 1 ≤ sizeLine; decide), fun t4 n4 => ⟨(by show 4 ≤ sizeLine; decide), fun t5 n5 => ?_⟩⟩⟩⟩⟩
    have F1 := Ex.new (o := .tup [V.bl false, V.bl true]) n1
    have ht1 : (upd H5 t1 (.tup [V.bl false, V.bl true])) t1 = some (.tup (([false, true] : List Bool).map V.bl)) := upd_same
    generalize upd H5 t1 (.tup [V.bl false, V.bl true]) = H6 at *
    have F2 := Ex.new (o := .tup [V.str "r"]) n2
    have ht2 : (upd H6 t2 (.tup [V.str "r"])) t2 = some (.tup ((["r"] : List Str).map V.str)) := upd_same
    generalize upd H6 t2 (.tup [V.str "r"]) = H7 at *
    have F3 := Ex.new (o := .tup [V.int 1, V.int 3]) n3
    have ht3 : (upd H7 t3 (.tup [V.int 1, V.int 3])) t3 = some (.tup [V.int 1, V.int 3]) := upd_same
    generalize upd H7 t3 (.tup [V.int 1, V.int 3]) = H8 at *
    have F4 := Ex.new (o := .tup [V.ref t3]) n4
    have ht4 : (upd H8 t4 (.tup [V.ref t3])) t4 = some (.tup (([t3] : List Addr).map V.ref)) := upd_same
    generalize upd H8 t4 (.tup [V.ref t3]) = H9 at *
    have F5 := Ex.new (o := .tup [V.str "g", V.ref t1, V.ref t2, V.ref t4]) n5
    have ht5 : (upd H9 t5 (.tup [V.str "g", V.ref t1, V.ref t2, V.ref t4])) t5 = some (.tup [V.str "g", V.ref t1, V.ref t2, V.ref t4]) := upd_same
    generalize upd H9 t5 (.tup [V.str "g", V.ref t1, V.ref t2, V.ref t4]) = HA at *
    have f5A := F1.trans (F2.trans (F3.trans (F4.trans F5)))
    have hAA := f5A _ _ hA
    have hlast : GateAt HA t5 lastG := ⟨t1, t2, t4, [t3], ht5, (F2.trans (F3.trans (F4.trans F5))) _ _ ht1, (F3.trans (F4.trans F5)) _ _ ht2, F5 _ _ ht4, .cons ((F4.trans F5) _ _ ht3) .nil⟩
    refine ⟨AL, _, _, rfl, rfl, hAA, sz_lt (by rw [List.length_map]; omega), ?_⟩
    have EB : Ex H3 (upd HA AL (.lst (as.map V.ref ++ [V.ref t5]))) := (E5.trans f5A).mut nAL
    have TM : TEx HA (upd HA AL (.lst (as.map V.ref ++ [V.ref t5]))) := TEx.mut hAA
    have hALB : upd HA AL (.lst (as.map V.ref ++ [V.ref t5])) AL = some (.lst ((as ++ [t5]).map V.ref)) := by rw [upd_same, List.map_append]; rfl
    have hgB : All2 (GateAt (upd HA AL (.lst (as.map V.ref ++ [V.ref t5])))) (as ++ [t5]) ((List.range n).map chG ++ [lastG]) := (hG.imp fun _ _ z => (z.te (.of f5A)).te TM).snoc (hlast.te TM)
    generalize upd HA AL (.lst (as.map V.ref ++ [V.ref t5])) = HB at *
    have hlg1 : ((n : Nat) - 1 : Int).natAbs.log2 < 1920 := by
      have : ((n : Nat) - 1 : Int).natAbs < 2 ^ 30 := by omega
      have := PySem.Flt.log2_lt_of (by decide : 0 < 30) this
      omega
    have hl1 : ("d" : Str).length = 1 := rfl
    have hlm : (Str.ofString (toString ((n : Nat) - 1 : Int))).length ≤ 9 := by
      by_cases e : n = 0
      · subst e; decide
      · rw [show ((n : Nat) - 1 : Int) = ((n - 1 : Nat) : Int) by omega, len_tl, tl_num]
        exact numL_len (k := 9) (by decide) (by omega)
    refine ⟨_, rfl, _, _, rfl, rfl, _, rfl, hlg1, _, _, rfl, rfl, sz_of (by omega), (by show 2 ≤ sizeLine; decide), fun l2 nl2 => ⟨_, rfl, rfl, .inr ⟨_, rfl, l2, _, _, .str (preN n), rfl, rfl, SqL.of upd_same, ?_, (by show 2 ≤ sizeLine; decide), fun u3 nu3 => ?_⟩⟩⟩
    · unfold preN
      by_cases e : n = 0
      · subst e; rfl
      · rw [if_neg (show ¬ decide (V.int ((n : Nat) : Int) = V.int 0) = true from fun z => e (by have := of_decide_eq_true z; injection this; omega)), if_neg e]
        show some (V.str (("d" : Str) ++ Str.ofString (toString ((n : Nat) - 1 : Int)))) = some (V.str (("d" : Str) ++ Str.ofString (toString ((n - 1 : Nat) : Int))))
        rw [show ((n : Nat) - 1 : Int) = ((n - 1 : Nat) : Int) by omega]
    have F6 := (Ex.new (o := .lst [V.str (("d" : Str) ++ Str.ofString (toString ((n : Nat) - 1 : Int))), V.str ("i" : Str)]) nl2).trans (Ex.new (o := .tup [V.str "r", V.str (preN n)]) nu3)
    have hu3 : (upd (upd HB l2 (.lst [V.str (("d" : Str) ++ Str.ofString (toString ((n : Nat) - 1 : Int))), V.str ("i" : Str)])) u3 (.tup [V.str "r", V.str (preN n)])) u3 = some (.tup [V.str "r", V.str (preN n)]) := upd_same
    generalize upd (upd HB l2 (.lst [V.str (("d" : Str) ++ Str.ofString (toString ((n : Nat) - 1 : Int))), V.str ("i" : Str)])) u3 (.tup [V.str "r", V.str (preN n)]) = HC at *
    have e3C := EB.trans F6
    refine ⟨_, rfl, cat_tup hu3 (e3C _ _ htm) (by show 7 ≤ sizeLine; decide) fun rg HD' ED hrg => ⟨(by show 1 ≤ sizeLine; decide), fun rt nrt => ?_⟩⟩
    have e3D := e3C.trans ED
    have hreg : RegAt HD' rg (regL n b) := ⟨u1, u2, hrg, e3D _ _ hu1, e3D _ _ hu2⟩
    have FE := Ex.new (o := .tup [V.ref rg]) nrt
    have hrt : (upd HD' rt (.tup [V.ref rg])) rt = some (.tup (([rg] : List Addr).map V.ref)) := upd_same
    generalize upd HD' rt (.tup [V.ref rg]) = HE at *
    refine ⟨(by show 1 ≤ sizeLine; decide), fun it nit => ?_⟩
    have FF := Ex.new (o := .tup [V.str "i"]) nit
    have hit : (upd HE it (.tup [V.str "i"])) it = some (.tup ((["i"] : List Str).map V.str)) := upd_same
    generalize upd HE it (.tup [V.str "i"]) = HF at *
    have fBF := F6.trans (ED.trans (FE.trans FF))
    refine ⟨_, rfl, AL, _, rfl, .inl ⟨SqL.of (fBF _ _ hALB), fun gt ngt => ?_⟩⟩
    have FG := Ex.new (o := .tup ((as ++ [t5]).map V.ref)) ngt
    have hgt : (upd HF gt (.tup ((as ++ [t5]).map V.ref))) gt = some (.tup ((as ++ [t5]).map V.ref)) := upd_same
    generalize upd HF gt (.tup ((as ++ [t5]).map V.ref)) = HG at *
    refine ⟨_, rfl, (by show 2 ≤ sizeLine; decide), fun o1 no1 => ⟨(by show 1 ≤ sizeLine; decide), fun ot not' => ⟨(by show 4 ≤ sizeLine; decide), fun c nc => ?_⟩⟩⟩
    have FH := Ex.new (o := .tup [V.str "p", V.str "g"]) no1
    have ho1 : (upd HG o1 (.tup [V.str "p", V.str "g"])) o1 = some (.tup [V.str "p", V.str "g"]) := upd_same
    generalize upd HG o1 (.tup [V.str "p", V.str "g"]) = HH at *
    have FI := Ex.new (o := .tup [V.ref o1]) not'
    have hot : (upd HH ot (.tup [V.ref o1])) ot = some (.tup (([o1] : List Addr).map V.ref)) := upd_same
    generalize upd HH ot (.tup [V.ref o1]) = HI at *
    have FJ := Ex.new (o := .tup [V.ref it, V.ref gt, V.ref rt, V.ref ot]) nc
    have fGJ := FH.trans (FI.trans FJ)
    have fFJ := FG.trans fGJ
    have fDJ := FE.trans (FF.trans fFJ)
    exact q c b it gt rt ot (as ++ [t5]) [rg] [o1] _ (X3.more (e3D.trans fDJ)) ⟨upd_same, fFJ _ _ hit, fGJ _ _ hgt, (FF.trans fFJ) _ _ hrt, FJ _ _ hot, hgB.imp fun _ _ z => z.te (.of (fBF.trans fFJ)), .cons (hreg.te (.of fDJ)) .nil, .cons ((FI.trans FJ) _ _ ho1) .nil⟩
end
end G
namespace G
open PySem PySem.Spec PyProof.Rows L2 Evl TL
/-! ## the law of moved regs -/
theorem shaped_bls78 (l : List Bool) : SeqAt.shaped (.list (l.map PyData.bool)) = true := by
  have : PyData.canLayAll0 (l.map PyData.bool) = true ∧ PyData.depthAll (l.map PyData.bool) = 0 := by
    induction l with
    | nil => exact ⟨rfl, rfl⟩
    | cons x xs ih => exact ⟨by show (true && PyData.canLayAll0 _) = true; rw [ih.1]; rfl, by show max 0 (PyData.depthAll _) = 0; rw [ih.2]; rfl⟩
  simp [SeqAt.shaped, PyData.canLay0, PyData.depth, this.1, this.2]
theorem dp_bls78 {K : PySem.W.Frag} {H : Hp} {a : Addr} {l : List Bool} (h : H a = some (.lst (l.map V.bl))) : Dp K H (.ref a) (.list (l.map PyData.bool)) := .lst (SqL.of h) (dpAll_map (fun x => .bl x) l)
theorem lg_dr {n : Nat} {b : Bool} (hn : n ≤ 100) : Sound (lgD n b) ∧ FewE (lgD n b) ∧ TxN (lgD n b) ∧ (srcs (lgD n b)).length ≤ 100 := ⟨lg_sound hn, lg_few hn, lg_tx hn, by show 2 ≤ 100; decide⟩
/-- one input more -/
def blkD (d : CircD) (x : Str) : CircD := { d with ins := d.ins ++ [x] }
theorem blk_names (d : CircD) (x : Str) : (namesD (blkD d x)).Perm (x :: namesD d) := by
  show ((d.ins ++ [x]) ++ d.gates.map (·.name) ++ d.regs.map (·.name)).Perm _
  unfold namesD
  rw [List.perm_iff_count]
  intro a
  simp only [List.count_append, List.count_cons, List.count_nil]
  omega
theorem blk_sound {d : CircD} {x : Str} (R : Dr d) (hx : x ∉ namesD d) (hl : x.length ≤ 100) : Sound (blkD d x) ∧ FewE (blkD d x) ∧ (srcs (blkD d x)).length ≤ 100 := by
  have S := R.S
  have hp := blk_names d x
  have hm : ∀ y ∈ namesD d, y ∈ namesD (blkD d x) := fun y hy => hp.mem_iff.mpr (List.mem_cons_of_mem _ hy)
  have hlen : (namesD (blkD d x)).length ≤ 201 := by rw [hp.length_eq, List.length_cons]; have := R.nm; omega
  have hsh : ∀ y ∈ namesD (blkD d x), y.length ≤ 100 := fun y hy => by
    rcases List.mem_cons.mp (hp.mem_iff.mp hy) with z | z
    · rw [z]; exact hl
    · have := R.sh y z; omega
  refine ⟨⟨⟨hp.nodup_iff.mpr (List.nodup_cons.mpr ⟨hx, S.nm.1⟩), S.nm.2⟩, S.cnt, fun y hy => hm y (S.net y hy), S.rng, ⟨by omega, S.few.gs, S.few.rs, S.few.os, S.few.gn, S.few.rn, S.few.tx⟩, S.rank⟩, ⟨by omega, R.few.gs, R.few.rs, R.few.os, fun y hy => by have := hsh y hy; omega⟩, ?_⟩
  have e : (srcs (blkD d x)).length = (srcs d).length + 1 := by
    unfold srcs
    rw [List.length_append, List.length_append]
    show (d.ins ++ [x]).length + _ = _
    rw [List.length_append, List.length_singleton]
    show d.ins.length + 1 + (d.regs.map (·.name)).length = d.ins.length + (d.regs.map (·.name)).length + 1
    omega
  rw [e]; have := R.sl; omega
section
variable {P : Program} {w : World} {K : PySem.W.Frag} {mg : Str → Option Value} {base : Heap}
def spLaw (K : PySem.W.Frag) : Sp := fun vs H Q _ => ∃ (a : Addr) (ns : List Int), vs = [.ref a] ∧ SqL K H a (ns.map V.int) ∧ ns.length ≤ 63 ∧ ∀ H', Q (.bl true) H'
theorem sc_law : FnScope ["script", "pool", "turn", "circuit", "many", "g", "due", "actual", "blocked", "deep"] ["script"] (defScope s_law) := ⟨rfl, rfl, rfl, by decide +kernel, rfl, by decide +kernel, by decide +kernel⟩
theorem fn_law {Ba Fa Cn Cw Cu Cr Dc Lc : Addr} {f : Addr} {fd : FuncData} (F : Fun K "law" "law" s_law f fd) (T : TxtS mg) (C1 : Has P w K mg base 1 "_law_pool" ["script"] (spPool K)) (C2 : Has P w K mg base 2 "_law_draw" ["pool", "many"] spDrawX) (C3 : Has P w K mg base 4 "_law_circuit" ["pool", "most"] spCirc)
    (C4 : Has P w K mg base 3 "_law_even" ["pool", "circuit"] spEven) (C5 : HasN P w K mg base 5 "check_circuit" ["circuit"] (spCkD Cn Cw Cu Cr Dc Lc)) (C6 : Has P w K mg base 7 "_law_told" ["circuit", "g"] spTold78) (C7 : Has P w K mg base 1 "_law_moved" ["circuit", "g"] spLMoved)
    (C8 : HasX P w K mg base 6 "move_forward" ["circuit", "g"] (spMove Ba Fa)) (C9 : Has P w K mg base 6 "_law_same" ["actual", "due"] (spSame 6)) (C10 : Has P w K mg base 3 "_law_long" ["pool", "many"] spLong) : FnOk P w K mg base CX0 8 f fd ["script"] (spLaw K) := by
  obtain ⟨f_law_pool, d_law_pool, G_law_pool, g_law_pool, k_law_pool, b_law_pool⟩ := C1
  obtain ⟨f_law_draw, d_law_draw, G_law_draw, g_law_draw, k_law_draw, b_law_draw⟩ := C2
  obtain ⟨f_law_circuit, d_law_circuit, G_law_circuit, g_law_circuit, k_law_circuit, b_law_circuit⟩ := C3
  obtain ⟨f_law_even, d_law_even, G_law_even, g_law_even, k_law_even, b_law_even⟩ := C4
  obtain ⟨f_check_circuit, d_check_circuit, G_check_circuit, g_check_circuit, k_check_circuit, b_check_circuit⟩ := C5
  obtain ⟨f_law_told, d_law_told, G_law_told, g_law_told, k_law_told, b_law_told⟩ := C6
  obtain ⟨f_law_moved, d_law_moved, G_law_moved, g_law_moved, k_law_moved, b_law_moved⟩ := C7
  obtain ⟨f_move_forward, d_move_forward, G_move_forward, g_move_forward, k_move_forward, b_move_forward⟩ := C8
  obtain ⟨f_law_same, d_law_same, G_law_same, g_law_same, k_law_same, b_law_same⟩ := C9
  obtain ⟨f_law_long, d_law_long, G_law_long, g_law_long, k_law_long, b_law_long⟩ := C10
  refine F.ok sc_law (fun vs H Q E h => ?_) (fun cdv A outer s H vs Q E hr h => ?_)
  · obtain ⟨a, ns, rfl, _⟩ := h
    rfl
  · obtain ⟨sa, ns, rfl, hs, hn, q⟩ := h
    refine ⟨_, (pss_cons (ps_set (i := 1) sc_law.nd rfl (.inl rfl) (pe_call G_law_pool (hr.mono (by omega)) (by rfl) g_law_pool k_law_pool b_law_pool .nil pass0 (pa_cons (pv 0) pa_nil)))
    (pss_cons (ps_for PassesOwn.never rfl (pi_range1 rfl T.range (pa_cons pe_int pa_nil)) (pg_name (i := 2) sc_law.nd rfl (.inl rfl))
      (pss_cons (ps_set (i := 3) sc_law.nd rfl (.inl rfl) (pe_call G_law_even (hr.mono (by omega)) (by rfl) g_law_even k_law_even b_law_even .nil pass0 (pa_cons (pv 1) (pa_cons (pe_call G_law_circuit (hr.mono (by omega)) (by rfl) g_law_circuit k_law_circuit b_law_circuit .nil pass0 (pa_cons (pv 1) (pa_cons pe_int pa_nil))) pa_nil))))
      (pss_cons (ps_if (pt_cmpR op_notN (pe_call G_check_circuit (hr.mono (by omega)) (by rfl) g_check_circuit k_check_circuit b_check_circuit .nil passN0 (pa_cons (pv 3) pa_nil)) pe_non (nomark _))
        (pss_one (ps_ret pe_bl))
        pss_nil)
      (pss_cons (ps_set (i := 4) sc_law.nd rfl (.inl rfl) (pe_callB call_len_seq (by rfl) T.len (by decide +kernel) (pa_cons (pe_ix ix_tup (pv 3) pe_int (fun _ _ => rfl)) pa_nil)))
      (pss_cut (ps_if (PW.pt (pw_or (pt_cmpR (op_neD hr.units) (pe_call G_law_told (hr.mono (by omega)) (by rfl) g_law_told k_law_told b_law_told .nil pass0 (pa_cons (pv 3) (pa_cons (pe_op op_add (pv 4) (pe_call G_law_draw (hr.mono (by omega)) (by rfl) g_law_draw k_law_draw b_law_draw .nil pass0 (pa_cons (pv 1) (pa_cons pe_int pa_nil)))) pa_nil))) (pe_lst (pa_cons pe_bl (pa_cons pe_bl pa_nil))) (nomark _)) (pw_or1 (pt_cmpR (op_neD hr.units) (pe_call G_law_told (hr.mono (by omega)) (by rfl) g_law_told k_law_told b_law_told .nil pass0 (pa_cons (pv 3) (pa_cons (pe_un un_neg pe_int) pa_nil))) (pe_lst (pa_cons pe_bl (pa_cons pe_bl pa_nil))) (nomark _)))))
        (pss_one (ps_ret pe_bl))
        pss_nil)
      (pss_one (ps_for PassesOwn.never rfl (pi_range1 rfl T.range (pa_cons (pv 4) pa_nil)) (pg_name (i := 5) sc_law.nd rfl (.inl rfl))
        (pss_cons (ps_set (i := 6) sc_law.nd rfl (.inl rfl) (pe_call G_law_moved (hr.mono (by omega)) (by rfl) g_law_moved k_law_moved b_law_moved .nil pass0 (pa_cons (pv 3) (pa_cons (pv 5) pa_nil))))
        (pss_one (ps_if (pt_cmpR op_isN (pv 6) pe_non (nomark _))
          (pss_one (ps_if (pt_cmpR (op_neD hr.units) (pe_call G_law_told (hr.mono (by omega)) (by rfl) g_law_told k_law_told b_law_told .nil pass0 (pa_cons (pv 3) (pa_cons (pv 5) pa_nil))) (pe_lst (pa_cons pe_bl (pa_cons pe_bl pa_nil))) (nomark _))
            (pss_one (ps_ret pe_bl))
            pss_nil))
          (pss_cons (ps_set (i := 7) sc_law.nd rfl (.inl rfl) (pe_call G_move_forward (hr.mono (by omega)) (by rfl) g_move_forward k_move_forward b_move_forward .nil passX0 (pa_cons (pv 3) (pa_cons (pv 5) pa_nil))))
          (pss_cut (ps_if (PW.pt (pw_or (pt_not (pt_val (pe_call G_law_same (hr.mono (by omega)) (by rfl) g_law_same k_law_same b_law_same .nil pass0 (pa_cons (pv 7) (pa_cons (pv 6) pa_nil))))) (pw_or1 (pt_cmpR op_notN (pe_call G_check_circuit (hr.mono (by omega)) (by rfl) g_check_circuit k_check_circuit b_check_circuit .nil passN0 (pa_cons (pv 7) pa_nil)) pe_non (nomark _)))))
            (pss_one (ps_ret pe_bl))
            pss_nil)
          (pss_cons (ps_set (i := 8) sc_law.nd rfl (.inl rfl) (pe_tup (pa_cons (pe_op op_catA (pe_ix ix_tup (pv 3) pe_int (fun _ _ => rfl)) (pe_tup (pa_cons (pe_op op_add_str (pe_ix ix_tup (pe_ix ix_tup (pe_ix ix_tup (pv 3) pe_int (fun _ _ => rfl)) (pv 5) (fun _ _ => rfl)) pe_int (fun _ _ => rfl)) pe_str) pa_nil))) (pa_cons (pe_ix ix_tup (pv 3) pe_int (fun _ _ => rfl)) (pa_cons (pe_ix ix_tup (pv 3) pe_int (fun _ _ => rfl)) (pa_cons (pe_ix ix_tup (pv 3) pe_int (fun _ _ => rfl)) pa_nil))))))
          (pss_one (ps_if (pt_cmpR (op_neD hr.units) (pe_call G_law_told (hr.mono (by omega)) (by rfl) g_law_told k_law_told b_law_told .nil pass0 (pa_cons (pv 8) (pa_cons (pv 5) pa_nil))) (pe_lst (pa_cons pe_bl (pa_cons pe_bl pa_nil))) (nomark _))
            (pss_one (ps_ret pe_bl))
            pss_nil)))))))))))))))
    (pss_cons (ps_set (i := 4) sc_law.nd rfl (.inl rfl) (pe_ix ix_list (pe_lst (pa_cons pe_int (pa_cons pe_int (pa_cons (pe_call G_law_draw (hr.mono (by omega)) (by rfl) g_law_draw k_law_draw b_law_draw .nil pass0 (pa_cons (pv 1) (pa_cons pe_int pa_nil))) pa_nil)))) (pe_call G_law_draw (hr.mono (by omega)) (by rfl) g_law_draw k_law_draw b_law_draw .nil pass0 (pa_cons (pv 1) (pa_cons pe_int pa_nil))) (fun _ _ => rfl)))
    (pss_cons (ps_set (i := 9) sc_law.nd rfl (.inl rfl) (pe_call G_law_long (hr.mono (by omega)) (by rfl) g_law_long k_law_long b_law_long .nil pass0 (pa_cons (pv 1) (pa_cons (pv 4) pa_nil))))
    (pss_cons (ps_if (pt_cmpR op_eq (pv 4) pe_int (nomark _))
      (pss_one (ps_ret (pe_cmpR (op_eqD hr.units) (pe_call G_law_told (hr.mono (by omega)) (by rfl) g_law_told k_law_told b_law_told .nil pass0 (pa_cons (pv 9) (pa_cons (pv 4) pa_nil))) (pe_lst (pa_cons pe_bl (pa_cons pe_bl pa_nil))) (nomark _))))
      pss_nil)
    (pss_one (ps_ret (pe_call G_law_same (hr.mono (by omega)) (by rfl) g_law_same k_law_same b_law_same .nil pass0 (pa_cons (pe_call G_move_forward (hr.mono (by omega)) (by rfl) g_move_forward k_move_forward b_move_forward .nil passX0 (pa_cons (pv 9) (pa_cons (pv 4) pa_nil))) (pa_cons (pe_call G_law_moved (hr.mono (by omega)) (by rfl) g_law_moved k_law_moved b_law_moved .nil pass0 (pa_cons (pv 9) (pa_cons (pv 4) pa_nil))) pa_nil)))))))))), ?_⟩
    refine ⟨_, rfl, sa, ns, rfl, hs, by omega, fun p a H0 hp E0 np => ?_⟩
    refine ⟨_, rfl, by decide, by decide, for_range (n := 2) (fun i σ H' => Px p a H0 H' ∧ ∃ x2 x3 x4 x5 x6 x7 x8 : Option V, σ = [some (.ref sa), some (.ref p), x2, x3, x4, x5, x6, x7, x8, none])
      ⟨Px.refl hp, _, _, _, _, _, _, _, rfl⟩ ?_ ?_⟩
    · rintro turn σ H1 _ ⟨X1, x2, x3, x4, x5, x6, x7, x8, rfl⟩
      refine ⟨_, rfl, _, rfl, p, a, 6, rfl, by decide, X1.pool, fun c0 d0 Gs it0 gt0 rt0 ot0 ga0 ra0 oa0 H2 Y2 hc2 W => ?_⟩
      refine ⟨p, a, c0, d0, Gs, it0, gt0, rt0, ot0, ga0, ra0, oa0, rfl, Y2.pool, hc2, W, fun c d it gt rt ot ga ra oa H3 Y3 hc3 hd => ?_⟩
      have X3 := X1.trans (Y2.trans Y3)
      have R : Dr d := by
        rcases hd with z | ⟨r0, z⟩
        · rw [z]; exact dr_of W
        · exact ev_dr W z
      have S := R.S
      refine ⟨_, rfl, c, d, it, gt, rt, ot, ga, ra, oa, rfl, hc3, S.few, (fun z => absurd S.nm z), (fun _ z => absurd S.cnt z), (fun _ _ z => absurd S.net z), (fun _ _ _ z => absurd S.rng z), fun _ _ _ _ ord L => ?_⟩
      obtain ⟨o1, _, o2⟩ := S.ord R.gl L
      refine ⟨fun _ _ H4 E4 => ?_, fun _ dp => absurd dp o2, fun z => absurd o1 (by omega)⟩
      refine ⟨rfl, _, rfl, iteF ?_⟩
      have X4 := X3.more E4
      have hc4 := hc3.te (.of E4)
      refine ⟨_, rfl, _, _, _, _, rfl, rfl, SqT.of hc4.top, atI_nat (j := 1) rfl, _, _, rfl, .inr (SqT.of hc4.gts), ?_⟩
      have hgl : (ga.map V.ref).length = d.gates.length := by rw [List.length_map, hc4.gates.1]
      have hgl100 := R.gl
      rw [hgl]
      refine ⟨fun σ' G => Px p a H4 G ∧ σ' = [some (.ref sa), some (.ref p), some (.int (0 + (turn : Int))), some (.ref c), some (.int (d.gates.length : Nat)), x5, x6, x7, x8, none], ?_, ?_⟩
      · refine ⟨_, rfl, _, rfl, _, rfl, p, a, 4, rfl, by decide, by decide, X4.pool, fun v H5 hv X5 k5 => ⟨_, _, rfl, rfl, ?_⟩⟩
        have hc5 := hc4.te (TEx.px X5)
        refine ⟨c, _, d, it, gt, rt, ot, ga, ra, oa, true, rfl, hc5, S, R.few, by have := R.sl; omega, .inl ⟨by omega, rfl⟩, fun l H6 E6 hl => ?_⟩
        refine ⟨(by show 2 ≤ sizeLine; decide), fun l2 nl2 => ⟨_, _, dp_bls78 (l := [true, false]) (Ex.new nl2 _ _ hl), dp_bls78 (l := [true, false]) upd_same, shaped_bls78 _, shaped_bls78 _, _, rfl, iteF ?_⟩⟩
        have E7 := E6.trans (Ex.new (o := .lst [.bl true, .bl false]) nl2)
        generalize upd H6 l2 (.lst [.bl true, .bl false]) = H7 at *
        have hc7 := hc5.te (.of E7)
        refine ⟨_, rfl, _, rfl, c, _, d, it, gt, rt, ot, ga, ra, oa, true, rfl, hc7, S, R.few, by have := R.sl; omega, .inl ⟨by omega, rfl⟩, fun l3 H8 E8 hl3 => ?_⟩
        refine ⟨(by show 2 ≤ sizeLine; decide), fun l4 nl4 => ⟨_, _, dp_bls78 (l := [true, false]) (Ex.new nl4 _ _ hl3), dp_bls78 (l := [true, false]) upd_same, shaped_bls78 _, shaped_bls78 _, _, rfl, iteF ?_⟩⟩
        exact ⟨X5.more (E7.trans (E8.trans (Ex.new nl4))), rfl⟩
      rintro σ' H5 ⟨X5, rfl⟩
      refine ⟨_, rfl, _, rfl, by omega, by omega, for_range (n := ((d.gates.length : Nat) : Int).toNat) (fun i σ G => Px p a H4 G ∧ ∃ x5 x6 x7 x8 : Option V, σ = [some (.ref sa), some (.ref p), some (.int (0 + (turn : Int))), some (.ref c), some (.int (d.gates.length : Nat)), x5, x6, x7, x8, none])
        ⟨X5, _, _, _, _, rfl⟩ ?_ ?_⟩
      · rintro k σ G hk ⟨XG, y5, y6, y7, y8, rfl⟩
        rw [Int.toNat_natCast] at hk
        rw [Int.zero_add]
        have hcG := hc4.te (TEx.px XG)
        obtain ⟨gd, hgd⟩ : ∃ gd, d.gates[k]? = some gd := ⟨_, List.getElem?_eq_getElem hk⟩
        have hgm := List.mem_of_getElem? hgd
        have hnames : ∀ x ∈ d.gates.map (·.name), x ∈ namesD d := fun x hx => List.mem_append_left _ (List.mem_append_right _ hx)
        refine ⟨_, rfl, _, rfl, c, k, d, gd, it, gt, rt, ot, ga, ra, oa, rfl, hcG, S, R.few, R.tx, hgd, R.dtx gd hgm, fun nM H6 E6 => ?_, fun M cm itm gtm rtm otm gam ram oam H6 E6 hcm => ?_⟩
        · -- refused
          refine ⟨_, rfl, rfl, _, rfl, iteT ?_⟩
          have hc6 := hcG.te (.of E6)
          refine ⟨_, rfl, _, rfl, c, _, d, it, gt, rt, ot, ga, ra, oa, false, rfl, hc6, S, R.few, by have := R.sl; omega, .inr ⟨⟨k, gd, rfl, hgd, fun M => absurd M nM⟩, rfl⟩, fun l H7 E7 hl => ?_⟩
          refine ⟨(by show 2 ≤ sizeLine; decide), fun l2 nl2 => ⟨_, _, dp_bls78 (l := [false, true]) (Ex.new nl2 _ _ hl), dp_bls78 (l := [false, true]) upd_same, shaped_bls78 _, shaped_bls78 _, _, rfl, iteF ?_⟩⟩
          exact ⟨XG.more (E6.trans (E7.trans (Ex.new nl2))), _, _, _, _, rfl⟩
        · -- moved
          refine ⟨_, rfl, rfl, _, rfl, iteF ?_⟩
          have hc6 := hcG.te (.of E6)
          have SE := mov_sound S R.few hgd M
          have hml : (movD d k gd).gates.length ≤ 100 := by show (d.gates.set k _).length ≤ 100; rw [List.length_set]; exact R.gl
          refine ⟨_, rfl, _, rfl, c, _, d, it, gt, rt, ot, ga, ra, oa, rfl, hc6, S, R.few, by have := R.sl; omega, fun z => absurd ⟨Int.natCast_nonneg _, Int.ofNat_lt.mpr hk⟩ z, fun k' gd' e1 e2 nM => ?_, fun k' gd' e1 e2 _ ord L => ?_⟩
          · have ek : k' = k := by omega
            subst ek
            rw [hgd] at e2
            cases e2
            exact absurd M nM
          have ek : k' = k := by omega
          subst ek
          rw [hgd] at e2
          cases e2
          obtain ⟨p1, _, p2⟩ := SE.ord hml L
          refine ⟨fun dp => absurd dp p2, fun _ ca ita gta rta ota gaa raa oaa H7 E7 hca => ?_⟩
          have hcm7 := hcm.te (.of E7)
          have hcd := circFew_of SE
          refine ⟨fun σ' G' => Ex G G' ∧ σ' = [some (.ref sa), some (.ref p), some (.int (0 + (turn : Int))), some (.ref c), some (.int (d.gates.length : Nat)), some (.int (k' : Nat)), some (.ref cm), some (.ref ca), y8, none], ?_, ?_⟩
          · refine ⟨_, rfl, _, rfl, _, _, circD (movD d k' gd), rfl, rep_circ hca, rep_circ hcm7, ok_circD hcd, _, rfl, iteF ?_⟩
            refine ⟨_, rfl, ca, _, ita, gta, rta, ota, gaa, raa, oaa, rfl, hca, SE.few, (fun z => absurd SE.nm z), (fun _ z => absurd SE.cnt z), (fun _ _ z => absurd SE.net z), (fun _ _ _ z => absurd SE.rng z), fun _ _ _ _ ord2 L2 => ?_⟩
            obtain ⟨o1, _, o2⟩ := SE.ord hml L2
            exact ⟨fun _ _ H8 E8 => ⟨rfl, _, rfl, iteF ⟨E6.trans (E7.trans E8), rfl⟩⟩, fun _ dp => absurd dp o2, fun z => absurd o1 (by omega)⟩
          rintro σ' G' ⟨EG', rfl⟩
          have hcG' := hcG.te (.of EG')
          have hnm : gd.name ∈ namesD d := hnames _ (List.mem_map.mpr ⟨gd, hgm, rfl⟩)
          have hnl := R.sh _ hnm
          have h2d : ("/d" : Str).length = 2 := rfl
          have hga : k' < ga.length := by rw [hc4.gates.1]; exact hk
          have hgr : (ga.map V.ref)[k']? = some (.ref ga[k']) := by rw [List.getElem?_map, List.getElem?_eq_getElem hga]; rfl
          obtain ⟨tt, pt, rgt, rga, a1, _⟩ := hcG'.gates.2 k' ga[k'] gd (List.getElem?_eq_getElem hga) hgd
          refine ⟨_, rfl, _, _, _, _, rfl, rfl, SqT.of hcG'.top, atI_nat (j := 0) rfl, _, rfl, _, _, _, _, rfl, rfl, SqT.of hcG'.top, atI_nat (j := 1) rfl, _, rfl, _, _, _, _, rfl, rfl, SqT.of hcG'.gts, atI_nat hgr, _, _, _, _, rfl, rfl, SqT.of a1, atI_nat (j := 0) rfl, _, _, rfl, rfl, sz_of (by omega), (by show 1 ≤ sizeLine; decide), fun u1 nu1 => ?_⟩
          have F1 := Ex.new (o := .tup [.str (gd.name ++ "/d")]) nu1
          have hu1 : upd G' u1 (.tup [.str (gd.name ++ "/d")]) u1 = some (.tup [.str (dN gd.name)]) := upd_same
          generalize upd G' u1 (.tup [.str (gd.name ++ "/d")]) = G1 at *
          have hil : d.ins.length ≤ 90 := by have := R.sl; unfold srcs at this; rw [List.length_append] at this; omega
          refine cat_tup (F1 _ _ hcG'.ins) hu1 (sz_of (by rw [List.length_map, List.length_singleton]; omega)) fun ib G2 F2 hib => ?_
          have hc2' := hcG'.te (.of (F1.trans F2))
          refine ⟨_, rfl, _, _, _, _, rfl, rfl, SqT.of hc2'.top, atI_nat (j := 1) rfl, _, rfl, _, _, _, _, rfl, rfl, SqT.of hc2'.top, atI_nat (j := 2) rfl, _, rfl, _, _, _, _, rfl, rfl, SqT.of hc2'.top, atI_nat (j := 3) rfl, (by show 4 ≤ sizeLine; decide), fun cb ncb => ?_⟩
          have F3 := Ex.new (o := .tup [.ref ib, .ref gt, .ref rt, .ref ot]) ncb
          have hcb : upd G2 cb (.tup [.ref ib, .ref gt, .ref rt, .ref ot]) cb = some (.tup [.ref ib, .ref gt, .ref rt, .ref ot]) := upd_same
          generalize upd G2 cb (.tup [.ref ib, .ref gt, .ref rt, .ref ot]) = G3 at *
          have hc3' := hc2'.te (.of F3)
          have hblk : CircAt G3 cb (blkD d (dN gd.name)) ib gt rt ot ga ra oa := ⟨hcb, by rw [F3 _ _ hib]; show some (HO.tup (d.ins.map V.str ++ [V.str (dN gd.name)])) = some (HO.tup ((d.ins ++ [dN gd.name]).map V.str)); rw [List.map_append]; rfl, hc3'.gts, hc3'.rgs, hc3'.ots, hc3'.gates, hc3'.regs, hc3'.outs⟩
          have hdl : (dN gd.name).length ≤ 100 := by
            unfold dN
            rw [len_tl, tl_append, List.length_append, ← len_tl, ← len_tl]
            omega
          obtain ⟨bS, bF, bL⟩ := blk_sound R M.new hdl
          refine ⟨_, rfl, _, rfl, cb, _, blkD d (dN gd.name), ib, gt, rt, ot, ga, ra, oa, false, rfl, hblk, bS, bF, bL, .inr ⟨⟨k', gd, rfl, hgd, fun M2 => absurd ((blk_names d (dN gd.name)).mem_iff.mpr List.mem_cons_self) M2.new⟩, rfl⟩, fun l H7 E7 hl => ?_⟩
          refine ⟨(by show 2 ≤ sizeLine; decide), fun l2 nl2 => ⟨_, _, dp_bls78 (l := [false, true]) (Ex.new nl2 _ _ hl), dp_bls78 (l := [false, true]) upd_same, shaped_bls78 _, shaped_bls78 _, _, rfl, iteF ?_⟩⟩
          exact ⟨XG.more (EG'.trans (F1.trans (F2.trans (F3.trans (E7.trans (Ex.new nl2)))))), _, _, _, _, rfl⟩
      · rintro σ G ⟨XG, y5, y6, y7, y8, rfl⟩
        exact ⟨X4.trans XG, _, _, _, _, _, _, _, rfl⟩
    · rintro σ H1 ⟨X1, x2, x3, x4, x5, x6, x7, x8, rfl⟩
      refine ⟨_, rfl, p, a, 101, rfl, by decide, by decide, X1.pool, fun v1 H2 hv1 X2 _ => ⟨(by show 3 ≤ sizeLine; decide), fun l nl => ⟨_, rfl, p, a, 3, rfl, by decide, by decide, (X2.new nl).pool, fun v2 H3 hv2 X3 k3 => ?_⟩⟩⟩
      have hl3 : H3 l = some (.lst [.int 100, .int 99, .int (v1 : Int)]) := by rw [k3 _ (X2.pool.ne nl)]; exact upd_same
      have hit : ∃ n : Nat, ([.int 100, .int 99, .int (v1 : Int)] : List V)[v2]? = some (.int (n : Int)) ∧ n ≤ 100 := by
        have h3 : v2 < 3 := by omega
        match v2, h3 with
        | 0, _ => exact ⟨100, rfl, by decide⟩
        | 1, _ => exact ⟨99, rfl, by decide⟩
        | 2, _ => exact ⟨v1, rfl, by omega⟩
      obtain ⟨n, hn3, hn2⟩ := hit
      have X13 := X1.trans ((X2.new nl).trans X3)
      refine ⟨_, _, _, _, rfl, rfl, SqL.of hl3, atI_nat hn3, ?_⟩
      refine ⟨_, rfl, _, rfl, p, a, n, rfl, hn2, X13.pool, fun c b it gt rt ot ga ra oa H4 X4 hc => ?_⟩
      obtain ⟨S, Fw, hTx, hsl⟩ := lg_dr (n := n) (b := b) hn2
      by_cases e100 : n = 100
      · subst e100
        refine ⟨_, rfl, rfl, _, rfl, iteT ?_⟩
        refine ⟨_, rfl, _, rfl, c, _, lgD 100 b, it, gt, rt, ot, ga, ra, oa, false, rfl, hc, S, Fw, hsl, .inr ⟨⟨100, lastG, rfl, lg_last, fun _ ord L => lg_deep b L⟩, rfl⟩, fun l5 H5 E5 hl5 => ?_⟩
        exact ⟨(by show 2 ≤ sizeLine; decide), fun l2 nl2 => ⟨_, _, dp_bls78 (l := [false, true]) (Ex.new nl2 _ _ hl5), dp_bls78 (l := [false, true]) upd_same, shaped_bls78 _, shaped_bls78 _, q _⟩⟩
      · have hb0 : decide (V.int (n : Int) = V.int 100) = false := decide_eq_false fun z => e100 (by injection z; omega)
        refine ⟨_, rfl, rfl, decide (V.int (n : Int) = V.int 100), rfl, ?_⟩
        rw [hb0]
        refine iteF ?_
        have M := lg_mv (n := n) (b := b)
        have SE := mov_sound S Fw lg_last M
        have hml : (movD (lgD n b) n lastG).gates.length ≤ 100 := by
          show ((lgD n b).gates.set n _).length ≤ 100
          rw [List.length_set, lg_len]; omega
        refine ⟨_, rfl, _, rfl, c, _, lgD n b, it, gt, rt, ot, ga, ra, oa, rfl, hc, S, Fw, hsl, fun z => absurd ⟨Int.natCast_nonneg _, Int.ofNat_lt.mpr (by rw [lg_len]; omega)⟩ z, fun k' gd' e1 e2 nM => ?_, fun k' gd' e1 e2 _ ord L => ?_⟩
        · have ek : k' = n := by omega
          subst ek
          rw [lg_last] at e2
          cases e2
          exact absurd M nM
        have ek : k' = n := by omega
        subst ek
        rw [lg_last] at e2
        cases e2
        obtain ⟨p1, _, p2⟩ := SE.ord hml L
        refine ⟨fun dp => absurd dp p2, fun _ ca ita gta rta ota gaa raa oaa H7 E7 hca => ?_⟩
        have hc7 := hc.te (.of E7)
        refine ⟨_, rfl, _, rfl, c, k', lgD k' b, lastG, it, gt, rt, ot, ga, ra, oa, rfl, hc7, S, Fw, hTx, lg_last, by decide +kernel, fun nM => absurd M nM, fun _ cm itm gtm rtm otm gam ram oam H8 E8 hcm => ?_⟩
        exact ⟨_, _, circD (movD (lgD k' b) k' lastG), rfl, rep_circ (hca.te (.of E8)), rep_circ hcm, ok_circD (circFew_of SE), q _⟩
end
end G
namespace G
open PySem PySem.Spec PyProof.Rows L2
/-- the defs and the built-in names as the top has left them -/
structure All (K : PySem.W.Frag) (mg : Str → Option Value) : Prop where
  d_check_circuit : Dfd K mg "check_circuit" s_check_circuit ["circuit"]
  d_sources : Dfd K mg "sources" s_sources ["circuit"]
  d_check_nets : Dfd K mg "check_nets" s_check_nets ["circuit", "names"]
  d_check_pin_range : Dfd K mg "check_pin_range" s_check_pin_range ["pair"]
  d_check_reg : Dfd K mg "check_reg" s_check_reg ["reg"]
  d_least_order : Dfd K mg "least_order" s_least_order ["needed"]
  d_all_names : Dfd K mg "_all_names" s_all_names ["circuit"]
  d_check_names : Dfd K mg "_check_names" s_check_names ["circuit"]
  d_check_counts : Dfd K mg "_check_counts" s_check_counts ["gate"]
  d_check_paths : Dfd K mg "_check_paths" s_check_paths ["gates"]
  d_gates_read : Dfd K mg "_gates_read" s_gates_read ["gates"]
  d_cycle : Dfd K mg "_cycle" s_cycle ["read", "order"]
  d_look_up : Dfd K mg "look_up" s_look_up ["table", "bits"]
  d_move_forward : Dfd K mg "move_forward" s_move_forward ["circuit", "g"]
  d_check_move : Dfd K mg "_check_move" s_check_move ["circuit", "gate", "read"]
  d_without_unread : Dfd K mg "_without_unread" s_without_unread ["gates", "regs", "outputs", "names"]
  d_law_pool : Dfd K mg "_law_pool" s_law_pool ["script"]
  d_law_spread : Dfd K mg "_law_spread" s_law_spread ["cell"]
  d_law_draw : Dfd K mg "_law_draw" s_law_draw ["pool", "many"]
  d_law_same : Dfd K mg "_law_same" s_law_same ["actual", "due"]
  d_law_bits : Dfd K mg "_law_bits" s_law_bits ["index", "many"]
  d_law_table : Dfd K mg "_law_table" s_law_table ["pool", "many"]
  d_law_register : Dfd K mg "_law_register" s_law_register ["pool", "name", "net"]
  d_law_shuffled : Dfd K mg "_law_shuffled" s_law_shuffled ["pool", "rows"]
  d_law_circuit : Dfd K mg "_law_circuit" s_law_circuit ["pool", "most"]
  d_law_moved : Dfd K mg "_law_moved" s_law_moved ["circuit", "g"]
  d_law_even : Dfd K mg "_law_even" s_law_even ["pool", "circuit"]
  d_law_told : Dfd K mg "_law_told" s_law_told ["circuit", "g"]
  d_law_long : Dfd K mg "_law_long" s_law_long ["pool", "many"]
  z_super : mg "super" = none
  z_len : mg "len" = none
  z_list : mg "list" = none
  z_enumerate : mg "enumerate" = none
  z_set : mg "set" = none
  z_tuple : mg "tuple" = none
  z_max : mg "max" = none
  z_sum : mg "sum" = none
  z_any : mg "any" = none
  z_int : mg "int" = none
  z_range : mg "range" = none
  z_isinstance : mg "isinstance" = none
  z_bool : mg "bool" = none
  z_str : mg "str" = none
  z_sorted : mg "sorted" = none
  z_ValueError : mg "ValueError" = none
  c_MOST_PINS : ∃ t, mg "MOST_PINS" = some (.int 6 t)
  c_LONGEST_PATH : ∃ t, mg "LONGEST_PATH" = some (.int 100 t)
  c_LEAST_SPREAD : ∃ t, mg "LEAST_SPREAD" = some (.int 2 t)
  y_heappop : mg "heappop" = some (.builtin "_heapq.heappop")
  y_heappush : mg "heappush" = some (.builtin "_heapq.heappush")
  i_BadArgument : ∃ C : Addr, ExcI K mg "BadArgument" C ∧ IsK K mg C "BadArgument" true ∧ IsK K mg C "Refused" false ∧ CatchK K mg C "SignoffError"
  i_Refused : ∃ C : Addr, ExcI K mg "Refused" C ∧ IsK K mg C "BadArgument" false ∧ IsK K mg C "Refused" true ∧ CatchK K mg C "SignoffError"
  e_NameClash : ∃ C : Addr, ExcH K mg "NameClash" C
  e_WrongCount : ∃ C : Addr, ExcH K mg "WrongCount" C
  e_UnknownName : ∃ C : Addr, ExcH K mg "UnknownName" C
  e_BadRange : ∃ C : Addr, ExcH K mg "BadRange" C
  e_TooDeep : ∃ C : Addr, ExcH K mg "TooDeep" C
end G
namespace G
open PySem PySem.Spec PyProof.Rows L2
theorem glue {P : Program} {w : World} {K : PySem.W.Frag} {mg : Str → Option Value} {base : Heap} (A : All K mg) (OX : ∃ (C f : Addr) (fd : FuncData), ErrF P K mg "Looped" "Looped.__init__" C f fd s_Looped_init "names")
    {f : Addr} {fd : FuncData} (F : Fun K "law" "law" s_law f fd) : FnOk P w K mg base CX0 8 f fd ["script"] (spLaw K) := by
  have TL : TxtL mg := ⟨A.z_int, A.z_len, A.z_list, A.z_range⟩
  have TS : TxtS mg := ⟨A.z_isinstance, A.z_tuple, A.z_list, A.z_len, A.z_range, A.z_bool, A.z_int, A.z_str⟩
  have TC : TxtC mg := ⟨A.z_len, A.z_set⟩
  have TM : TxtM mg := ⟨A.z_len, A.z_list, A.z_tuple, A.z_enumerate, A.z_sum⟩
  have TV : TxtMv mg := ⟨A.z_len, A.z_any, A.z_tuple⟩
  obtain ⟨Lc, fL, dL, OB⟩ := OX
  have OL := own_Looped (w := w) (base := base) OB A.z_len
  obtain ⟨Cn, UN⟩ := A.e_NameClash
  obtain ⟨Cw, UW⟩ := A.e_WrongCount
  obtain ⟨Cu, UU⟩ := A.e_UnknownName
  obtain ⟨Cr, UR⟩ := A.e_BadRange
  obtain ⟨Dc, UD⟩ := A.e_TooDeep
  obtain ⟨Ba, UB, b0, b1, b2⟩ := A.i_BadArgument
  obtain ⟨Fa, UF, f0, f1, f2⟩ := A.i_Refused
  obtain ⟨S, gS, hS⟩ := id b2
  have gb := UB.u.gC
  have gf := UF.u.gC
  have t0 : DuoM K Ba Ba Fa S true false := ⟨UB.isc, b0.at_ gb, b1.at_ gf, b2.at_ gS⟩
  have t1 : DuoM K Fa Ba Fa S false true := ⟨UF.isc, f0.at_ gb, f1.at_ gf, f2.at_ gS⟩
  have hd := drawX (P := P) (w := w) (base := base) (ok_law_draw A.d_law_draw TL (ok_law_spread A.d_law_spread TL))
  have hb := ok_law_bits (P := P) (w := w) (base := base) A.d_law_bits TS
  have hsh := ok_law_shuffled A.d_law_shuffled TS hd
  have hgr := ok_gates_read (P := P) (w := w) (base := base) A.d_gates_read ⟨A.z_enumerate⟩
  have hlo := ok_least_order (P := P) (w := w) (base := base) A.d_least_order ⟨A.z_len, A.z_enumerate, A.y_heappop, A.y_heappush⟩
  have hal := ok_all_names (P := P) (w := w) (base := base) A.d_all_names ⟨A.z_list⟩
  have hpa := ok_check_paths (P := P) (w := w) (base := base) A.d_check_paths ⟨A.z_len, A.z_tuple, A.z_max⟩ UD.u OL A.c_LONGEST_PATH hgr hlo (ok_cycle A.d_cycle ⟨A.z_len⟩)
  have hck := ok_check_circuit A.d_check_circuit (ok_check_names A.d_check_names UN.u TC hal) (ok_check_counts A.d_check_counts UW.u TC A.c_MOST_PINS) (ok_check_nets A.d_check_nets UU.u hal) (ok_check_pin_range A.d_check_pin_range UR.u A.c_LEAST_SPREAD) (ok_check_reg A.d_check_reg UR.u) hpa
  have hmv := ok_move_forward A.d_move_forward TV UB.u UF.u UD (ok_check_move A.d_check_move TV UF.u (ok_sources A.d_sources TM)) (ok_look_up A.d_look_up TM) (ok_without_unread A.d_without_unread TM) hck
  exact fn_law F TS (ok_law_pool A.d_law_pool TL) hd (ok_law_circuit A.d_law_circuit TS hd (ok_law_table A.d_law_table TS hd hb) (ok_law_register A.d_law_register hd) hsh)
    (ok_law_even A.d_law_even TS hd) hck (ok_law_told A.d_law_told TS gb gf gS t0 t1 hmv) (ok_law_moved A.d_law_moved TS) hmv (ok_law_same A.d_law_same TS 6) (ok_law_long A.d_law_long TS hd)
end G
namespace G
open PySem PySem.Spec PyProof.Rows L2
theorem all_mk {l : PySem.W.OpenLaw} {w : World} {K : PySem.W.Frag} {h : Heap} {mg : Str → Option Value} {fa f0 f1 f2 f3 f4 f5 f6 f7 f8 f9 f10 f11 f12 f13 f14 f15 f16 f17 f18 f19 f20 f21 f22 f23 f24 f25 f26 f27 f28 f29 : Addr} (X : K.In h) (G : h.Ns mainGlobals mg) (hfa : mg "law" = some (.ref fa))
    {od0 an0 od1 an1 od2 an2 od3 an3 od4 an4 od5 an5 od6 an6 od7 an7 od8 an8 od9 an9 od10 an10 od11 an11 od12 an12 od13 an13 od14 an14 od15 an15 od16 an16 od17 an17 od18 an18 od19 an19 od20 an20 od21 an21 od22 an22 od23 an23 od24 an24 od25 an25 od26 an26 od27 an27 od28 an28 od29 an29 : Option Addr} {sl0 sl1 sl2 sl3 sl4 sl5 sl6 sl7 sl8 sl9 sl10 sl11 sl12 sl13 sl14 sl15 sl16 sl17 sl18 sl19 sl20 sl21 sl22 sl23 sl24 sl25 sl26 sl27 sl28 sl29 : Array (Option Value)} {oc0 kv0 dc0 pm0 cd0 ct0 oc1 kv1 dc1 pm1 cd1 ct1 oc2 kv2 dc2 pm2 cd2 ct2 oc3 kv3 dc3 pm3 cd3 ct3 oc4 kv4 dc4 pm4 cd4 ct4 oc5 kv5 dc5 pm5 cd5 ct5 oc6 kv6 dc6 pm6 cd6 ct6 oc7 kv7 dc7 pm7 cd7 ct7 oc8 kv8 dc8 pm8 cd8 ct8 oc9 kv9 dc9 pm9 cd9 ct9 oc10 kv10 dc10 pm10 cd10 ct10 oc11 kv11 dc11 pm11 cd11 ct11 oc12 kv12 dc12 pm12 cd12 ct12 oc13 kv13 dc13 pm13 cd13 ct13 oc14 kv14 dc14 pm14 cd14 ct14 oc15 kv15 dc15 pm15 cd15 ct15 oc16 kv16 dc16 pm16 cd16 ct16 oc17 kv17 dc17 pm17 cd17 ct17 oc18 kv18 dc18 pm18 cd18 ct18 oc19 kv19 dc19 pm19 cd19 ct19 oc20 kv20 dc20 pm20 cd20 ct20 oc21 kv21 dc21 pm21 cd21 ct21 oc22 kv22 dc22 pm22 cd22 ct22 oc23 kv23 dc23 pm23 cd23 ct23 oc24 kv24 dc24 pm24 cd24 ct24 oc25 kv25 dc25 pm25 cd25 ct25 oc26 kv26 dc26 pm26 cd26 ct26 oc27 kv27 dc27 pm27 cd27 ct27 oc28 kv28 dc28 pm28 cd28 ct28 oc29 kv29 dc29 pm29 cd29 ct29 : Value}
    (a0 : PySem.W.nsIn K mainGlobals "check_circuit" = some (some (.ref f0))) (l0 : K.lookup f0 = some ⟨oc0, od0, .func (PySem.W.fnOf "check_circuit" "check_circuit" (defArgs s_check_circuit) (defBody s_check_circuit) (defScope s_check_circuit) .none kv0 dc0 pm0 an0 cd0 ct0), sl0⟩) (c0 : PySem.W.codeIn K cd0 "check_circuit" = true) (k0 : PySem.W.keepIn K (.ref f0) = true)
    (a1 : PySem.W.nsIn K mainGlobals "sources" = some (some (.ref f1))) (l1 : K.lookup f1 = some ⟨oc1, od1, .func (PySem.W.fnOf "sources" "sources" (defArgs s_sources) (defBody s_sources) (defScope s_sources) .none kv1 dc1 pm1 an1 cd1 ct1), sl1⟩) (c1 : PySem.W.codeIn K cd1 "sources" = true) (k1 : PySem.W.keepIn K (.ref f1) = true)
    (a2 : PySem.W.nsIn K mainGlobals "check_nets" = some (some (.ref f2))) (l2 : K.lookup f2 = some ⟨oc2, od2, .func (PySem.W.fnOf "check_nets" "check_nets" (defArgs s_check_nets) (defBody s_check_nets) (defScope s_check_nets) .none kv2 dc2 pm2 an2 cd2 ct2), sl2⟩) (c2 : PySem.W.codeIn K cd2 "check_nets" = true) (k2 : PySem.W.keepIn K (.ref f2) = true)
    (a3 : PySem.W.nsIn K mainGlobals "check_pin_range" = some (some (.ref f3))) (l3 : K.lookup f3 = some ⟨oc3, od3, .func (PySem.W.fnOf "check_pin_range" "check_pin_range" (defArgs s_check_pin_range) (defBody s_check_pin_range) (defScope s_check_pin_range) .none kv3 dc3 pm3 an3 cd3 ct3), sl3⟩) (c3 : PySem.W.codeIn K cd3 "check_pin_range" = true) (k3 : PySem.W.keepIn K (.ref f3) = true)
    (a4 : PySem.W.nsIn K mainGlobals "check_reg" = some (some (.ref f4))) (l4 : K.lookup f4 = some ⟨oc4, od4, .func (PySem.W.fnOf "check_reg" "check_reg" (defArgs s_check_reg) (defBody s_check_reg) (defScope s_check_reg) .none kv4 dc4 pm4 an4 cd4 ct4), sl4⟩) (c4 : PySem.W.codeIn K cd4 "check_reg" = true) (k4 : PySem.W.keepIn K (.ref f4) = true)
    (a5 : PySem.W.nsIn K mainGlobals "least_order" = some (some (.ref f5))) (l5 : K.lookup f5 = some ⟨oc5, od5, .func (PySem.W.fnOf "least_order" "least_order" (defArgs s_least_order) (defBody s_least_order) (defScope s_least_order) .none kv5 dc5 pm5 an5 cd5 ct5), sl5⟩) (c5 : PySem.W.codeIn K cd5 "least_order" = true) (k5 : PySem.W.keepIn K (.ref f5) = true)
    (a6 : PySem.W.nsIn K mainGlobals "_all_names" = some (some (.ref f6))) (l6 : K.lookup f6 = some ⟨oc6, od6, .func (PySem.W.fnOf "_all_names" "_all_names" (defArgs s_all_names) (defBody s_all_names) (defScope s_all_names) .none kv6 dc6 pm6 an6 cd6 ct6), sl6⟩) (c6 : PySem.W.codeIn K cd6 "_all_names" = true) (k6 : PySem.W.keepIn K (.ref f6) = true)
    (a7 : PySem.W.nsIn K mainGlobals "_check_names" = some (some (.ref f7))) (l7 : K.lookup f7 = some ⟨oc7, od7, .func (PySem.W.fnOf "_check_names" "_check_names" (defArgs s_check_names) (defBody s_check_names) (defScope s_check_names) .none kv7 dc7 pm7 an7 cd7 ct7), sl7⟩) (c7 : PySem.W.codeIn K cd7 "_check_names" = true) (k7 : PySem.W.keepIn K (.ref f7) = true)
    (a8 : PySem.W.nsIn K mainGlobals "_check_counts" = some (some (.ref f8))) (l8 : K.lookup f8 = some ⟨oc8, od8, .func (PySem.W.fnOf "_check_counts" "_check_counts" (defArgs s_check_counts) (defBody s_check_counts) (defScope s_check_counts) .none kv8 dc8 pm8 an8 cd8 ct8), sl8⟩) (c8 : PySem.W.codeIn K cd8 "_check_counts" = true) (k8 : PySem.W.keepIn K (.ref f8) = true)
    (a9 : PySem.W.nsIn K mainGlobals "_check_paths" = some (some (.ref f9))) (l9 : K.lookup f9 = some ⟨oc9, od9, .func (PySem.W.fnOf "_check_paths" "_check_paths" (defArgs s_check_paths) (defBody s_check_paths) (defScope s_check_paths) .none kv9 dc9 pm9 an9 cd9 ct9), sl9⟩) (c9 : PySem.W.codeIn K cd9 "_check_paths" = true) (k9 : PySem.W.keepIn K (.ref f9) = true)
    (a10 : PySem.W.nsIn K mainGlobals "_gates_read" = some (some (.ref f10))) (l10 : K.lookup f10 = some ⟨oc10, od10, .func (PySem.W.fnOf "_gates_read" "_gates_read" (defArgs s_gates_read) (defBody s_gates_read) (defScope s_gates_read) .none kv10 dc10 pm10 an10 cd10 ct10), sl10⟩) (c10 : PySem.W.codeIn K cd10 "_gates_read" = true) (k10 : PySem.W.keepIn K (.ref f10) = true)
    (a11 : PySem.W.nsIn K mainGlobals "_cycle" = some (some (.ref f11))) (l11 : K.lookup f11 = some ⟨oc11, od11, .func (PySem.W.fnOf "_cycle" "_cycle" (defArgs s_cycle) (defBody s_cycle) (defScope s_cycle) .none kv11 dc11 pm11 an11 cd11 ct11), sl11⟩) (c11 : PySem.W.codeIn K cd11 "_cycle" = true) (k11 : PySem.W.keepIn K (.ref f11) = true)
    (a12 : PySem.W.nsIn K mainGlobals "look_up" = some (some (.ref f12))) (l12 : K.lookup f12 = some ⟨oc12, od12, .func (PySem.W.fnOf "look_up" "look_up" (defArgs s_look_up) (defBody s_look_up) (defScope s_look_up) .none kv12 dc12 pm12 an12 cd12 ct12), sl12⟩) (c12 : PySem.W.codeIn K cd12 "look_up" = true) (k12 : PySem.W.keepIn K (.ref f12) = true)
    (a13 : PySem.W.nsIn K mainGlobals "move_forward" = some (some (.ref f13))) (l13 : K.lookup f13 = some ⟨oc13, od13, .func (PySem.W.fnOf "move_forward" "move_forward" (defArgs s_move_forward) (defBody s_move_forward) (defScope s_move_forward) .none kv13 dc13 pm13 an13 cd13 ct13), sl13⟩) (c13 : PySem.W.codeIn K cd13 "move_forward" = true) (k13 : PySem.W.keepIn K (.ref f13) = true)
    (a14 : PySem.W.nsIn K mainGlobals "_check_move" = some (some (.ref f14))) (l14 : K.lookup f14 = some ⟨oc14, od14, .func (PySem.W.fnOf "_check_move" "_check_move" (defArgs s_check_move) (defBody s_check_move) (defScope s_check_move) .none kv14 dc14 pm14 an14 cd14 ct14), sl14⟩) (c14 : PySem.W.codeIn K cd14 "_check_move" = true) (k14 : PySem.W.keepIn K (.ref f14) = true)
    (a15 : PySem.W.nsIn K mainGlobals "_without_unread" = some (some (.ref f15))) (l15 : K.lookup f15 = some ⟨oc15, od15, .func (PySem.W.fnOf "_without_unread" "_without_unread" (defArgs s_without_unread) (defBody s_without_unread) (defScope s_without_unread) .none kv15 dc15 pm15 an15 cd15 ct15), sl15⟩) (c15 : PySem.W.codeIn K cd15 "_without_unread" = true) (k15 : PySem.W.keepIn K (.ref f15) = true)
    (a16 : PySem.W.nsIn K mainGlobals "_law_pool" = some (some (.ref f16))) (l16 : K.lookup f16 = some ⟨oc16, od16, .func (PySem.W.fnOf "_law_pool" "_law_pool" (defArgs s_law_pool) (defBody s_law_pool) (defScope s_law_pool) .none kv16 dc16 pm16 an16 cd16 ct16), sl16⟩) (c16 : PySem.W.codeIn K cd16 "_law_pool" = true) (k16 : PySem.W.keepIn K (.ref f16) = true)
    (a17 : PySem.W.nsIn K mainGlobals "_law_spread" = some (some (.ref f17))) (l17 : K.lookup f17 = some ⟨oc17, od17, .func (PySem.W.fnOf "_law_spread" "_law_spread" (defArgs s_law_spread) (defBody s_law_spread) (defScope s_law_spread) .none kv17 dc17 pm17 an17 cd17 ct17), sl17⟩) (c17 : PySem.W.codeIn K cd17 "_law_spread" = true) (k17 : PySem.W.keepIn K (.ref f17) = true)
    (a18 : PySem.W.nsIn K mainGlobals "_law_draw" = some (some (.ref f18))) (l18 : K.lookup f18 = some ⟨oc18, od18, .func (PySem.W.fnOf "_law_draw" "_law_draw" (defArgs s_law_draw) (defBody s_law_draw) (defScope s_law_draw) .none kv18 dc18 pm18 an18 cd18 ct18), sl18⟩) (c18 : PySem.W.codeIn K cd18 "_law_draw" = true) (k18 : PySem.W.keepIn K (.ref f18) = true)
    (a19 : PySem.W.nsIn K mainGlobals "_law_same" = some (some (.ref f19))) (l19 : K.lookup f19 = some ⟨oc19, od19, .func (PySem.W.fnOf "_law_same" "_law_same" (defArgs s_law_same) (defBody s_law_same) (defScope s_law_same) .none kv19 dc19 pm19 an19 cd19 ct19), sl19⟩) (c19 : PySem.W.codeIn K cd19 "_law_same" = true) (k19 : PySem.W.keepIn K (.ref f19) = true)
    (a20 : PySem.W.nsIn K mainGlobals "_law_bits" = some (some (.ref f20))) (l20 : K.lookup f20 = some ⟨oc20, od20, .func (PySem.W.fnOf "_law_bits" "_law_bits" (defArgs s_law_bits) (defBody s_law_bits) (defScope s_law_bits) .none kv20 dc20 pm20 an20 cd20 ct20), sl20⟩) (c20 : PySem.W.codeIn K cd20 "_law_bits" = true) (k20 : PySem.W.keepIn K (.ref f20) = true)
    (a21 : PySem.W.nsIn K mainGlobals "_law_table" = some (some (.ref f21))) (l21 : K.lookup f21 = some ⟨oc21, od21, .func (PySem.W.fnOf "_law_table" "_law_table" (defArgs s_law_table) (defBody s_law_table) (defScope s_law_table) .none kv21 dc21 pm21 an21 cd21 ct21), sl21⟩) (c21 : PySem.W.codeIn K cd21 "_law_table" = true) (k21 : PySem.W.keepIn K (.ref f21) = true)
    (a22 : PySem.W.nsIn K mainGlobals "_law_register" = some (some (.ref f22))) (l22 : K.lookup f22 = some ⟨oc22, od22, .func (PySem.W.fnOf "_law_register" "_law_register" (defArgs s_law_register) (defBody s_law_register) (defScope s_law_register) .none kv22 dc22 pm22 an22 cd22 ct22), sl22⟩) (c22 : PySem.W.codeIn K cd22 "_law_register" = true) (k22 : PySem.W.keepIn K (.ref f22) = true)
    (a23 : PySem.W.nsIn K mainGlobals "_law_shuffled" = some (some (.ref f23))) (l23 : K.lookup f23 = some ⟨oc23, od23, .func (PySem.W.fnOf "_law_shuffled" "_law_shuffled" (defArgs s_law_shuffled) (defBody s_law_shuffled) (defScope s_law_shuffled) .none kv23 dc23 pm23 an23 cd23 ct23), sl23⟩) (c23 : PySem.W.codeIn K cd23 "_law_shuffled" = true) (k23 : PySem.W.keepIn K (.ref f23) = true)
    (a24 : PySem.W.nsIn K mainGlobals "_law_circuit" = some (some (.ref f24))) (l24 : K.lookup f24 = some ⟨oc24, od24, .func (PySem.W.fnOf "_law_circuit" "_law_circuit" (defArgs s_law_circuit) (defBody s_law_circuit) (defScope s_law_circuit) .none kv24 dc24 pm24 an24 cd24 ct24), sl24⟩) (c24 : PySem.W.codeIn K cd24 "_law_circuit" = true) (k24 : PySem.W.keepIn K (.ref f24) = true)
    (a25 : PySem.W.nsIn K mainGlobals "_law_moved" = some (some (.ref f25))) (l25 : K.lookup f25 = some ⟨oc25, od25, .func (PySem.W.fnOf "_law_moved" "_law_moved" (defArgs s_law_moved) (defBody s_law_moved) (defScope s_law_moved) .none kv25 dc25 pm25 an25 cd25 ct25), sl25⟩) (c25 : PySem.W.codeIn K cd25 "_law_moved" = true) (k25 : PySem.W.keepIn K (.ref f25) = true)
    (a26 : PySem.W.nsIn K mainGlobals "_law_even" = some (some (.ref f26))) (l26 : K.lookup f26 = some ⟨oc26, od26, .func (PySem.W.fnOf "_law_even" "_law_even" (defArgs s_law_even) (defBody s_law_even) (defScope s_law_even) .none kv26 dc26 pm26 an26 cd26 ct26), sl26⟩) (c26 : PySem.W.codeIn K cd26 "_law_even" = true) (k26 : PySem.W.keepIn K (.ref f26) = true)
    (a27 : PySem.W.nsIn K mainGlobals "_law_told" = some (some (.ref f27))) (l27 : K.lookup f27 = some ⟨oc27, od27, .func (PySem.W.fnOf "_law_told" "_law_told" (defArgs s_law_told) (defBody s_law_told) (defScope s_law_told) .none kv27 dc27 pm27 an27 cd27 ct27), sl27⟩) (c27 : PySem.W.codeIn K cd27 "_law_told" = true) (k27 : PySem.W.keepIn K (.ref f27) = true)
    (a28 : PySem.W.nsIn K mainGlobals "_law_long" = some (some (.ref f28))) (l28 : K.lookup f28 = some ⟨oc28, od28, .func (PySem.W.fnOf "_law_long" "_law_long" (defArgs s_law_long) (defBody s_law_long) (defScope s_law_long) .none kv28 dc28 pm28 an28 cd28 ct28), sl28⟩) (c28 : PySem.W.codeIn K cd28 "_law_long" = true) (k28 : PySem.W.keepIn K (.ref f28) = true)
    (a29 : PySem.W.nsIn K mainGlobals "law" = some (some (.ref f29))) (l29 : K.lookup f29 = some ⟨oc29, od29, .func (PySem.W.fnOf "law" "law" (defArgs s_law) (defBody s_law) (defScope s_law) .none kv29 dc29 pm29 an29 cd29 ct29), sl29⟩) (c29 : PySem.W.codeIn K cd29 "law" = true) (k29 : PySem.W.keepIn K (.ref f29) = true)
    {ct0 : Tok} (g0 : PySem.W.nsIn K mainGlobals "MOST_PINS" = some (some (.int 6 ct0)))
    {ct1 : Tok} (g1 : PySem.W.nsIn K mainGlobals "LONGEST_PATH" = some (some (.int 100 ct1)))
    {ct2 : Tok} (g2 : PySem.W.nsIn K mainGlobals "LEAST_SPREAD" = some (some (.int 2 ct2)))
    (m0 : PySem.W.nsIn K mainGlobals "heappop" = some (some (.builtin "_heapq.heappop")))
    (m1 : PySem.W.nsIn K mainGlobals "heappush" = some (some (.builtin "_heapq.heappush")))
    {xC0 : Addr} (u0_0 : PySem.W.nsIn K mainGlobals "NameClash" = some (some (.ref xC0))) (u0_1 : PySem.W.excIn K xC0 [.type "ValueError", .type "Exception", .type "BaseException", .type "object"] "ValueError.__new__" = true) (u0_2 : PySem.W.keepIn K (.ref xC0) = true) (u0_3 : PySem.W.subIn K (.ref xC0) (.type "BaseException") = some true) (u0_4 : PySem.W.typeIn K (.ref xC0) = some (.type "type")) (u0_5 : PySem.W.hasDictIn K xC0 = true) (u0_6 : PySem.W.subIn K (.ref xC0) (.ref xC0) = some true)
    {xC1 : Addr} (u1_0 : PySem.W.nsIn K mainGlobals "WrongCount" = some (some (.ref xC1))) (u1_1 : PySem.W.excIn K xC1 [.type "ValueError", .type "Exception", .type "BaseException", .type "object"] "ValueError.__new__" = true) (u1_2 : PySem.W.keepIn K (.ref xC1) = true) (u1_3 : PySem.W.subIn K (.ref xC1) (.type "BaseException") = some true) (u1_4 : PySem.W.typeIn K (.ref xC1) = some (.type "type")) (u1_5 : PySem.W.hasDictIn K xC1 = true) (u1_6 : PySem.W.subIn K (.ref xC1) (.ref xC1) = some true)
    {xC2 : Addr} (u2_0 : PySem.W.nsIn K mainGlobals "UnknownName" = some (some (.ref xC2))) (u2_1 : PySem.W.excIn K xC2 [.type "ValueError", .type "Exception", .type "BaseException", .type "object"] "ValueError.__new__" = true) (u2_2 : PySem.W.keepIn K (.ref xC2) = true) (u2_3 : PySem.W.subIn K (.ref xC2) (.type "BaseException") = some true) (u2_4 : PySem.W.typeIn K (.ref xC2) = some (.type "type")) (u2_5 : PySem.W.hasDictIn K xC2 = true) (u2_6 : PySem.W.subIn K (.ref xC2) (.ref xC2) = some true)
    {xC3 : Addr} (u3_0 : PySem.W.nsIn K mainGlobals "BadRange" = some (some (.ref xC3))) (u3_1 : PySem.W.excIn K xC3 [.type "ValueError", .type "Exception", .type "BaseException", .type "object"] "ValueError.__new__" = true) (u3_2 : PySem.W.keepIn K (.ref xC3) = true) (u3_3 : PySem.W.subIn K (.ref xC3) (.type "BaseException") = some true) (u3_4 : PySem.W.typeIn K (.ref xC3) = some (.type "type")) (u3_5 : PySem.W.hasDictIn K xC3 = true) (u3_6 : PySem.W.subIn K (.ref xC3) (.ref xC3) = some true)
    {xC4 : Addr} (u4_0 : PySem.W.nsIn K mainGlobals "TooDeep" = some (some (.ref xC4))) (u4_1 : PySem.W.excIn K xC4 [.type "ValueError", .type "Exception", .type "BaseException", .type "object"] "ValueError.__new__" = true) (u4_2 : PySem.W.keepIn K (.ref xC4) = true) (u4_3 : PySem.W.subIn K (.ref xC4) (.type "BaseException") = some true) (u4_4 : PySem.W.typeIn K (.ref xC4) = some (.type "type")) (u4_5 : PySem.W.hasDictIn K xC4 = true) (u4_6 : PySem.W.subIn K (.ref xC4) (.ref xC4) = some true)
    {iC0 iD0_0 iD0_1 iD0_2 : Addr} (w0_0 : PySem.W.nsIn K mainGlobals "BadArgument" = some (some (.ref iC0))) (w0_1 : PySem.W.excIn K iC0 [.type "ValueError", .type "Exception", .type "BaseException", .type "object"] "ValueError.__new__" = true) (w0_2 : PySem.W.keepIn K (.ref iC0) = true) (w0_3 : PySem.W.subIn K (.ref iC0) (.type "BaseException") = some true) (w0_4 : PySem.W.typeIn K (.ref iC0) = some (.type "type")) (w0_5 : PySem.W.hasDictIn K iC0 = true) (w0_6 : PySem.W.subIn K (.ref iC0) (.ref iC0) = some true) (w0_7 : PySem.W.findIn K (.ref iC0) "__getattribute__" = some (some (.builtin "BaseException.__getattribute__"))) (w0_8 : PySem.W.findIn K (.ref iC0) "__getattr__" = some none) (w0_9 : PySem.W.findIn K (.ref iC0) "__class__" = some (some (.builtin "object.__class__"))) (w0_10 : PySem.W.specialIn K (.builtin "object.__class__") "__get__" = some (some (.builtin "getset_descriptor.__get__"))) (w0_11 : PySem.W.takesIn K (.builtin "object.__class__") = some true) (w0_12 : PySem.W.mroIn K iC0 (.type "object") = some true) (w0_13 : PySem.W.nsIn K mainGlobals "BadArgument" = some (some (.ref iD0_0))) (w0_14 : PySem.W.kitOne K (.ref iC0) (.ref iD0_0) = some true) (w0_15 : PySem.W.nsIn K mainGlobals "Refused" = some (some (.ref iD0_1))) (w0_16 : PySem.W.kitOne K (.ref iC0) (.ref iD0_1) = some false) (w0_17 : PySem.W.nsIn K mainGlobals "SignoffError" = some (some (.ref iD0_2))) (w0_18 : PySem.W.subIn K (.ref iD0_2) (.type "BaseException") = some true) (w0_19 : PySem.W.hasDictIn K iD0_2 = true) (w0_20 : PySem.W.typeIn K (.ref iD0_2) = some (.type "type")) (w0_21 : PySem.W.subIn K (.ref iC0) (.ref iD0_2) = some true)
    {iC1 iD1_0 iD1_1 iD1_2 : Addr} (w1_0 : PySem.W.nsIn K mainGlobals "Refused" = some (some (.ref iC1))) (w1_1 : PySem.W.excIn K iC1 [.type "ValueError", .type "Exception", .type "BaseException", .type "object"] "ValueError.__new__" = true) (w1_2 : PySem.W.keepIn K (.ref iC1) = true) (w1_3 : PySem.W.subIn K (.ref iC1) (.type "BaseException") = some true) (w1_4 : PySem.W.typeIn K (.ref iC1) = some (.type "type")) (w1_5 : PySem.W.hasDictIn K iC1 = true) (w1_6 : PySem.W.subIn K (.ref iC1) (.ref iC1) = some true) (w1_7 : PySem.W.findIn K (.ref iC1) "__getattribute__" = some (some (.builtin "BaseException.__getattribute__"))) (w1_8 : PySem.W.findIn K (.ref iC1) "__getattr__" = some none) (w1_9 : PySem.W.findIn K (.ref iC1) "__class__" = some (some (.builtin "object.__class__"))) (w1_10 : PySem.W.specialIn K (.builtin "object.__class__") "__get__" = some (some (.builtin "getset_descriptor.__get__"))) (w1_11 : PySem.W.takesIn K (.builtin "object.__class__") = some true) (w1_12 : PySem.W.mroIn K iC1 (.type "object") = some true) (w1_13 : PySem.W.nsIn K mainGlobals "BadArgument" = some (some (.ref iD1_0))) (w1_14 : PySem.W.kitOne K (.ref iC1) (.ref iD1_0) = some false) (w1_15 : PySem.W.nsIn K mainGlobals "Refused" = some (some (.ref iD1_1))) (w1_16 : PySem.W.kitOne K (.ref iC1) (.ref iD1_1) = some true) (w1_17 : PySem.W.nsIn K mainGlobals "SignoffError" = some (some (.ref iD1_2))) (w1_18 : PySem.W.subIn K (.ref iD1_2) (.type "BaseException") = some true) (w1_19 : PySem.W.hasDictIn K iD1_2 = true) (w1_20 : PySem.W.typeIn K (.ref iD1_2) = some (.type "type")) (w1_21 : PySem.W.subIn K (.ref iC1) (.ref iD1_2) = some true)
    {eC0 fe0 cdae0 cce0 : Addr} {ode0 ane0 od2e0 od3e0 : Option Addr} {sle0 sl2e0 sl3e0 : Array (Option Value)} {vse0 : Array Value} {filee0 : Str} {tfe0 : Tok} {oce0 kve0 dce0 pme0 cte0 oc2e0 oc3e0 : Value} (q0_0 : PySem.W.nsIn K mainGlobals "Looped" = some (some (.ref eC0))) (q0_1 : PySem.W.findIn K (.ref eC0) "__init__" = some (some (.ref fe0))) (q0_2 : K.lookup fe0 = some ⟨oce0, ode0, .func (PySem.W.fnX "__init__" "Looped.__init__" (defArgs s_Looped_init) (defBody s_Looped_init) (defScope s_Looped_init) [("__class__", cce0)] .none kve0 dce0 pme0 ane0 (.ref cdae0) cte0), sle0⟩) (q0_3 : PySem.W.codeIn K (.ref cdae0) "Looped.__init__" = true) (q0_4 : K.lookup cdae0 = some ⟨oc2e0, od2e0, .fields vse0, sl2e0⟩) (q0_5 : vse0[2]? = some (.str filee0 tfe0)) (q0_6 : K.lookup cce0 = some ⟨oc3e0, od3e0, .cell (some (.ref eC0)), sl3e0⟩) (q0_7 : oexB K eC0 = true) (q0_8 : PySem.W.findIn K (.ref eC0) "__setattr__" = some (some (.builtin "object.__setattr__"))) (q0_9 : PySem.W.subIn K (.ref eC0) (.type "BaseException") = some true) (q0_10 : PySem.W.typeIn K (.ref eC0) = some (.type "type")) (q0_11 : PySem.W.keepIn K (.ref eC0) = true) (q0_12 : PySem.W.typeIn K (.ref fe0) = some (.type "function")) (q0_13 : PySem.W.nsIn K mainGlobals "super" = some none) (q0_14 : PySem.W.nsIn K cStatics "thirdparty.any" = some none) (q0_15 : PySem.W.subIn K (.ref eC0) (.type "ValueError") = some true) (q0_16 : PySem.W.mroIn K eC0 (.ref eC0) = some true) (q0_17 : PySem.W.ks_superIn K eC0 eC0 "__init__" = some (some (.builtin "ValueError.__init__"))) (q0_18 : PySem.W.findIn K (.ref eC0) "names" = some none) (q0_19 : PySem.W.hasDictIn K eC0 = true) (q0_20 : PySem.W.findIn K (.ref eC0) "__getattribute__" = some (some (.builtin "BaseException.__getattribute__"))) (q0_21 : PySem.W.findIn K (.ref eC0) "__getattr__" = some none) (q0_22 : PySem.W.findIn K (.ref eC0) "__class__" = some (some (.builtin "object.__class__"))) (q0_23 : PySem.W.specialIn K (.builtin "object.__class__") "__get__" = some (some (.builtin "getset_descriptor.__get__"))) (q0_24 : PySem.W.takesIn K (.builtin "object.__class__") = some true) (q0_25 : PySem.W.mroIn K eC0 (.type "object") = some true) (q0_26 : ((l.prog.main.file : Str) == filee0) = true) (q0_27 : (l.prog.main.scope.names.lookup ("super" : Str)).isSome = false)
    (z0 : PySem.W.nsIn K mainGlobals "super" = some none) (z1 : PySem.W.nsIn K mainGlobals "len" = some none) (z2 : PySem.W.nsIn K mainGlobals "list" = some none) (z3 : PySem.W.nsIn K mainGlobals "enumerate" = some none) (z4 : PySem.W.nsIn K mainGlobals "set" = some none) (z5 : PySem.W.nsIn K mainGlobals "tuple" = some none) (z6 : PySem.W.nsIn K mainGlobals "max" = some none) (z7 : PySem.W.nsIn K mainGlobals "sum" = some none) (z8 : PySem.W.nsIn K mainGlobals "any" = some none) (z9 : PySem.W.nsIn K mainGlobals "int" = some none) (z10 : PySem.W.nsIn K mainGlobals "range" = some none) (z11 : PySem.W.nsIn K mainGlobals "isinstance" = some none) (z12 : PySem.W.nsIn K mainGlobals "bool" = some none) (z13 : PySem.W.nsIn K mainGlobals "str" = some none) (z14 : PySem.W.nsIn K mainGlobals "sorted" = some none) (z15 : PySem.W.nsIn K mainGlobals "ValueError" = some none) :
    ∃ fd : FuncData, (∀ (s : Shared) (v : Value), BindsTo s fd ⟨[v], []⟩ [("script", v)]) ∧ ∀ base : Heap, K.In base → base.Ns mainGlobals mg → FnOk l.prog w K mg base CX0 8 fa fd ["script"] (spLaw K) := by
  have e := hfa.symm.trans (PySem.W.mg_of X G a29)
  cases e
  have F0 := fun_mk (st := s_check_circuit) l0 c0 k0
  have F1 := fun_mk (st := s_sources) l1 c1 k1
  have F2 := fun_mk (st := s_check_nets) l2 c2 k2
  have F3 := fun_mk (st := s_check_pin_range) l3 c3 k3
  have F4 := fun_mk (st := s_check_reg) l4 c4 k4
  have F5 := fun_mk (st := s_least_order) l5 c5 k5
  have F6 := fun_mk (st := s_all_names) l6 c6 k6
  have F7 := fun_mk (st := s_check_names) l7 c7 k7
  have F8 := fun_mk (st := s_check_counts) l8 c8 k8
  have F9 := fun_mk (st := s_check_paths) l9 c9 k9
  have F10 := fun_mk (st := s_gates_read) l10 c10 k10
  have F11 := fun_mk (st := s_cycle) l11 c11 k11
  have F12 := fun_mk (st := s_look_up) l12 c12 k12
  have F13 := fun_mk (st := s_move_forward) l13 c13 k13
  have F14 := fun_mk (st := s_check_move) l14 c14 k14
  have F15 := fun_mk (st := s_without_unread) l15 c15 k15
  have F16 := fun_mk (st := s_law_pool) l16 c16 k16
  have F17 := fun_mk (st := s_law_spread) l17 c17 k17
  have F18 := fun_mk (st := s_law_draw) l18 c18 k18
  have F19 := fun_mk (st := s_law_same) l19 c19 k19
  have F20 := fun_mk (st := s_law_bits) l20 c20 k20
  have F21 := fun_mk (st := s_law_table) l21 c21 k21
  have F22 := fun_mk (st := s_law_register) l22 c22 k22
  have F23 := fun_mk (st := s_law_shuffled) l23 c23 k23
  have F24 := fun_mk (st := s_law_circuit) l24 c24 k24
  have F25 := fun_mk (st := s_law_moved) l25 c25 k25
  have F26 := fun_mk (st := s_law_even) l26 c26 k26
  have F27 := fun_mk (st := s_law_told) l27 c27 k27
  have F28 := fun_mk (st := s_law_long) l28 c28 k28
  have F29 := fun_mk (st := s_law) l29 c29 k29
  have A : All K mg := ⟨⟨f0, _, F0, PySem.W.mg_of X G a0, F0.binds (ps := ["circuit"]) fun _ _ _ _ _ _ us hl => match us, hl with | [_], _ => rfl⟩,
    ⟨f1, _, F1, PySem.W.mg_of X G a1, F1.binds (ps := ["circuit"]) fun _ _ _ _ _ _ us hl => match us, hl with | [_], _ => rfl⟩,
    ⟨f2, _, F2, PySem.W.mg_of X G a2, F2.binds (ps := ["circuit", "names"]) fun _ _ _ _ _ _ us hl => match us, hl with | [_, _], _ => rfl⟩,
    ⟨f3, _, F3, PySem.W.mg_of X G a3, F3.binds (ps := ["pair"]) fun _ _ _ _ _ _ us hl => match us, hl with | [_], _ => rfl⟩,
    ⟨f4, _, F4, PySem.W.mg_of X G a4, F4.binds (ps := ["reg"]) fun _ _ _ _ _ _ us hl => match us, hl with | [_], _ => rfl⟩,
    ⟨f5, _, F5, PySem.W.mg_of X G a5, F5.binds (ps := ["needed"]) fun _ _ _ _ _ _ us hl => match us, hl with | [_], _ => rfl⟩,
    ⟨f6, _, F6, PySem.W.mg_of X G a6, F6.binds (ps := ["circuit"]) fun _ _ _ _ _ _ us hl => match us, hl with | [_], _ => rfl⟩,
    ⟨f7, _, F7, PySem.W.mg_of X G a7, F7.binds (ps := ["circuit"]) fun _ _ _ _ _ _ us hl => match us, hl with | [_], _ => rfl⟩,
    ⟨f8, _, F8, PySem.W.mg_of X G a8, F8.binds (ps := ["gate"]) fun _ _ _ _ _ _ us hl => match us, hl with | [_], _ => rfl⟩,
    ⟨f9, _, F9, PySem.W.mg_of X G a9, F9.binds (ps := ["gates"]) fun _ _ _ _ _ _ us hl => match us, hl with | [_], _ => rfl⟩,
    ⟨f10, _, F10, PySem.W.mg_of X G a10, F10.binds (ps := ["gates"]) fun _ _ _ _ _ _ us hl => match us, hl with | [_], _ => rfl⟩,
    ⟨f11, _, F11, PySem.W.mg_of X G a11, F11.binds (ps := ["read", "order"]) fun _ _ _ _ _ _ us hl => match us, hl with | [_, _], _ => rfl⟩,
    ⟨f12, _, F12, PySem.W.mg_of X G a12, F12.binds (ps := ["table", "bits"]) fun _ _ _ _ _ _ us hl => match us, hl with | [_, _], _ => rfl⟩,
    ⟨f13, _, F13, PySem.W.mg_of X G a13, F13.binds (ps := ["circuit", "g"]) fun _ _ _ _ _ _ us hl => match us, hl with | [_, _], _ => rfl⟩,
    ⟨f14, _, F14, PySem.W.mg_of X G a14, F14.binds (ps := ["circuit", "gate", "read"]) fun _ _ _ _ _ _ us hl => match us, hl with | [_, _, _], _ => rfl⟩,
    ⟨f15, _, F15, PySem.W.mg_of X G a15, F15.binds (ps := ["gates", "regs", "outputs", "names"]) fun _ _ _ _ _ _ us hl => match us, hl with | [_, _, _, _], _ => rfl⟩,
    ⟨f16, _, F16, PySem.W.mg_of X G a16, F16.binds (ps := ["script"]) fun _ _ _ _ _ _ us hl => match us, hl with | [_], _ => rfl⟩,
    ⟨f17, _, F17, PySem.W.mg_of X G a17, F17.binds (ps := ["cell"]) fun _ _ _ _ _ _ us hl => match us, hl with | [_], _ => rfl⟩,
    ⟨f18, _, F18, PySem.W.mg_of X G a18, F18.binds (ps := ["pool", "many"]) fun _ _ _ _ _ _ us hl => match us, hl with | [_, _], _ => rfl⟩,
    ⟨f19, _, F19, PySem.W.mg_of X G a19, F19.binds (ps := ["actual", "due"]) fun _ _ _ _ _ _ us hl => match us, hl with | [_, _], _ => rfl⟩,
    ⟨f20, _, F20, PySem.W.mg_of X G a20, F20.binds (ps := ["index", "many"]) fun _ _ _ _ _ _ us hl => match us, hl with | [_, _], _ => rfl⟩,
    ⟨f21, _, F21, PySem.W.mg_of X G a21, F21.binds (ps := ["pool", "many"]) fun _ _ _ _ _ _ us hl => match us, hl with | [_, _], _ => rfl⟩,
    ⟨f22, _, F22, PySem.W.mg_of X G a22, F22.binds (ps := ["pool", "name", "net"]) fun _ _ _ _ _ _ us hl => match us, hl with | [_, _, _], _ => rfl⟩,
    ⟨f23, _, F23, PySem.W.mg_of X G a23, F23.binds (ps := ["pool", "rows"]) fun _ _ _ _ _ _ us hl => match us, hl with | [_, _], _ => rfl⟩,
    ⟨f24, _, F24, PySem.W.mg_of X G a24, F24.binds (ps := ["pool", "most"]) fun _ _ _ _ _ _ us hl => match us, hl with | [_, _], _ => rfl⟩,
    ⟨f25, _, F25, PySem.W.mg_of X G a25, F25.binds (ps := ["circuit", "g"]) fun _ _ _ _ _ _ us hl => match us, hl with | [_, _], _ => rfl⟩,
    ⟨f26, _, F26, PySem.W.mg_of X G a26, F26.binds (ps := ["pool", "circuit"]) fun _ _ _ _ _ _ us hl => match us, hl with | [_, _], _ => rfl⟩,
    ⟨f27, _, F27, PySem.W.mg_of X G a27, F27.binds (ps := ["circuit", "g"]) fun _ _ _ _ _ _ us hl => match us, hl with | [_, _], _ => rfl⟩,
    ⟨f28, _, F28, PySem.W.mg_of X G a28, F28.binds (ps := ["pool", "many"]) fun _ _ _ _ _ _ us hl => match us, hl with | [_, _], _ => rfl⟩,
    PySem.W.mg_none_of X G z0,
    PySem.W.mg_none_of X G z1,
    PySem.W.mg_none_of X G z2,
    PySem.W.mg_none_of X G z3,
    PySem.W.mg_none_of X G z4,
    PySem.W.mg_none_of X G z5,
    PySem.W.mg_none_of X G z6,
    PySem.W.mg_none_of X G z7,
    PySem.W.mg_none_of X G z8,
    PySem.W.mg_none_of X G z9,
    PySem.W.mg_none_of X G z10,
    PySem.W.mg_none_of X G z11,
    PySem.W.mg_none_of X G z12,
    PySem.W.mg_none_of X G z13,
    PySem.W.mg_none_of X G z14,
    PySem.W.mg_none_of X G z15,
    ⟨_, PySem.W.mg_of X G g0⟩,
    ⟨_, PySem.W.mg_of X G g1⟩,
    ⟨_, PySem.W.mg_of X G g2⟩,
    PySem.W.mg_of X G m0,
    PySem.W.mg_of X G m1,
    ⟨iC0, ⟨⟨PySem.W.mg_of X G w0_0, w0_1, w0_2, w0_3, w0_4⟩, w0_5, w0_6, ⟨w0_7, w0_8, w0_3, w0_5, w0_9, w0_10, w0_11, w0_12⟩⟩, ⟨iD0_0, PySem.W.mg_of X G w0_13, w0_14⟩, ⟨iD0_1, PySem.W.mg_of X G w0_15, w0_16⟩, ⟨iD0_2, PySem.W.mg_of X G w0_17, PySem.W.exm_ref w0_18 w0_19 w0_20 w0_21⟩⟩,
    ⟨iC1, ⟨⟨PySem.W.mg_of X G w1_0, w1_1, w1_2, w1_3, w1_4⟩, w1_5, w1_6, ⟨w1_7, w1_8, w1_3, w1_5, w1_9, w1_10, w1_11, w1_12⟩⟩, ⟨iD1_0, PySem.W.mg_of X G w1_13, w1_14⟩, ⟨iD1_1, PySem.W.mg_of X G w1_15, w1_16⟩, ⟨iD1_2, PySem.W.mg_of X G w1_17, PySem.W.exm_ref w1_18 w1_19 w1_20 w1_21⟩⟩,
    ⟨xC0, ⟨⟨PySem.W.mg_of X G u0_0, u0_1, u0_2, u0_3, u0_4⟩, u0_5, u0_6⟩⟩,
    ⟨xC1, ⟨⟨PySem.W.mg_of X G u1_0, u1_1, u1_2, u1_3, u1_4⟩, u1_5, u1_6⟩⟩,
    ⟨xC2, ⟨⟨PySem.W.mg_of X G u2_0, u2_1, u2_2, u2_3, u2_4⟩, u2_5, u2_6⟩⟩,
    ⟨xC3, ⟨⟨PySem.W.mg_of X G u3_0, u3_1, u3_2, u3_3, u3_4⟩, u3_5, u3_6⟩⟩,
    ⟨xC4, ⟨⟨PySem.W.mg_of X G u4_0, u4_1, u4_2, u4_3, u4_4⟩, u4_5, u4_6⟩⟩⟩
  have OX0 : ∃ (C f : Addr) (fd : FuncData), ErrF l.prog K mg "Looped" "Looped.__init__" C f fd s_Looped_init "names" := ⟨eC0, fe0, _, ⟨PySem.W.mg_of X G q0_0, ⟨_, ⟨⟨oexB_ok q0_7, q0_8, q0_9, q0_10, q0_11⟩, q0_1, q0_12, PySem.W.mg_none_of X G q0_13, q0_14, q0_15, q0_16, q0_17, ⟨_, _, _, _, _, _, _, _, _, _, _, rfl, q0_2, q0_3, ⟨_, _, _, _, _, q0_4, q0_5⟩, _, _, _, q0_6⟩⟩, q0_26⟩, q0_27, .all fun us hl => match us, hl with | [_, _], _ => rfl, q0_18, ⟨q0_20, q0_21, q0_9, q0_19, q0_22, q0_23, q0_24, q0_25⟩⟩⟩
  exact ⟨_, fun s v => .of_eq rfl, fun base _ _ => glue A OX0 F29⟩
end G
open PySem PySem.W PyProof.Rows
set_option maxRecDepth 100000 in
set_option maxHeartbeats 0 in
theorem PySem.Challenge.cw_signoff_k78_registers_moved_holds : PySem.Challenge.rw_signoff_k78_registers_moved.Holds := by
  w_on; o_law; k_head; (case hw => w_witness2)
  k_fill
  refine L2.walk_of (l := PySem.Challenge.rw_signoff_k78_registers_moved) (n := 63) (k := 8) (x := "script") (CX := fun _ => L2.CX0) (sp := fun w => G.spLaw _) rfl (by decide) rfl ⟨rfl, by decide, by decide⟩ (fun w h Y => PySem.W.kIn_of Y) ?F (fun _ _ a ns hl _ hS => ⟨a, ns, rfl, hS, hl, fun _ => rfl⟩) (fun _ _ _ _ _ h => h)
  case F =>
    intro w mg fa h KX GN hmg
    refine' G.all_mk KX GN hmg ?a0 ?l0 ?c0 ?k0 ?a1 ?l1 ?c1 ?k1 ?a2 ?l2 ?c2 ?k2 ?a3 ?l3 ?c3 ?k3 ?a4 ?l4 ?c4 ?k4 ?a5 ?l5 ?c5 ?k5 ?a6 ?l6 ?c6 ?k6 ?a7 ?l7 ?c7 ?k7 ?a8 ?l8 ?c8 ?k8 ?a9 ?l9 ?c9 ?k9 ?a10 ?l10 ?c10 ?k10 ?a11 ?l11 ?c11 ?k11 ?a12 ?l12 ?c12 ?k12 ?a13 ?l13 ?c13 ?k13 ?a14 ?l14 ?c14 ?k14 ?a15 ?l15 ?c15 ?k15 ?a16 ?l16 ?c16 ?k16 ?a17 ?l17 ?c17 ?k17 ?a18 ?l18 ?c18 ?k18 ?a19 ?l19 ?c19 ?k19 ?a20 ?l20 ?c20 ?k20 ?a21 ?l21 ?c21 ?k21 ?a22 ?l22 ?c22 ?k22 ?a23 ?l23 ?c23 ?k23 ?a24 ?l24 ?c24 ?k24 ?a25 ?l25 ?c25 ?k25 ?a26 ?l26 ?c26 ?k26 ?a27 ?l27 ?c27 ?k27 ?a28 ?l28 ?c28 ?k28 ?a29 ?l29 ?c29 ?k29 ?cg0 ?cg1 ?cg2 ?m0 ?m1 ?xu0_0 ?xu0_1 ?xu0_2 ?xu0_3 ?xu0_4 ?xu0_5 ?xu0_6 ?xu1_0 ?xu1_1 ?xu1_2 ?xu1_3 ?xu1_4 ?xu1_5 ?xu1_6 ?xu2_0 ?xu2_1 ?xu2_2 ?xu2_3 ?xu2_4 ?xu2_5 ?xu2_6 ?xu3_0 ?xu3_1 ?xu3_2 ?xu3_3 ?xu3_4 ?xu3_5 ?xu3_6 ?xu4_0 ?xu4_1 ?xu4_2 ?xu4_3 ?xu4_4 ?xu4_5 ?xu4_6 ?xw0_0 ?xw0_1 ?xw0_2 ?xw0_3 ?xw0_4 ?xw0_5 ?xw0_6 ?xw0_7 ?xw0_8 ?xw0_9 ?xw0_10 ?xw0_11 ?xw0_12 ?xw0_13 ?xw0_14 ?xw0_15 ?xw0_16 ?xw0_17 ?xw0_18 ?xw0_19 ?xw0_20 ?xw0_21 ?xw1_0 ?xw1_1 ?xw1_2 ?xw1_3 ?xw1_4 ?xw1_5 ?xw1_6 ?xw1_7 ?xw1_8 ?xw1_9 ?xw1_10 ?xw1_11 ?xw1_12 ?xw1_13 ?xw1_14 ?xw1_15 ?xw1_16 ?xw1_17 ?xw1_18 ?xw1_19 ?xw1_20 ?xw1_21 ?kq0_0 ?kq0_1 ?kq0_2 ?kq0_3 ?kq0_4 ?rq0_5 ?kq0_6 ?rq0_7 ?kq0_8 ?kq0_9 ?kq0_10 ?kq0_11 ?kq0_12 ?kq0_13 ?kq0_14 ?kq0_15 ?kq0_16 ?rq0_17 ?kq0_18 ?kq0_19 ?kq0_20 ?kq0_21 ?kq0_22 ?kq0_23 ?kq0_24 ?kq0_25 ?rq0_26 ?rq0_27 ?z0 ?z1 ?z2 ?z3 ?z4 ?z5 ?z6 ?z7 ?z8 ?z9 ?z10 ?z11 ?z12 ?z13 ?z14 ?z15
    (case a0 => k_is)
    (case l0 => k_is)
    (case c0 => k_is)
    (case k0 => k_is)
    (case a1 => k_is)
    (case l1 => k_is)
    (case c1 => k_is)
    (case k1 => k_is)
    (case a2 => k_is)
    (case l2 => k_is)
    (case c2 => k_is)
    (case k2 => k_is)
    (case a3 => k_is)
    (case l3 => k_is)
    (case c3 => k_is)
    (case k3 => k_is)
    (case a4 => k_is)
    (case l4 => k_is)
    (case c4 => k_is)
    (case k4 => k_is)
    (case a5 => k_is)
    (case l5 => k_is)
    (case c5 => k_is)
    (case k5 => k_is)
    (case a6 => k_is)
    (case l6 => k_is)
    (case c6 => k_is)
    (case k6 => k_is)
    (case a7 => k_is)
    (case l7 => k_is)
    (case c7 => k_is)
    (case k7 => k_is)
    (case a8 => k_is)
    (case l8 => k_is)
    (case c8 => k_is)
    (case k8 => k_is)
    (case a9 => k_is)
    (case l9 => k_is)
    (case c9 => k_is)
    (case k9 => k_is)
    (case a10 => k_is)
    (case l10 => k_is)
    (case c10 => k_is)
    (case k10 => k_is)
    (case a11 => k_is)
    (case l11 => k_is)
    (case c11 => k_is)
    (case k11 => k_is)
    (case a12 => k_is)
    (case l12 => k_is)
    (case c12 => k_is)
    (case k12 => k_is)
    (case a13 => k_is)
    (case l13 => k_is)
    (case c13 => k_is)
    (case k13 => k_is)
    (case a14 => k_is)
    (case l14 => k_is)
    (case c14 => k_is)
    (case k14 => k_is)
    (case a15 => k_is)
    (case l15 => k_is)
    (case c15 => k_is)
    (case k15 => k_is)
    (case a16 => k_is)
    (case l16 => k_is)
    (case c16 => k_is)
    (case k16 => k_is)
    (case a17 => k_is)
    (case l17 => k_is)
    (case c17 => k_is)
    (case k17 => k_is)
    (case a18 => k_is)
    (case l18 => k_is)
    (case c18 => k_is)
    (case k18 => k_is)
    (case a19 => k_is)
    (case l19 => k_is)
    (case c19 => k_is)
    (case k19 => k_is)
    (case a20 => k_is)
    (case l20 => k_is)
    (case c20 => k_is)
    (case k20 => k_is)
    (case a21 => k_is)
    (case l21 => k_is)
    (case c21 => k_is)
    (case k21 => k_is)
    (case a22 => k_is)
    (case l22 => k_is)
    (case c22 => k_is)
    (case k22 => k_is)
    (case a23 => k_is)
    (case l23 => k_is)
    (case c23 => k_is)
    (case k23 => k_is)
    (case a24 => k_is)
    (case l24 => k_is)
    (case c24 => k_is)
    (case k24 => k_is)
    (case a25 => k_is)
    (case l25 => k_is)
    (case c25 => k_is)
    (case k25 => k_is)
    (case a26 => k_is)
    (case l26 => k_is)
    (case c26 => k_is)
    (case k26 => k_is)
    (case a27 => k_is)
    (case l27 => k_is)
    (case c27 => k_is)
    (case k27 => k_is)
    (case a28 => k_is)
    (case l28 => k_is)
    (case c28 => k_is)
    (case k28 => k_is)
    (case a29 => k_is)
    (case l29 => k_is)
    (case c29 => k_is)
    (case k29 => k_is)
    (case cg0 => k_is)
    (case cg1 => k_is)
    (case cg2 => k_is)
    (case m0 => k_is)
    (case m1 => k_is)
    (case xu0_0 => first | k_exc | k_is | rfl)
    (case xu0_1 => first | k_exc | k_is | rfl)
    (case xu0_2 => first | k_exc | k_is | rfl)
    (case xu0_3 => first | k_exc | k_is | rfl)
    (case xu0_4 => first | k_exc | k_is | rfl)
    (case xu0_5 => first | k_exc | k_is | rfl)
    (case xu0_6 => first | k_exc | k_is | rfl)
    (case xu1_0 => first | k_exc | k_is | rfl)
    (case xu1_1 => first | k_exc | k_is | rfl)
    (case xu1_2 => first | k_exc | k_is | rfl)
    (case xu1_3 => first | k_exc | k_is | rfl)
    (case xu1_4 => first | k_exc | k_is | rfl)
    (case xu1_5 => first | k_exc | k_is | rfl)
    (case xu1_6 => first | k_exc | k_is | rfl)
    (case xu2_0 => first | k_exc | k_is | rfl)
    (case xu2_1 => first | k_exc | k_is | rfl)
    (case xu2_2 => first | k_exc | k_is | rfl)
    (case xu2_3 => first | k_exc | k_is | rfl)
    (case xu2_4 => first | k_exc | k_is | rfl)
    (case xu2_5 => first | k_exc | k_is | rfl)
    (case xu2_6 => first | k_exc | k_is | rfl)
    (case xu3_0 => first | k_exc | k_is | rfl)
    (case xu3_1 => first | k_exc | k_is | rfl)
    (case xu3_2 => first | k_exc | k_is | rfl)
    (case xu3_3 => first | k_exc | k_is | rfl)
    (case xu3_4 => first | k_exc | k_is | rfl)
    (case xu3_5 => first | k_exc | k_is | rfl)
    (case xu3_6 => first | k_exc | k_is | rfl)
    (case xu4_0 => first | k_exc | k_is | rfl)
    (case xu4_1 => first | k_exc | k_is | rfl)
    (case xu4_2 => first | k_exc | k_is | rfl)
    (case xu4_3 => first | k_exc | k_is | rfl)
    (case xu4_4 => first | k_exc | k_is | rfl)
    (case xu4_5 => first | k_exc | k_is | rfl)
    (case xu4_6 => first | k_exc | k_is | rfl)
    (case xw0_0 => first | k_exc | k_is | rfl)
    (case xw0_1 => first | k_exc | k_is | rfl)
    (case xw0_2 => first | k_exc | k_is | rfl)
    (case xw0_3 => first | k_exc | k_is | rfl)
    (case xw0_4 => first | k_exc | k_is | rfl)
    (case xw0_5 => first | k_exc | k_is | rfl)
    (case xw0_6 => first | k_exc | k_is | rfl)
    (case xw0_7 => first | k_exc | k_is | rfl)
    (case xw0_8 => first | k_exc | k_is | rfl)
    (case xw0_9 => first | k_exc | k_is | rfl)
    (case xw0_10 => first | k_exc | k_is | rfl)
    (case xw0_11 => first | k_exc | k_is | rfl)
    (case xw0_12 => first | k_exc | k_is | rfl)
    (case xw0_13 => first | k_exc | k_is | rfl)
    (case xw0_14 => first | k_exc | k_is | rfl)
    (case xw0_15 => first | k_exc | k_is | rfl)
    (case xw0_16 => first | k_exc | k_is | rfl)
    (case xw0_17 => first | k_exc | k_is | rfl)
    (case xw0_18 => first | k_exc | k_is | rfl)
    (case xw0_19 => first | k_exc | k_is | rfl)
    (case xw0_20 => first | k_exc | k_is | rfl)
    (case xw0_21 => first | k_exc | k_is | rfl)
    (case xw1_0 => first | k_exc | k_is | rfl)
    (case xw1_1 => first | k_exc | k_is | rfl)
    (case xw1_2 => first | k_exc | k_is | rfl)
    (case xw1_3 => first | k_exc | k_is | rfl)
    (case xw1_4 => first | k_exc | k_is | rfl)
    (case xw1_5 => first | k_exc | k_is | rfl)
    (case xw1_6 => first | k_exc | k_is | rfl)
    (case xw1_7 => first | k_exc | k_is | rfl)
    (case xw1_8 => first | k_exc | k_is | rfl)
    (case xw1_9 => first | k_exc | k_is | rfl)
    (case xw1_10 => first | k_exc | k_is | rfl)
    (case xw1_11 => first | k_exc | k_is | rfl)
    (case xw1_12 => first | k_exc | k_is | rfl)
    (case xw1_13 => first | k_exc | k_is | rfl)
    (case xw1_14 => first | k_exc | k_is | rfl)
    (case xw1_15 => first | k_exc | k_is | rfl)
    (case xw1_16 => first | k_exc | k_is | rfl)
    (case xw1_17 => first | k_exc | k_is | rfl)
    (case xw1_18 => first | k_exc | k_is | rfl)
    (case xw1_19 => first | k_exc | k_is | rfl)
    (case xw1_20 => first | k_exc | k_is | rfl)
    (case xw1_21 => first | k_exc | k_is | rfl)
    (case kq0_0 => first | k_exc | k_is | rfl)
    (case kq0_1 => first | k_exc | k_is | rfl)
    (case kq0_2 => first | k_exc | k_is | rfl)
    (case kq0_3 => first | k_exc | k_is | rfl)
    (case kq0_4 => first | k_exc | k_is | rfl)
    (case rq0_5 => first | rfl | kernel_rfl | decide +kernel)
    (case kq0_6 => first | k_exc | k_is | rfl)
    (case rq0_7 => first | rfl | kernel_rfl | decide +kernel)
    (case kq0_8 => first | k_exc | k_is | rfl)
    (case kq0_9 => first | k_exc | k_is | rfl)
    (case kq0_10 => first | k_exc | k_is | rfl)
    (case kq0_11 => first | k_exc | k_is | rfl)
    (case kq0_12 => first | k_exc | k_is | rfl)
    (case kq0_13 => first | k_exc | k_is | rfl)
    (case kq0_14 => first | k_exc | k_is | rfl)
    (case kq0_15 => first | k_exc | k_is | rfl)
    (case kq0_16 => first | k_exc | k_is | rfl)
    (case rq0_17 => first | rfl | kernel_rfl | decide +kernel)
    (case kq0_18 => first | k_exc | k_is | rfl)
    (case kq0_19 => first | k_exc | k_is | rfl)
    (case kq0_20 => first | k_exc | k_is | rfl)
    (case kq0_21 => first | k_exc | k_is | rfl)
    (case kq0_22 => first | k_exc | k_is | rfl)
    (case kq0_23 => first | k_exc | k_is | rfl)
    (case kq0_24 => first | k_exc | k_is | rfl)
    (case kq0_25 => first | k_exc | k_is | rfl)
    (case rq0_26 => first | rfl | kernel_rfl | decide +kernel)
    (case rq0_27 => first | rfl | kernel_rfl | decide +kernel)
    (case z0 => k_is)
    (case z1 => k_is)
    (case z2 => k_is)
    (case z3 => k_is)
    (case z4 => k_is)
    (case z5 => k_is)
    (case z6 => k_is)
    (case z7 => k_is)
    (case z8 => k_is)
    (case z9 => k_is)
    (case z10 => k_is)
    (case z11 => k_is)
    (case z12 => k_is)
    (case z13 => k_is)
    (case z14 => k_is)
    (case z15 => k_is)
#print axioms PySem.Challenge.cw_signoff_k78_registers_moved_holds
