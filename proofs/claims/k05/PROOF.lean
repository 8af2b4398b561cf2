import PyProof.Rows.All
import Wide.All
import OpenK.AllK
import Wide.FinOn
import HandS.ForMost
import HandS.Evl
import HandS.Wide
import HandS.WideBits
import HandS.Flow
import HandS.IsInst
import HandS.TupAny
import HandS.Walk
import HandS.Zip
import HandS.Steps
import KE.GoesMore
import KE.GoesEnum
import KE.KEqSeq
import HandS.SetTxt0
import HandS.Set
import HandS.SetFor
import HandS.Strs
import HandS.DictComp
import KE.GoesSet
import HandS.More
import HandS.Style
import HandS.Small
import HandS.SetKeys
import HandS.StrMore
import PyProof.StrLawsFirst
import HandS.Iter
import HandS.FStr
import HandS.ForExc
import HandS.ExcIs
import HandS.CallSlots
import HandS.Property
import HandS.ClsMeth
import HandS.ExcInit
import HandS.ExcField
import HandS.Nested
import KE.KExcSuper
import KE.KSuper
import KE.KExcIs
import KE.KFromBytes
import PyProof.DelItemList
import HandS.Flow
import KE.DataMinMax
import HandS.SortKw
import HandS.List
import HandS.Defaults
import KE.IntTextLaws
import HandS.Text
import HandS.HeadHook3
import PySem.Challenge.RW_signoff_k05_decks_shown_and_read
set_option Elab.async false
set_option linter.all false
set_option maxRecDepth 100000
set_option maxHeartbeats 4000000
set_option Elab.async false
set_option linter.all false
set_option maxRecDepth 100000
set_option maxHeartbeats 4000000
namespace G
open PySem PySem.Spec PyProof.Rows L2 Evl
/-! ## defs by name -/
def Dfd (K : PySem.W.Frag) (mg : Str → Option Value) (x : Str) (st : Stmt) (ps : List Str) : Prop := ∃ (f : Addr) (fd : FuncData), Fun K x x st f fd ∧ mg x = some (.ref f) ∧ Binds K fd ps []
def Has (P : Program) (w : World) (K : PySem.W.Frag) (mg : Str → Option Value) (base : Heap) (k : Nat) (x : Str) (ps : List Str) (sp : Sp) : Prop :=
  ∃ (f : Addr) (fd : FuncData), FnOk P w K mg base CX0 k f fd ps sp ∧ mg x = some (.ref f) ∧ PySem.W.keepIn K (.ref f) = true ∧ Binds K fd ps []
section
variable {P : Program} {w : World} {K : PySem.W.Frag} {mg : Str → Option Value} {base : Heap}
theorem Dfd.has {x : Str} {st : Stmt} {ps : List Str} {k : Nat} {sp : Sp} (d : Dfd K mg x st ps) (h : ∀ f fd, Fun K x x st f fd → FnOk P w K mg base CX0 k f fd ps sp) : Has P w K mg base k x ps sp := by
  obtain ⟨f, fd, F, g, b⟩ := d
  exact ⟨f, fd, h f fd F, g, F.kp, b⟩
theorem Has.mono {x : Str} {ps : List Str} {j k : Nat} {sp : Sp} (h : Has P w K mg base j x ps sp) (l : j ≤ k) : Has P w K mg base k x ps sp := by
  obtain ⟨f, fd, F, g⟩ := h
  exact ⟨f, fd, F.mono l, g⟩
theorem Has.imp {x : Str} {ps : List Str} {k : Nat} {sp sp' : Sp} (h : Has P w K mg base k x ps sp) (i : ∀ vs H Q E, sp' vs H Q E → sp vs H Q E) : Has P w K mg base k x ps sp' := by
  obtain ⟨f, fd, F, g⟩ := h
  exact ⟨f, fd, F.imp i, g⟩
end
/-! ## heaps -/
theorem sq_ex {K : PySem.W.Frag} {H H' : Hp} {a : Addr} {xs : List V} (e : Ex H H') (h : SqL K H a xs) : SqL K H' a xs := ex_l e h
/-- the heap without what stands at p -/
def hid (p : Addr) (H : Hp) : Hp := fun b => if b = p then none else H b
theorem hid_self {p : Addr} {H : Hp} : hid p H p = none := by unfold hid; rw [if_pos rfl]
theorem hid_ne {p b : Addr} {H : Hp} (h : b ≠ p) : hid p H b = H b := by unfold hid; rw [if_neg h]
theorem hid_get {p b : Addr} {H : Hp} {o : HO} (h : hid p H b = some o) : H b = some o := by
  by_cases e : b = p
  · subst e; rw [hid_self] at h; cases h
  · rw [hid_ne e] at h; exact h
theorem hid_neq {p b : Addr} {H : Hp} {o : HO} (h : hid p H b = some o) : b ≠ p := by
  intro e; subst e; rw [hid_self] at h; cases h
theorem hid_ex {p : Addr} {H : Hp} : Ex (hid p H) H := fun _ _ h => hid_get h
theorem hid_upd {p : Addr} {H : Hp} {o : HO} : hid p (upd H p o) = hid p H := by
  funext b
  by_cases e : b = p
  · subst e; rw [hid_self, hid_self]
  · rw [hid_ne e, hid_ne e, upd_ne e]
theorem hid_upd_ne {p q : Addr} {H : Hp} {o : HO} (h : q ≠ p) : hid p (upd H q o) = upd (hid p H) q o := by
  funext b
  by_cases e2 : b = q
  · subst e2; rw [hid_ne h, upd_same, upd_same]
  · rw [upd_ne e2]
    by_cases e : b = p
    · subst e; rw [hid_self, hid_self]
    · rw [hid_ne e, hid_ne e, upd_ne e2]
theorem hid_none {p b : Addr} {H : Hp} (h : H b = none) : hid p H b = none := by
  unfold hid; split
  · rfl
  · exact h
/-! ## the pool of draws: the list at p, the script's copy at a -/
def PoolOk (p a : Addr) (H : Hp) : Prop := ∃ (ns : List Int) (i : Nat) (c k s : Int), H p = some (.lst [.ref a, .int i, .int c, .int k, .int s]) ∧ hid p H a = some (.lst (ns.map V.int)) ∧ ns.length ≤ 1000
/-- from H to H' all but the pool is kept, and the pool is a pool -/
structure Px (p a : Addr) (H H' : Hp) : Prop where
  was : PoolOk p a H
  pool : PoolOk p a H'
  ex : Ex (hid p H) (hid p H')
section
variable {p a : Addr} {H H1 H2 H' : Hp}
theorem Px.refl (h : PoolOk p a H) : Px p a H H := ⟨h, h, Ex.refl _⟩
theorem Px.trans (x : Px p a H H1) (y : Px p a H1 H2) : Px p a H H2 := ⟨x.was, y.pool, x.ex.trans y.ex⟩
theorem PoolOk.ne {b : Addr} (h : PoolOk p a H) (n : H b = none) : b ≠ p := by
  obtain ⟨_, _, _, _, _, e, _⟩ := h
  exact (ne_of_none e n).symm
theorem PoolOk.ne2 {b : Addr} (h : PoolOk p a H) (n : H b = none) : a ≠ b := by
  obtain ⟨_, _, _, _, _, _, e, _⟩ := h
  exact ne_of_none (hid_get e) n
theorem PoolOk.kept (h : PoolOk p a H) (e : Ex H H') : PoolOk p a H' := by
  obtain ⟨ns, i, c, k, s, h1, h2, h3⟩ := h
  exact ⟨ns, i, c, k, s, e _ _ h1, by rw [hid_ne (hid_neq h2)]; exact e _ _ (hid_get h2), h3⟩
theorem Px.ofEx (h : PoolOk p a H) (e : Ex H H') : Px p a H H' := ⟨h, h.kept e, fun b o hb => by rw [hid_ne (hid_neq hb)]; exact e _ _ (hid_get hb)⟩
theorem Px.more (x : Px p a H H1) (e : Ex H1 H2) : Px p a H H2 := x.trans (Px.ofEx x.pool e)
theorem Px.draw {o : HO} (w : PoolOk p a H) (h : PoolOk p a (upd H p o)) : Px p a H (upd H p o) := ⟨w, h, by rw [hid_upd]; exact Ex.refl _⟩
theorem Px.new (x : Px p a H H1) {l : Addr} {o : HO} (n : H1 l = none) : Px p a H (upd H1 l o) := x.more (Ex.new n)
/-- what H has is kept -/
theorem Px.get (x : Px p a H H1) {b : Addr} {o : HO} (h : hid p H b = some o) : hid p H1 b = some o := x.ex _ _ h
theorem Px.at_ (x : Px p a H H1) {b : Addr} {o : HO} (h : hid p H b = some o) : H1 b = some o := hid_get (x.ex _ _ h)
theorem Px.free (x : Px p a H H1) {b : Addr} (n : H1 b = none) : H b = none := by
  cases e : H b with
  | none => rfl
  | some o =>
    have hb : b ≠ p := x.pool.ne n
    have := x.ex b o (by rw [hid_ne hb]; exact e)
    rw [hid_get this] at n; cases n
/-- an object that H does not have may change -/
theorem Px.mut (x : Px p a H H1) {l : Addr} {o : HO} (n : H l = none) : Px p a H (upd H1 l o) := by
  have hl : l ≠ p := x.was.ne n
  have ha : a ≠ l := x.was.ne2 n
  refine ⟨x.was, ?_, ?_⟩
  · obtain ⟨ns, i, c, k, s, h1, h2, h3⟩ := x.pool
    exact ⟨ns, i, c, k, s, by rw [upd_ne hl.symm]; exact h1, by rw [hid_upd_ne hl, upd_ne ha]; exact h2, h3⟩
  · rw [hid_upd_ne hl]; exact Ex.mut x.ex (hid_none n)
/-- a fresh object stands apart from the pool -/
theorem Px.seen (x : Px p a H H1) {l : Addr} {o : HO} (n : H l = none) (e : H1 l = some o) : hid p H1 l = some o := by
  rw [hid_ne (x.was.ne n)]; exact e
end
end G
namespace G
open PySem PySem.Spec PyProof.Rows L2 Evl
/-! ## comprehensions whose elements are plain values -/
theorem given_all {n : Nat} {v : Nat → V} : given n (fun _ => true) v = (List.range n).map v := by
  unfold given
  rw [List.filter_eq_self.mpr (fun _ _ => rfl)]
section
variable {lo : Int} {n j : Nat} {tt : TT} {te : TE} {vs : List Nat} {σ : L2.St} {H1 : Hp} {D : Addr} {Qd : Hp → Prop} {K : PySem.W.Frag} {a : Addr} {xs : List V}
theorem lc_turn {f : Nat → Bool} {v : Nat → V} {i : Nat} {H : Hp} {σ2 : L2.St} (e : H = upd H1 D (.lst (given i f v))) (hi : i < 100000) (ht : Ans tt σ2 H (f i)) (he : f i = true → Val te σ2 H (v i)) :
    tt σ2 H fun b H3 => if b = true then te σ2 H3 fun y H4 => ∃ acc, H4 D = some (.lst acc) ∧ acc.length < sizeLine ∧ (upd H4 D (.lst (acc ++ [y]))) = upd H1 D (.lst (given (i + 1) f v)) else H3 = upd H1 D (.lst (given (i + 1) f v)) := by
  refine ht _ ?_
  subst e
  cases hf : f i with
  | true =>
    refine iteT (he hf _ ⟨_, upd_same, sz_lt (by have := given_len i f v; omega), ?_⟩)
    rw [given_yes hf, upd_upd]
  | false =>
    refine iteF ?_
    rw [given_no hf]
theorem lcR (f : Nat → Bool) (v : Nat → V) (hn : n ≤ 100000) (hw : ∀ x, wipe ((wipe σ vs).set j (some x)) vs = wipe σ vs)
    (ht : ∀ (i : Nat) (H : Hp), i < n → H = upd H1 D (.lst (given i f v)) → Ans tt ((wipe σ vs).set j (some (.int (lo + i)))) H (f i))
    (he : ∀ (i : Nat) (H : Hp), i < n → H = upd H1 D (.lst (given i f v)) → f i = true → Val te ((wipe σ vs).set j (some (.int (lo + i)))) H (v i)) (q : Qd (upd H1 D (.lst (given n f v)))) :
    ∃ W : Nat → Nat → Hp → Prop, (∃ m, W 0 m (upd H1 D (.lst []))) ∧ ∀ i m H, W i m H →
      ((Itr lo n).stop i H ∧ Qd H) ∨ ((Itr lo n).go i H ∧ ∃ Nx : Hp → Prop, (∀ H', Nx H' → ∃ m', m' < m ∧ W (i + 1) m' H') ∧ ∀ x H', (Itr lo n).yld i H x H' → gName j x (wipe σ vs) H' fun σ2 H2 => wipe σ2 vs = wipe σ vs ∧ tt σ2 H2 fun b H3 =>
        if b = true then te σ2 H3 fun y H4 => ∃ acc, H4 D = some (.lst acc) ∧ acc.length < sizeLine ∧ Nx (upd H4 D (.lst (acc ++ [y]))) else Nx H3) :=
  lc_range (fun i H => H = upd H1 D (.lst (given i f v))) rfl (fun i H hi e => ⟨hw _, lc_turn e (by omega) (ht i H hi e) (he i H hi e)⟩) (fun H e => by rw [e]; exact q)
theorem lcRv (v : Nat → V) (hn : n ≤ 100000) (hw : ∀ x, wipe ((wipe σ vs).set j (some x)) vs = wipe σ vs)
    (he : ∀ (i : Nat) (H : Hp), i < n → H = upd H1 D (.lst (given i (fun _ => true) v)) → Val te ((wipe σ vs).set j (some (.int (lo + i)))) H (v i)) (q : Qd (upd H1 D (.lst ((List.range n).map v)))) :
    ∃ W : Nat → Nat → Hp → Prop, (∃ m, W 0 m (upd H1 D (.lst []))) ∧ ∀ i m H, W i m H →
      ((Itr lo n).stop i H ∧ Qd H) ∨ ((Itr lo n).go i H ∧ ∃ Nx : Hp → Prop, (∀ H', Nx H' → ∃ m', m' < m ∧ W (i + 1) m' H') ∧ ∀ x H', (Itr lo n).yld i H x H' → gName j x (wipe σ vs) H' fun σ2 H2 => wipe σ2 vs = wipe σ vs ∧ tYes σ2 H2 fun b H3 =>
        if b = true then te σ2 H3 fun y H4 => ∃ acc, H4 D = some (.lst acc) ∧ acc.length < sizeLine ∧ Nx (upd H4 D (.lst (acc ++ [y]))) else Nx H3) :=
  lcR (fun _ => true) v hn hw (fun _ _ _ _ => fun _ q => q) (fun i H hi e _ => he i H hi e) (by rw [given_all]; exact q)
theorem lcL (f : Nat → Bool) (v : Nat → V) (hx : SqL K H1 a xs) (hD : H1 D = none) (hn : xs.length ≤ 100000) (hw : ∀ x, wipe ((wipe σ vs).set j (some x)) vs = wipe σ vs)
    (ht : ∀ (i : Nat) (x : V) (H : Hp), xs[i]? = some x → H = upd H1 D (.lst (given i f v)) → Ans tt ((wipe σ vs).set j (some x)) H (f i))
    (he : ∀ (i : Nat) (x : V) (H : Hp), xs[i]? = some x → H = upd H1 D (.lst (given i f v)) → f i = true → Val te ((wipe σ vs).set j (some x)) H (v i)) (q : Qd (upd H1 D (.lst (given xs.length f v)))) :
    ∃ W : Nat → Nat → Hp → Prop, (∃ m, W 0 m (upd H1 D (.lst []))) ∧ ∀ i m H, W i m H →
      ((Itl K a).stop i H ∧ Qd H) ∨ ((Itl K a).go i H ∧ ∃ Nx : Hp → Prop, (∀ H', Nx H' → ∃ m', m' < m ∧ W (i + 1) m' H') ∧ ∀ x H', (Itl K a).yld i H x H' → gName j x (wipe σ vs) H' fun σ2 H2 => wipe σ2 vs = wipe σ vs ∧ tt σ2 H2 fun b H3 =>
        if b = true then te σ2 H3 fun y H4 => ∃ acc, H4 D = some (.lst acc) ∧ acc.length < sizeLine ∧ Nx (upd H4 D (.lst (acc ++ [y]))) else Nx H3) :=
  lc_list (fun i H => H = upd H1 D (.lst (given i f v))) rfl (fun i H hi e => by rw [e]; exact ex_l (Ex.new hD) hx) (fun i x H hi e => ⟨hw _, lc_turn e (by have := (List.getElem?_eq_some_iff.mp hi).1; omega) (ht i x H hi e) (he i x H hi e)⟩) (fun H e => by rw [e]; exact q)
theorem lcT (f : Nat → Bool) (v : Nat → V) (hx : SqT K H1 a xs) (hD : H1 D = none) (hn : xs.length ≤ 100000) (hw : ∀ x, wipe ((wipe σ vs).set j (some x)) vs = wipe σ vs)
    (ht : ∀ (i : Nat) (x : V) (H : Hp), xs[i]? = some x → H = upd H1 D (.lst (given i f v)) → Ans tt ((wipe σ vs).set j (some x)) H (f i))
    (he : ∀ (i : Nat) (x : V) (H : Hp), xs[i]? = some x → H = upd H1 D (.lst (given i f v)) → f i = true → Val te ((wipe σ vs).set j (some x)) H (v i)) (q : Qd (upd H1 D (.lst (given xs.length f v)))) :
    ∃ W : Nat → Nat → Hp → Prop, (∃ m, W 0 m (upd H1 D (.lst []))) ∧ ∀ i m H, W i m H →
      ((Itt K a).stop i H ∧ Qd H) ∨ ((Itt K a).go i H ∧ ∃ Nx : Hp → Prop, (∀ H', Nx H' → ∃ m', m' < m ∧ W (i + 1) m' H') ∧ ∀ x H', (Itt K a).yld i H x H' → gName j x (wipe σ vs) H' fun σ2 H2 => wipe σ2 vs = wipe σ vs ∧ tt σ2 H2 fun b H3 =>
        if b = true then te σ2 H3 fun y H4 => ∃ acc, H4 D = some (.lst acc) ∧ acc.length < sizeLine ∧ Nx (upd H4 D (.lst (acc ++ [y]))) else Nx H3) :=
  lc_tup (fun i H => H = upd H1 D (.lst (given i f v))) rfl (fun i H hi e => by rw [e]; exact ex_t (Ex.new hD) hx) (fun i x H hi e => ⟨hw _, lc_turn e (by have := (List.getElem?_eq_some_iff.mp hi).1; omega) (ht i x H hi e) (he i x H hi e)⟩) (fun H e => by rw [e]; exact q)
theorem lcLm (g : V → V) (hx : SqL K H1 a xs) (hD : H1 D = none) (hn : xs.length ≤ 100000) (hw : ∀ x, wipe ((wipe σ vs).set j (some x)) vs = wipe σ vs)
    (he : ∀ (i : Nat) (x : V) (H : Hp), xs[i]? = some x → H = upd H1 D (.lst ((xs.take i).map g)) → Val te ((wipe σ vs).set j (some x)) H (g x)) (q : Qd (upd H1 D (.lst (xs.map g)))) :
    ∃ W : Nat → Nat → Hp → Prop, (∃ m, W 0 m (upd H1 D (.lst []))) ∧ ∀ i m H, W i m H →
      ((Itl K a).stop i H ∧ Qd H) ∨ ((Itl K a).go i H ∧ ∃ Nx : Hp → Prop, (∀ H', Nx H' → ∃ m', m' < m ∧ W (i + 1) m' H') ∧ ∀ x H', (Itl K a).yld i H x H' → gName j x (wipe σ vs) H' fun σ2 H2 => wipe σ2 vs = wipe σ vs ∧ tYes σ2 H2 fun b H3 =>
        if b = true then te σ2 H3 fun y H4 => ∃ acc, H4 D = some (.lst acc) ∧ acc.length < sizeLine ∧ Nx (upd H4 D (.lst (acc ++ [y]))) else Nx H3) :=
  lc_list (fun i H => H = upd H1 D (.lst ((xs.take i).map g))) (by rw [List.take_zero]; rfl) (fun i H hi e => by rw [e]; exact ex_l (Ex.new hD) hx)
    (fun i x H hi e => ⟨hw _, by
      refine iteT (B := H = upd H1 D (.lst ((xs.take (i + 1)).map g))) ?_
      refine he i x H hi e _ ?_
      subst e
      refine ⟨_, upd_same, sz_lt ?_, ?_⟩
      · rw [List.length_map, List.length_take]; have := (List.getElem?_eq_some_iff.mp hi).1; omega
      · rw [upd_upd, List.take_add_one, hi, List.map_append]; rfl⟩) (fun H e => by rw [e, List.take_length]; exact q)
theorem lcTm (g : V → V) (hx : SqT K H1 a xs) (hD : H1 D = none) (hn : xs.length ≤ 100000) (hw : ∀ x, wipe ((wipe σ vs).set j (some x)) vs = wipe σ vs)
    (he : ∀ (i : Nat) (x : V) (H : Hp), xs[i]? = some x → H = upd H1 D (.lst ((xs.take i).map g)) → Val te ((wipe σ vs).set j (some x)) H (g x)) (q : Qd (upd H1 D (.lst (xs.map g)))) :
    ∃ W : Nat → Nat → Hp → Prop, (∃ m, W 0 m (upd H1 D (.lst []))) ∧ ∀ i m H, W i m H →
      ((Itt K a).stop i H ∧ Qd H) ∨ ((Itt K a).go i H ∧ ∃ Nx : Hp → Prop, (∀ H', Nx H' → ∃ m', m' < m ∧ W (i + 1) m' H') ∧ ∀ x H', (Itt K a).yld i H x H' → gName j x (wipe σ vs) H' fun σ2 H2 => wipe σ2 vs = wipe σ vs ∧ tYes σ2 H2 fun b H3 =>
        if b = true then te σ2 H3 fun y H4 => ∃ acc, H4 D = some (.lst acc) ∧ acc.length < sizeLine ∧ Nx (upd H4 D (.lst (acc ++ [y]))) else Nx H3) :=
  lc_tup (fun i H => H = upd H1 D (.lst ((xs.take i).map g))) (by rw [List.take_zero]; rfl) (fun i H hi e => by rw [e]; exact ex_t (Ex.new hD) hx)
    (fun i x H hi e => ⟨hw _, by
      refine iteT (B := H = upd H1 D (.lst ((xs.take (i + 1)).map g))) ?_
      refine he i x H hi e _ ?_
      subst e
      refine ⟨_, upd_same, sz_lt ?_, ?_⟩
      · rw [List.length_map, List.length_take]; have := (List.getElem?_eq_some_iff.mp hi).1; omega
      · rw [upd_upd, List.take_add_one, hi, List.map_append]; rfl⟩) (fun H e => by rw [e, List.take_length]; exact q)
end
end G
namespace G
open PySem PySem.Spec PyProof.Rows L2 Evl
/-! ## rules within a comprehension's block: the written part by its letter -/
section
variable {X : Cx} {K : PySem.W.Frag}
theorem kIxT (h : X.K = K) : IxR X (rIxT K) := by subst h; exact ix_tup
theorem kIxL (h : X.K = K) : IxR X (rIxL K) := by subst h; exact ix_list
theorem kIx (h : X.K = K) : IxR X (rIx K) := by subst h; exact ix_seq
theorem kIn (h : X.K = K) : OpR X (compareOp .In) (rIn K false) := by subst h; exact op_in_seq
theorem kNotIn (h : X.K = K) : OpR X (compareOp .NotIn) (rIn K true) := by subst h; exact op_notIn_seq
theorem kLen (h : X.K = K) : CallR X (.builtin "len") (rLenS K) := by subst h; exact call_len_seq
theorem gStr {x s : Str} {t : Tok} {pos : Pos} (hg : Gl X x) (h : X.mg x = some (.str s t)) (hd : (x == ("__debug__" : Str)) = false := by decide) : PE X (.Name x pos) (tC (.str s)) := pe_glob (v := .str s) hg h ⟨t, rfl⟩ hd
theorem gInt {x : Str} {i : Int} {t : Tok} {pos : Pos} (hg : Gl X x) (h : X.mg x = some (.int i t)) (hd : (x == ("__debug__" : Str)) = false := by decide) : PE X (.Name x pos) (tC (.int i)) := pe_glob (v := .int i) hg h ⟨t, rfl⟩ hd
theorem gRef {x : Str} {a : Addr} {pos : Pos} (hg : Gl X x) (h : X.mg x = some (.ref a)) (hd : (x == ("__debug__" : Str)) = false := by decide) : PE X (.Name x pos) (tC (.ref a)) := pe_glob (v := .ref a) hg h rfl hd
theorem kSlL (h : X.K = K) : SlR X (rSlL K) := by subst h; exact sl_list
theorem kCatA (h : X.K = K) : OpR X (binaryOp .Add) (rCatA K) := by subst h; exact op_catA
theorem kAny (h : X.K = K) (hc : X.calm = true) : CallR X (.builtin "any") (rAny K) := by subst h; exact cr_any hc
theorem kAll (h : X.K = K) (hc : X.calm = true) : CallR X (.builtin "all") (rAll K) := by subst h; exact cr_all hc
theorem kLtT (h : X.K = K) (hu : X.A.units < cLine) : OpR X (compareOp .Lt) (rLtT K) := by subst h; exact op_ltT hu
theorem kPiT {e tg : Expr} {te : TE} (h : X.K = K) (he : PE X e te) : PI X tg e (iTup K te) := by subst h; exact pi_tup he
theorem kPiL {e tg : Expr} {te : TE} (h : X.K = K) (he : PE X e te) : PI X tg e (iList K te) := by subst h; exact pi_list he
theorem kSlA (h : X.K = K) : SlR X (rSlA K) := by subst h; exact sl_tupA
end
end G
namespace G
open PySem PySem.Spec PyProof.Rows L2 Evl
theorem dpAll_map {α : Type} {K : PySem.W.Frag} {H : Hp} {f : α → V} {g : α → PyData} (h : ∀ x, Dp K H (f x) (g x)) : ∀ l : List α, DpAll K H (l.map f) (l.map g)
  | [] => .nil
  | x :: r => .cons (h x) (dpAll_map h r)
theorem dp_ints {K : PySem.W.Frag} {H : Hp} {a : Addr} {ns : List Int} (h : SqL K H a (ns.map V.int)) : Dp K H (.ref a) (.list (ns.map PyData.int)) := .lst h (dpAll_map (fun i => .int i) ns)
theorem dp_nil {K : PySem.W.Frag} {H : Hp} {a : Addr} (h : SqL K H a []) : Dp K H (.ref a) (.list []) := .lst h .nil
theorem eqv_nil (l : List PyData) : PyData.eqv (.list l) (.list []) = l.isEmpty := by cases l <;> rfl
theorem shaped_nil : SeqAt.shaped (.list []) = true := by decide +kernel
end G
/-! enumerate over a tuple -/
namespace PySem
section
variable {prog : Program} {w : World} {A : Around} {E : Value → Shared → Prop} {s : Shared}
theorem G_tupOf {h : Heap} {a : Addr} {xs : Array Value} (p : PyProof.Rows.IsTup h a xs) : h.IsTuple a xs := p
set_option maxHeartbeats 2000000 in
theorem G_enumNew {v : Value} {o : Obj} {Hh : Heap → Prop} (B : Begins v o Hh) :
    Meets (Builtin.«enumerate.__new__» ⟨[.type "enumerate", v], []⟩) (fun _ R s => Hh s.heap ∧
      R (.ok (.ret (.ref (s.heap.push o).objs.size))) { s with heap := (s.heap.push o).push { cls := .type "enumerate", data := .fields #[.none, .bool false, .ref s.heap.objs.size, rawInt 0, .none, .none] } }) :=
  .of_wp fun pr wo ar rr sh hh => by
    obtain ⟨hp, gg, dd, tk, os⟩ := sh; obtain ⟨h1, h2⟩ := hh
    have sub0 := sub_enumerate
    have qq : ∀ {A' : Around} {E : Value → Shared → Prop} {Q : Value → Shared → Prop}, Q (.ref hp.objs.size) ⟨hp.push o, gg, dd, tk, os⟩ → wpAny (model pr wo) A' (pyIter v) Q E ⟨hp, gg, dd, tk, os⟩ :=
      fun z => B.iter pr wo _ _ ⟨hp, gg, dd, tk, os⟩ _ h1 z
    wp_walk using qq
    refine wpAny_stack_any fun _ => wpAny_pure ?_
    split
    · rename_i cc _ _ _ _ _
      cases (cc == Value.type "enumerate") <;> (wp_walk using qq; exact ⟨_, rfl, h2⟩)
    · wp_walk using qq
      exact ⟨_, rfl, h2⟩
theorem G_enumCall {v : Value} {o : Obj} {Hh : Heap → Prop} {Q : Value → Shared → Prop} (B : Begins v o Hh) (h1 : Hh s.heap)
    (k : ∀ h', IsEnum h' (s.heap.objs.size + 1) s.heap.objs.size 0 .none → h'.get? s.heap.objs.size = some o → (∀ b u, s.heap.get? b = some u → h'.get? b = some u) → Q (.ref (s.heap.objs.size + 1)) { s with heap := h' }) :
    wpAny (model prog w) A (call (.type "enumerate") [v]) Q E s := by
  refine callType_new F.called_enumerate (by decide) (F.typeCall_enumerate_1 _) (F.newCall_enumerate_1 _) (fun y => F.args_object_init_2 y _) F.entry_enumerate_new (G_enumNew B) ⟨h1, ?_⟩
  have hz : (s.heap.push o).objs.size = s.heap.objs.size + 1 := Heap.size_push ..
  show _ ∧ _
  rw [hz]
  have he : IsEnum ((s.heap.push o).push { cls := .type "enumerate", data := .fields #[.none, .bool false, .ref s.heap.objs.size, rawInt 0, .none, .none] }) (s.heap.objs.size + 1) s.heap.objs.size 0 .none := by
    have hs := Heap.get?_push_size (s.heap.push o) (o := { cls := .type "enumerate", data := .fields #[.none, .bool false, .ref s.heap.objs.size, rawInt 0, .none, .none] }) rfl
    rw [hz] at hs; exact hs
  exact ⟨⟨_, he, rfl⟩, k _ he (Heap.get?_push_of_some _ (Heap.get?_push_size _ B.free)) fun b u x => Heap.get?_push_of_some _ (Heap.get?_push_of_some _ x)⟩
end
end PySem
namespace G
open PySem PySem.Spec PyProof.Rows L2 Evl
/-- the tuple at a at each turn, each item in a new pair -/
def IteT (K : PySem.W.Frag) (a : Addr) : It :=
  ⟨fun i H => ∃ (xs : List V) (x : V), SqT K H a xs ∧ xs[i]? = some x,
   fun i H v H' => ∃ T x, v = .ref T ∧ H T = none ∧ H' = upd H T (.tup [.int (i : Nat), x]) ∧ ∀ xs, SqT K H a xs → xs[i]? = some x,
   fun i H => ∃ xs : List V, SqT K H a xs ∧ xs.length = i⟩
theorem turn_enumT {P : Program} {w : World} {K : PySem.W.Frag} {elts : List Expr} {kk : Nat} {tpos : Pos} (a e it : Addr) :
    Turn P w K (.Tuple elts kk tpos) (IteT K a) [e, it] e (fun i h => (∃ old, IsEnum h e it ((i : Nat) : Int) old) ∧ h.IsTupleIter it a i ∧ e ≠ it ∧ a ≠ it ∧ a ≠ e) where
  mem := by simp
  obj := fun i h st b hb => by
    obtain ⟨⟨old, he⟩, ⟨o, ho, hc, hd⟩, _⟩ := st
    have hb' : b = e ∨ b = it := by simpa using hb
    rcases hb' with z | z
    · rw [z]; exact ⟨_, he, fun v q => nomatch q⟩
    · rw [z]; exact ⟨o, ho, fun v q => by rw [hd] at q; cases q⟩
  keep := fun i h h' st k => by
    obtain ⟨⟨old, he⟩, hi, hne⟩ := st
    exact ⟨⟨old, k e (by simp) _ he⟩, hi.at fun o q => k it (by simp) o q, hne⟩
  item := by
    intro X hP hw hK hc i pins s σ H E I hf st hg
    subst hP hw hK
    obtain ⟨⟨old, he⟩, hit, hne, hai, hae⟩ := st
    obtain ⟨xs, x, hq, hx⟩ := hg
    obtain ⟨its, rv, p, hz⟩ := I.tuple hq
    obtain ⟨u, hu, ru⟩ := rv.get hx
    have hel : e < s.heap.objs.size := Heap.lt_size he
    have hil : it < s.heap.objs.size := by obtain ⟨_, q, _⟩ := hit; exact Heap.lt_size q
    have hh : X.A.handled = none := I.ok.hd hc
    refine wpAny_pyNext_enum_itemD (Draws.tuple (A := X.A.in1) hh it a hai its.toArray) he ⟨hit, p⟩ ?_ hne ?_ fun y h' tk hy ho hst hT hsz hk => ?_
    · have := (List.getElem?_eq_some_iff.mp hu).1
      simpa using this
    · intro hm
      have hm' : e = it ∨ e = a := by simpa using hm
      rcases hm' with z | z
      · exact hne z
      · exact hae z.symm
    · have ey : y = u := by
        have hy' : its[i]? = some y := by simpa using hy
        exact Option.some.inj (hy'.symm.trans hu)
      subst ey
      refine ⟨_, rfl, wpAny_letOwnedTupleGo_enum (s := { s with heap := h', toks := tk + 1 }) ho fun h'' he' sb => ?_⟩
      have hT2 : h''.get? s.heap.objs.size = some { cls := .type "tuple", data := .seq #[.int i tk, y] } := (sb.2 _ (Nat.ne_of_gt hel)).trans hT
      have new : ObjOk X.prog X.w (upd H s.heap.objs.size (.tup [.int (i : Nat), x])) h'' s.heap.objs.size (.tup [.int (i : Nat), x]) :=
        ⟨by show 2 ≤ sizeLine; decide, [.int i tk, y], .cons ⟨_, rfl⟩ (.cons ru .nil), ⟨_, hT2, rfl, _, rfl⟩⟩
      have I1 : Inv X pins σ (upd H s.heap.objs.size (.tup [.int (i : Nat), x])) { s with heap := h'', toks := tk + 1 } :=
        I.turnedNew (ch := [e, it]) (fun b ob hb q => (sb.2 b (fun z => hb (by simp [z]))).trans (hk b ob (fun z => hb (by simp [z])) (fun z => hb (by simp [z])) q)) hf (Nat.le_refl _) new
      refine ⟨.ref s.heap.objs.size, _, I1, rfl, ⟨_, x, rfl, I.hok.fresh (Nat.le_refl _), rfl, fun ys hy => by rw [I.tuple_inj hy hq]; exact hx⟩, ⟨⟨y, ?_⟩, hst.1.at fun o q => (sb.2 it (Ne.symm hne)).trans q, hne, hai, hae⟩, fun b hb => ?_⟩
      · have e1 : ((i + 1 : Nat) : Int) = (i : Int) + 1 := by omega
        rw [e1]; exact he'
      · have hb' : b < s.heap.objs.size := by
          have hb2 : b = e ∨ b = it := by simpa using hb
          rcases hb2 with z | z
          · rw [z]; exact hel
          · rw [z]; exact hil
        rw [upd_ne (Nat.ne_of_lt hb')]
        exact (hf b hb).1
  done := by
    intro X hP hw hK hc i pins s σ H E I hf st hg
    subst hP hw hK
    obtain ⟨⟨old, he⟩, hit, hne, hai, hae⟩ := st
    obtain ⟨xs, hq, hx⟩ := hg
    obtain ⟨its, rv, p, hz⟩ := I.tuple hq
    obtain ⟨f0, f1, f2, f3, f4, f5⟩ := hf it (by simp)
    have hl := rv.length
    have hh : X.A.handled = none := I.ok.hd hc
    have ei : its.toArray.size = i := by rw [List.size_toArray, ← hl]; exact hx
    have st2 : s.heap.IsTupleIter it a its.toArray.size ∧ s.heap.IsTuple a its.toArray := by rw [ei]; exact ⟨hit, p⟩
    exact wpAny_pyNext_enum_endD (Draws.tuple (A := X.A.in1) hh it a hai its.toArray) he st2 fun h' eb => ⟨rfl, I.turned (t' := s.toks) (fun b o hb q => eb b o hb q) f0 f1 f3 f4 f5⟩
  self := fun A i s Q E st h => by
    obtain ⟨⟨_, he⟩, _⟩ := st
    exact wpAny_pyIter_enum he h
def iEnumT (K : PySem.W.Frag) (ta : TA) : TI := fun σ H R => ta σ H fun vs H1 => ∃ a xs, vs = [.ref a] ∧ SqT K H1 a xs ∧ R (IteT K a) H1
theorem pi_enumT {X : Cx} {e : Expr} {ta : TA} {p pos tpos : Pos} {elts : List Expr} {kk : Nat} (hg : Gl X "enumerate") (hm : X.mg "enumerate" = none) (ha : PA X [e] ta) (hs : starEach [e] X.env = [(false, eval e X.env)] := by rfl) :
    PI X (.Tuple elts kk tpos) (.Call (.Name "enumerate" p) [e] [] pos) (iEnumT X.K ta) := by
  refine ⟨fun pins s σ H R I h => Call_ (ld_blt I hg hm boot_enumerate (PyProof.Rows.callWith_type1 (thn (ha.run pos pins s σ H _ I h) fun us s1 ⟨vs, H1, I1, r1, q1⟩ => ?_) hs rfl))⟩
  obtain ⟨a, xs, rfl, hq, q⟩ := q1
  cases r1 with
  | cons r rr =>
    cases rr
    cases r
    obtain ⟨its, rv, p', hz⟩ := I1.tuple hq
    have hal : a < s1.heap.objs.size := by obtain ⟨o, ho, _⟩ := p'; exact Heap.lt_size ho
    refine G_enumCall (begins_tuple a its.toArray) p' fun h' he hit hk => wpAny_pyIter_enum he ?_
    have I2 : Inv X pins σ H1 { s1 with heap := h' } := I1.kept (t' := s1.toks) hk
    refine ⟨s1.heap.objs.size + 1, [s1.heap.objs.size + 1, s1.heap.objs.size], _, _, H1, rfl, I2, turn_enumT a (s1.heap.objs.size + 1) s1.heap.objs.size,
      ⟨⟨.none, he⟩, ⟨_, hit, rfl, rfl⟩, Nat.succ_ne_self _, Nat.ne_of_lt hal, Nat.ne_of_lt (Nat.lt_succ_of_lt hal)⟩, fun b hb => ?_, q⟩
    have hb' : b = s1.heap.objs.size + 1 ∨ b = s1.heap.objs.size := by simpa using hb
    have hle : s1.heap.objs.size ≤ b := by
      rcases hb' with z | z
      · rw [z]; exact Nat.le_add_right _ _
      · rw [z]; exact Nat.le_refl _
    exact I1.fpOk hle (I1.hok.fresh hle)
theorem walk_enumT {K : PySem.W.Frag} {a : Addr} {xs : List V} : Walk (IteT K a) xs.length (fun H => SqT K H a xs) (YPair (fun i => some (.int (i : Nat))) (fun i => xs[i]?)) := by
  refine ⟨fun i _ hi q => ⟨xs, xs[i], q, by simp [hi]⟩, fun _ q => ⟨xs, q, rfl⟩, fun i H v H' _ q y => ?_⟩
  obtain ⟨T, x, h1, h2, h3, h4⟩ := y
  exact ⟨T, .int (i : Nat), x, h1, h2, h3, rfl, h4 xs q⟩
theorem kPiEnumT {X : Cx} {K : PySem.W.Frag} {e : Expr} {ta : TA} {p pos tpos : Pos} {elts : List Expr} {kk : Nat} (h : X.K = K) (hg : Gl X "enumerate") (hm : X.mg "enumerate" = none) (ha : PA X [e] ta) (hs : starEach [e] X.env = [(false, eval e X.env)] := by rfl) :
    PI X (.Tuple elts kk tpos) (.Call (.Name "enumerate" p) [e] [] pos) (iEnumT K ta) := by subst h; exact pi_enumT hg hm ha hs
end G
/-! t[a::2], t a tuple -/
namespace HT
open PySem PySem.Spec PyProof.Rows L2
section
variable {prog : Program} {w : World} {A : Around} {E : Value → Shared → Prop} {s : Shared}
theorem g_applied {sl : Addr} {vl vu vs : Value} {lo hi : Option Int} {st : Int} {n : Nat} {Q : Int × Int × Nat → Shared → Prop} (hs : s.heap.IsSliceOf sl vl vu vs) (pl : IsPart vl lo) (pu : IsPart vu hi) (ps : IsPart vs (some st)) (h0 : st ≠ 0)
    (h : Q ((Builtin.Slice.sliceAdjust lo hi st (n : Int)).1, st, Builtin.Slice.slicePlaces (Builtin.Slice.sliceAdjust lo hi st (n : Int)).1 (Builtin.Slice.sliceAdjust lo hi st (n : Int)).2 st) s) :
    wpAny (model prog w) A (Builtin.Slice.sliceApplied (.ref sl) (pure (n : Int))) Q E s := by
  obtain ⟨ob, hob, _, hd⟩ := id hs
  unfold Builtin.Slice.sliceApplied Builtin.Slice.sliceFields
  refine wpAny_bind (wpAny_bind (wpAny_field hob hd (x := vl) rfl (wpAny_bind (wpAny_field hob hd (x := vu) rfl (wpAny_bind (wpAny_field hob hd (x := vs) rfl (wpAny_pure ?_)))))))
  refine wpAny_bind (slicePart_ ps ?_)
  show wpAny _ _ (if (st == 0) = true then _ else _) _ _ s
  rw [if_neg (by intro q; exact h0 (eq_of_beq q))]
  exact wpAny_bind (slicePart_ pl (wpAny_bind (slicePart_ pu (wpAny_bind (wpAny_pure (wpAny_pure h))))))
def stepped (xs : List Value) (lo st : Int) (n : Nat) : List Value := (List.range n).filterMap fun (k : Nat) => xs.toArray[(lo + (k : Int) * st).toNat]?
theorem g_getStep {t sl : Addr} {its : List Value} {vl vu vs : Value} {lo hi : Option Int} {st : Int} {Q : Value → Shared → Prop} (ht : IsTup s.heap t its.toArray) (hs : s.heap.IsSliceOf sl vl vu vs) (pl : IsPart vl lo) (pu : IsPart vu hi) (ps : IsPart vs (some st)) (h0 : st ≠ 0) (h1 : st ≠ 1)
    (hz : (stepped its (Builtin.Slice.sliceAdjust lo hi st (its.toArray.size : Int)).1 st (Builtin.Slice.slicePlaces (Builtin.Slice.sliceAdjust lo hi st (its.toArray.size : Int)).1 (Builtin.Slice.sliceAdjust lo hi st (its.toArray.size : Int)).2 st)).length ≤ sizeLine)
    (h : Q (.ref s.heap.objs.size) { s with heap := s.heap.push { cls := .type "tuple", data := .seq (stepped its (Builtin.Slice.sliceAdjust lo hi st (its.toArray.size : Int)).1 st (Builtin.Slice.slicePlaces (Builtin.Slice.sliceAdjust lo hi st (its.toArray.size : Int)).1 (Builtin.Slice.sliceAdjust lo hi st (its.toArray.size : Int)).2 st)).toArray } }) :
    wpAny (model prog w) A (getItem (.ref t) (.ref sl)) Q E s := by
  have ok : sizeOk (.seq (stepped its (Builtin.Slice.sliceAdjust lo hi st (its.toArray.size : Int)).1 st (Builtin.Slice.slicePlaces (Builtin.Slice.sliceAdjust lo hi st (its.toArray.size : Int)).1 (Builtin.Slice.sliceAdjust lo hi st (its.toArray.size : Int)).2 st)).toArray) := by
    show (stepped its _ st _).toArray.size ≤ sizeLine
    rw [List.size_toArray]; exact hz
  obtain ⟨ob, hob, hc, hd⟩ := id hs
  have hTs : s.TypeIs (.ref sl) "slice" := ⟨ob, hob, hc⟩
  unfold getItem
  try with_reducible refine wpAny_holding ?_
  first | refine wpAny_bind (wpAny_pure ?_) | skip
  refine wpAny_bind (wpAny_sequenceKey ht.typeIs (by decide) ?_)
  refine wpAny_bind (wpAny_callSpecial?_slot (name := Str.ofString "__getitem__") ht.typeIs slot_tuple_getitem (wpAny_call_entry slot_tuple_getitem ht.typeIs entry_tuple_getitem ?_ (args_tuple_getitem _ _)))
  show wpAny _ _ (Builtin.Tuple.tupleItemsOf (.ref t) >>= _) _ _ s
  refine wpAny_bind (tupleItemsOf_ ht (wpAny_bind (wpAny_typeOf hTs ?_)))
  rw [if_pos (by decide)]
  refine wpAny_bind (g_applied hs pl pu ps h0 ?_)
  generalize (Builtin.Slice.sliceAdjust lo hi st (its.toArray.size : Int)).1 = l0 at *
  generalize Builtin.Slice.slicePlaces l0 (Builtin.Slice.sliceAdjust lo hi st (its.toArray.size : Int)).2 st = n0 at *
  have hno : ¬ ((l0 == 0 && st == 1 && n0 == its.toArray.size) = true) := by
    intro q
    rw [Bool.and_eq_true, Bool.and_eq_true] at q
    exact h1 (eq_of_beq q.1.2)
  show wpAny _ _ (if (l0 == 0 && st == 1 && n0 == its.toArray.size) = true then _ else _) _ _ s
  rw [if_neg hno]
  first
    | exact wpAny_bind (m := Builtin.Tuple.tupleExact _) (wpAny_newObj_type (wpAny_pure ⟨_, rfl, wpAny_pure h⟩) ok)
    | exact wpAny_bind (m := Builtin.Tuple.tupleExact _) (wpAny_newObj_type (wpAny_bind (wpAny_pure (wpAny_pure ⟨_, rfl, wpAny_pure h⟩))) ok)
    | exact wpAny_bind (wpAny_bind (m := Builtin.Tuple.tupleExact _) (wpAny_newObj_type (wpAny_pure (wpAny_pure ⟨_, rfl, wpAny_pure h⟩)) ok))
    | exact wpAny_bind (wpAny_bind (m := Builtin.Tuple.tupleExact _) (wpAny_newObj_type (wpAny_pure ⟨_, rfl, wpAny_pure h⟩) ok))
end
end HT
namespace G
open PySem PySem.Spec PyProof.Rows L2 Evl
/-- every second item from a on -/
def halfL {α : Type} (a : Nat) (xs : List α) : List α := (List.range ((xs.length - a + 1) / 2)).filterMap fun k => xs[a + 2 * k]?
theorem halfL_len {α : Type} (a : Nat) (xs : List α) : (halfL a xs).length ≤ xs.length + 1 := by
  unfold halfL
  refine Nat.le_trans (List.length_filterMap_le _ _) ?_
  rw [List.length_range]; omega
theorem vals_filterMap {f : Nat → Option V} {g : Nat → Option Value} : ∀ {l : List Nat}, (∀ k, k ∈ l → RelO (f k) (g k)) → Vals (l.filterMap f) (l.filterMap g)
  | [], _ => .nil
  | k :: r, h => by
    have hk := h k (List.mem_cons_self ..)
    have ih := vals_filterMap (l := r) fun j hj => h j (List.mem_cons_of_mem _ hj)
    rw [List.filterMap_cons, List.filterMap_cons]
    cases e : f k with
    | none =>
      cases e2 : g k with
      | none => exact ih
      | some u => rw [e, e2] at hk; exact hk.elim
    | some v =>
      cases e2 : g k with
      | none => rw [e, e2] at hk; exact hk.elim
      | some u => rw [e, e2] at hk; exact .cons hk ih
def tHalf (K : PySem.W.Frag) (a : Nat) (te : TE) : TE := fun σ H Q => te σ H fun x H1 => ∃ t xs, x = .ref t ∧ SqT K H1 t xs ∧ xs.length ≤ 100000 ∧ ∀ p, H1 p = none → Q (.ref p) (upd H1 p (.tup (halfL a xs)))
theorem half_places {a n : Nat} (h : a ≤ 1) : (Builtin.Slice.sliceAdjust (some (a : Int)) none 2 (n : Int)).1 = ((min a n : Nat) : Int) ∧
    Builtin.Slice.slicePlaces (Builtin.Slice.sliceAdjust (some (a : Int)) none 2 (n : Int)).1 (Builtin.Slice.sliceAdjust (some (a : Int)) none 2 (n : Int)).2 2 = (n - a + 1) / 2 := by
  have h2 : ¬ ((2 : Int) < 0) := by omega
  have h3 : (2 : Int) > 0 := by omega
  have ha : ¬ ((a : Int) < 0) := by omega
  have e : Builtin.Slice.sliceAdjust (some (a : Int)) none 2 (n : Int) = (((min a n : Nat) : Int), (n : Int)) := by
    unfold Builtin.Slice.sliceAdjust
    simp only [h2, if_false, ha]
    refine Prod.ext ?_ rfl
    show min (a : Int) (n : Int) = ((min a n : Nat) : Int)
    omega
  rw [e]
  refine ⟨rfl, ?_⟩
  show Builtin.Slice.slicePlaces ((min a n : Nat) : Int) (n : Int) 2 = (n - a + 1) / 2
  unfold Builtin.Slice.slicePlaces
  simp only [h3, if_true]
  split <;> omega
section
variable {X : Cx}
theorem pe_half {e : Expr} {te : TE} {a : Nat} {k1 k2 : Nat} {p1 p2 p3 pos : Pos} (ha : a ≤ 1) (he : PE X e te) : PE X (.Subscript e (.Slice (some (.Constant (.int (a : Int)) k1 p1)) none (some (.Constant (.int 2) k2 p2)) p3) pos) (tHalf X.K a te) := by
  refine ⟨fun pins s σ H Q I h => Subscript_ (thn (he.run pins s σ H _ I h) fun v s1 ⟨x, H1, I1, r1, q1⟩ => ?_)⟩
  obtain ⟨t, xs, rfl, hx, hlen, q⟩ := q1
  cases r1
  have hlo : PO X (some (.Constant (.int (a : Int)) k1 p1)) (tPart (tC (.int (a : Int)))) := po_some pe_int
  have hst : PO X (some (.Constant (.int 2) k2 p2)) (tPart (tC (.int 2))) := po_some pe_int
  refine wpAny_Slice (thn (hlo.run pins s1 σ H1 (fun o H2 => o = some (a : Int) ∧ H2 = H1) I1 ⟨_, rfl, rfl, rfl⟩) fun vl s2 ⟨l, H2, I2, pl, el, e2⟩ => ?_)
  subst el e2
  refine thn (po_none.run pins s2 σ H2 (fun o H3 => o = none ∧ H3 = H2) I2 ⟨rfl, rfl⟩) fun vu s3 ⟨u, H3, I3, pu, eu, e3⟩ => ?_
  subst eu e3
  refine thn (hst.run pins s3 σ H3 (fun o H4 => o = some 2 ∧ H4 = H3) I3 ⟨_, rfl, rfl, rfl⟩) fun vs s4 ⟨o, H4, I4, ps, eo, e4⟩ => ?_
  subst eo e4
  have I5 : Inv X pins σ H4 { s4 with heap := s4.heap.push { cls := .type "slice", data := .fields #[vl, vu, vs] } } := I4.kept (t' := s4.toks) fun b ob q => Heap.get?_push_of_some _ q
  obtain ⟨its, r, ht, hz⟩ := I5.tuple hx
  have hl : its.toArray.size = xs.length := by rw [List.size_toArray]; exact r.length.symm
  obtain ⟨hp1, hp2⟩ := half_places (n := xs.length) ha
  have hrel : Vals (halfL a xs) (HT.stepped its ((min a xs.length : Nat) : Int) 2 ((xs.length - a + 1) / 2)) := by
    unfold halfL HT.stepped
    refine vals_filterMap fun k hk => ?_
    have hk' := List.mem_range.mp hk
    have hi : a + 2 * k < xs.length := by omega
    have en : (((min a xs.length : Nat) : Int) + (k : Int) * 2).toNat = a + 2 * k := by omega
    rw [en, List.getElem?_eq_getElem hi]
    obtain ⟨u, hu, ru⟩ := r.get (List.getElem?_eq_getElem hi)
    rw [List.getElem?_toArray, hu]
    exact ru
  have hsz : (halfL a xs).length ≤ sizeLine := sz_of (by
    unfold halfL
    refine Nat.le_trans (List.length_filterMap_le _ _) ?_
    rw [List.length_range]
    omega)
  show wpAny (model X.prog X.w) X.A (subscriptTail e (.Slice (some (.Constant (.int (a : Int)) k1 p1)) none (some (.Constant (.int 2) k2 p2)) p3) (.ref t) (.ref s4.heap.objs.size)) (EP X pins σ Q) X.xe { s4 with heap := s4.heap.push { cls := .type "slice", data := .fields #[vl, vu, vs] } }
  refine tail_any (ops := [.ref t, .ref s4.heap.objs.size]) ht.typeIs PyProof.Rows.slot_tuple_getitem.lookup ?_ (by with_unfolding_all rfl)
  refine HT.g_getStep ht (Heap.IsSliceOf.new _ vl vu vs) pl pu ps (by decide) (by decide) ?_ ?_
  · rw [hl, hp2, hp1, ← hrel.length]; exact hsz
  · rw [hl, hp2, hp1]
    refine ⟨.ref _, _, I5.laid (t' := s4.toks) (o := .tup (halfL a xs)) (fun b ob q => Heap.get?_push_of_some _ q) (Nat.le_refl _) ?_, rfl, q _ (I5.hok.fresh (Nat.le_refl _))⟩
    exact ⟨hsz, _, hrel, ⟨_, Heap.get?_push_size _ rfl, rfl, _, rfl⟩⟩
end
end G
namespace G
open PySem PySem.Spec PyProof.Rows L2
/-- a def that the top has named anew: x is its name among the globals, r its own -/
def DfdA (K : PySem.W.Frag) (mg : Str → Option Value) (x r : Str) (st : Stmt) (ps : List Str) : Prop := ∃ (f : Addr) (fd : FuncData), Fun K r r st f fd ∧ mg x = some (.ref f) ∧ Binds K fd ps []
section
variable {P : Program} {w : World} {K : PySem.W.Frag} {mg : Str → Option Value} {base : Heap}
theorem DfdA.has {x r : Str} {st : Stmt} {ps : List Str} {k : Nat} {sp : Sp} (d : DfdA K mg x r st ps) (h : ∀ f fd, Fun K r r st f fd → FnOk P w K mg base CX0 k f fd ps sp) : Has P w K mg base k x ps sp := by
  obtain ⟨f, fd, F, g, b⟩ := d
  exact ⟨f, fd, h f fd F, g, F.kp, b⟩
end
end G
namespace G
open PySem PySem.Spec PyProof.Rows L2
/-! ## a def with one default, a whole number -/
theorem dfl_mk {K : PySem.W.Frag} {x qual : Str} {st : Stmt} {f T : Addr} {v : Int} {tk : Tok} {tn : Nat} {tc oc kV doc pm cdv ct : Value} {td od an : Option Addr} {osl tsl : Array (Option Value)}
    (lk : K.lookup f = some ⟨oc, od, .func (PySem.W.fnOf x qual (defArgs st) (defBody st) (defScope st) (.ref T) kV doc pm an cdv ct), osl⟩) (hcd : PySem.W.codeIn K cdv qual = true) (kp : PySem.W.keepIn K (.ref f) = true)
    (lT : K.lookup T = some ⟨tc, td, .seq #[.int v tk] tn, tsl⟩) : FunD K x qual (defArgs st) (defBody st) (defScope st) [.int v] [] f (PySem.W.fnOf x qual (defArgs st) (defBody st) (defScope st) (.ref T) kV doc pm an cdv ct) :=
  ⟨⟨oc, od, .ref T, kV, doc, pm, an, cdv, ct, osl, rfl, lk, hcd, .inr ⟨(by intro z; cases z), T, _, [.int v tk], tn, rfl, lT, rfl, .cons ⟨_, rfl⟩ .nil⟩, .inl rfl⟩, kp⟩
theorem vals_nil {ds : List Value} (h : Vals [] ds) : ds = [] := by cases h; rfl
theorem binds_full {K : PySem.W.Frag} {fd : FuncData} {ps : List Str} (h : ∃ ds, Vals [] ds ∧ Binds K fd ps ds) : Binds K fd ps [] := by
  obtain ⟨ds, h1, h2⟩ := h
  rw [vals_nil h1] at h2
  exact h2
end G
namespace G
open PySem PySem.Spec PyProof.Rows L2
theorem kdct_of {K : PySem.W.Frag} {w : World} {a : Addr} {ks : List Str} {x : Str} {u : Value} {v : V} (h : He.dicW K a = some (He.keysIn w.params ks)) (e : PySem.W.nsIn K a x = some (some u)) (r : RelV v u) : KDct K w a x v := by
  obtain ⟨es, n, D⟩ := He.dicW_ok h
  exact ⟨es, n, u, D.at_, D.lit, e, r⟩
end G
namespace SUP
open PySem PySem.Spec PyProof.Rows L2 PySem.W
/-! ## an own error whose `__init__` begins with super().__init__(e, ..), over own classes over ValueError -/
/-- what the written part says of the class at C and of its `__init__` -/
structure SupT (K : PySem.W.Frag) (mg : Str → Option Value) (C f : Addr) (fd : FuncData) (qual : Str) (params : Arguments) (body : List Stmt) (scope : Scope) (file : Str) : Prop where
  oex : OexC K C
  ini : PySem.W.findIn K (.ref C) "__init__" = some (some (.ref f))
  tI : PySem.W.typeIn K (.ref f) = some (.type "function")
  msup : mg "super" = none
  any : PySem.W.nsIn K cStatics "thirdparty.any" = some none
  vE : PySem.W.subIn K (.ref C) (.type "ValueError") = some true
  sub : PySem.W.mroIn K C (.ref C) = some true
  sup : PySem.W.ks_superIn K C C "__init__" = some (some (.builtin "ValueError.__init__"))
  ex : ∃ (oc : Value) (od : Option Addr) (dV kV doc pm : Value) (an : Option Addr) (cda cc : Addr) (ct : Value) (osl : Array (Option Value)),
    fd = PySem.W.fnX "__init__" qual params body scope [("__class__", cc)] dV kV doc pm an (.ref cda) ct ∧ K.lookup f = some ⟨oc, od, .func fd, osl⟩ ∧ PySem.W.codeIn K (.ref cda) qual = true ∧
    (∃ (oc2 : Value) (od2 : Option Addr) (vs : Array Value) (sl2 : Array (Option Value)) (tf : Tok), K.lookup cda = some ⟨oc2, od2, .fields vs, sl2⟩ ∧ vs[2]? = some (.str file tf)) ∧
    ∃ (oc3 : Value) (od3 : Option Addr) (sl3 : Array (Option Value)), K.lookup cc = some ⟨oc3, od3, .cell (some (.ref C)), sl3⟩

section
variable {X : Cx} {pins : List (Addr × Obj)} {σ : L2.St} {H : Hp} {a C : Addr}
theorem inst_of {s : Shared} (I : Inv X pins σ H s) (ea : H a = some (exo a C none)) : ∃ t1 : Addr, PySem.W.InstAt s.heap a { cls := .ref C, dict := none, data := .fields #[.ref t1, .none, .none, .none, .bool false, .none] } C none := by
  obtain ⟨t1, ho⟩ := exo_at I.hok ea
  exact ⟨t1, ho, rfl, rfl, trivial⟩
/-- the bound `__init__` of ValueError, called -/
theorem call_mw {u : Addr} {A : Around} {E : Value → Shared → Prop} {us : List Value} {Q : Value → Shared → Prop} {s : Shared} (T : OexC X.K C) (I : Inv X pins σ H s) (hu : s.heap.get? u = some (PySem.W.kxs_mw "ValueError.__init__" a)) (ea : H a = some (exo a C none))
    (hl : us.length ≤ sizeLine) (h : ∀ s', Inv X pins σ H s' → Q .none s') : wpAny (model X.prog X.w) A (call (.ref u) us) Q E s := by
  obtain ⟨nm, q, N, bs, bm, sn, sub, ab, col, dd, k0, k1, k2, k3, k5, hC, hbm⟩ := T.cls
  obtain ⟨t1, ho⟩ := exo_at I.hok ea
  obtain ⟨hp, g, d, t, os⟩ := s
  refine wpAny_call (codeAny_of_tree ?_)
  show wpAny _ A.in1 (callAny (.ref u) ⟨us, []⟩) _ _ _
  simp only [callAny]
  refine wpAny_bind (wpAny_load hu ?_)
  simp only [PySem.W.kxs_mw, show (Value.type "method-wrapper" == Value.type "method" || Value.type "method-wrapper" == Value.type "builtin_function_or_method" || Value.type "method-wrapper" == Value.type "method-wrapper") = true by decide, if_true]
  refine PySem.W.KFB.if_so (by decide) ?_
  refine wpAny_bind (PySem.W.check_bound_init F.excBase_ValueError.toExcCallFacts (I.kIn _ _ hC) ho rfl ?_)
  refine wpAny_bind (wpAny_pure (wpAny_pure ?_))
  refine ⟨plainId_quiet F.excBase_ValueError.init.plain _, codeAny_builtin F.excBase_ValueError.initEntry ?_⟩
  refine PySem.W.exc_init_tree (cls := .ref C) (t0 := t1) (dv := none) (c2 := .none) (c3 := .none) (b4 := .bool false) ho hl fun h' k hx _ => ?_
  have J := I.write (t' := t) (x := a) (e := a) (o := exo a C none) (by rw [ea]; exact True.intro) (.inl rfl) k ⟨_, hx⟩ (exo_ok hx)
  have eu : upd H a (exo a C none) = H := by
    funext b
    by_cases hb : b = a
    · rw [hb, upd_same, ea]
    · rw [upd_ne hb]
  rw [eu] at J
  exact h _ J
end

section
variable {CX : CXT} {P : Program} {w : World} {K : PySem.W.Frag} {mg : Str → Option Value} {base : Heap} {N ps : List Str} {k : Nat} {C f : Addr} {fd : FuncData} {qual : Str} {params : Arguments} {body rest : List Stmt} {scope : Scope} {file : Str} {e : Expr} {es : List Expr} {p0 p1 p2 p3 p4 : Pos} {ar : Arg} {sp : Sp}
/-- the nested form of it -/
abbrev nf (qual : Str) (params : Arguments) (body : List Stmt) (scope : Scope) (cc cda : Addr) : NdefX.NF := ⟨"__init__", qual, params, body, scope, [("__class__", cc)], cda⟩
/-- THE RULE: such an `__init__` by what follows -/
theorem fn_sup (T : SupT K mg C f fd qual params body scope file) (hfile : ((P.main.file : Str) == file) = true) (htop : (P.main.scope.names.lookup ("super" : Str)).isSome = false)
    (hb : body = .Expr (.Call (.Attribute (.Call (.Name "super" p0) [] [] p1) "__init__" p2) (e :: es) [] p3) p4 :: rest)
    (S : NdefX.NScope N ps ["__class__"] scope) (hp : (params.posonlyargs ++ params.args).head? = some ar) (h0 : N[0]? = some ar.arg) (hks : scope.names.lookup ("super" : Str) = some .globalImplicit) (hka : scope.names.lookup ar.arg = some .local)
    (len : ∀ vs H Q E, sp vs H Q E → vs.length = ps.length)
    (hbody : ∀ (cda cc : Addr) (A : Around) (outer : List Env) (s : Shared) (H : Hp) (vs : List V) (Q : VK) (E : XK), Room k (A.deeper (NdefX.envF (nf qual params body scope cc cda) f s.heap.objs.size)) → sp vs H Q E →
      ∃ ta t, PA (NdefX.ncx CX P w K mg base N (nf qual params body scope cc cda) f A outer s H E) (e :: es) ta ∧ PSs (NdefX.ncx CX P w K mg base N (nf qual params body scope cc cda) f A outer s H E) rest t ∧
        ∃ a, vs[0]? = some (.ref a) ∧ H a = some (exo a C none) ∧ ta (NdefX.startF N vs [none]) H fun ws H1 => ws.length ≤ 1000 ∧ H1 a = some (exo a C none) ∧ t { nx := fun _ H' => Q .non H', rt := Q } (NdefX.startF N vs [none]) H1)
    (pl : Env → Sem Bool) (hev : ∀ env, eval (.Call (.Attribute (.Call (.Name "super" p0) [] [] p1) "__init__" p2) (e :: es) [] p3) env = (do
        let ov ← attributeBase (.Call (.Name "super" p0) [] [] p1) "__init__" env (eval (.Call (.Name "super" p0) [] [] p1) env)
        standAt p2.atName
        let (f, first) ← holding [ov] (getMethod ov "__init__" (pl env))
        callWith p3 f first (backTo p3 (starEach (e :: es) env)) []) := by intro _; rfl)
    (hst : ∀ env, starEach (e :: es) env = (false, eval e env) :: starEach es env := by intro _; rfl) (hpl : ∀ env, (backTo p3 (starEach es env)).any (·.1) = false := by intro _; rfl)
    (hsw : ∀ env, swapsWith (.Call (.Attribute (.Call (.Name "super" p0) [] [] p1) "__init__" p2) (e :: es) [] p3) none p4.line env = pure false := by intro _; rfl)
    (hps : ps.length ≥ 1) : FnOk P w K mg base CX (k + 1) f fd ps sp := by
  refine ⟨len, fun A outer s H args us vs Q E hr e0 hbi r hsp => ?_⟩
  obtain ⟨oc, od, dV, kV, doc, pm, an, cda, cc, ct, osl, hfd, lk, hcd, ⟨oc2, od2, fvs, sl2, tf, lk2, hvs⟩, oc3, od3, sl3, lk3⟩ := T.ex
  have hl := len _ _ _ _ hsp
  have hul : us.length = ps.length := by rw [← r.length, hl]
  have KX : K.In s.heap := e0.mod.kin.keeps fun b o e => (e0.bs b o e).1
  have lim : s.heap.NoLimit := e0.mod.nolimit.keeps fun b o e => (e0.bs b o e).1
  obtain ⟨ta, t, hpa, hpss, a, hva, haH, hq⟩ := hbody cda cc A outer s H vs Q E (hr.deeper _) hsp
  subst hfd
  have hloc : ∀ y ∈ ps.zip us, scope.names.lookup y.1 = some .local := fun ⟨n, v⟩ hy => S.par n (List.of_mem_zip hy).1
  refine ks_codeAny_call_defAt (fd := PySem.W.fnX "__init__" qual params body scope [("__class__", cc)] dV kV doc pm an (.ref cda) ct) hr.depth (KX _ _ lk) rfl lim (PySem.W.codeRec_of KX hcd) rfl hbi S.nocell hloc (fun h1 hns hk => ?_) S.co S.gen S.kind
  have kb : ∀ b o, base.get? b = some o → s.heap.get? b = some o ∧ H b = none := e0.bs
  have cat : NdefX.CellsAt [("__class__", cc)] ["__class__"] [none] s.heap H := {
    len := rfl
    all := fun y c hy => by
      have := PySem.mem_of_lookup hy
      simp only [List.mem_singleton, Prod.mk.injEq] at this
      obtain ⟨rfl, rfl⟩ := this
      exact ⟨(kb _ _ (e0.mod.kin _ _ lk3)).2, some (.ref C), _, KX _ _ lk3, rfl⟩
    inj := fun x y c h1 h2 => by
      have := PySem.mem_of_lookup h1
      have t2 := PySem.mem_of_lookup h2
      simp only [List.mem_singleton, Prod.mk.injEq] at this t2
      exact this.1.trans t2.1.symm
    has := fun i y hy => by
      cases i with
      | zero =>
        have : "__class__" = y := Option.some.inj hy
        subst this
        exact ⟨cc, by simp [List.lookup], fun v hv => by cases hv⟩
      | succ i => simp at hy }
  have I : Inv (NdefX.ncx CX P w K mg base N (nf qual params body scope cc cda) f A outer s H E) [] (NdefX.startF N vs [none]) H { s with heap := h1, toks := s.toks + (ps.zip us).length } :=
    NdefX.inv_startN S hr.hd e0 hl r cat hns hk
  show _root_.PySem.wpAt (model P w) _ (.func body (NdefX.envF (nf qual params body scope cc cda) f s.heap.objs.size)) (execs body (NdefX.envF (nf qual params body scope cc cda) f s.heap.objs.size)) _ _ _
  have hz : interactive (NdefX.envF (nf qual params body scope cc cda) f s.heap.objs.size) = false := by
    simp [interactive, S.kind]
  rw [show execs body (NdefX.envF (nf qual params body scope cc cda) f s.heap.objs.size) = execs (.Expr (.Call (.Attribute (.Call (.Name "super" p0) [] [] p1) "__init__" p2) (e :: es) [] p3) p4 :: rest) (NdefX.envF (nf qual params body scope cc cda) f s.heap.objs.size) from by rw [← hb]]
  refine ks_wpAt_execs_cons (ks_wpAt_Expr_any (ks_wpAt_MethodCall (pl := pl _) ?_ (hev _)) hz (hsw _))
  -- super()
  have KI : K.In ({ s with heap := h1, toks := s.toks + (ps.zip us).length } : Shared).heap := I.kIn
  obtain ⟨nm, q, Nn, bs, bm, sn, sub, ab, col, dd, k0, k1, k2, k3, k5, hC, hbm⟩ := T.oex.cls
  obtain ⟨t1, In⟩ := inst_of I haH
  obtain ⟨mb, bl1, bl2⟩ := e0.mod.blt
  refine ks_wpAt_super_base hks (S.frk _ List.mem_cons_self) (by decide) rfl (KI _ _ lk) rfl hp rfl (KI _ _ lk2) rfl hvs hfile htop ?_
  refine ks_loadName_global S.kind hks (Calls.loadGlobal_builtin (e0.mod.glob.keeps I.bk) T.msup (bl1.keeps I.bk) ((bl2 _ (by decide)).trans PyProof.Rows.Boot.«super») ⟨rfl, ?_⟩)
  refine wpAny_loadName_free S.kind (S.frk _ List.mem_cons_self) (by simp [List.lookup]) ⟨_, KI _ _ lk3, rfl⟩ ?_
  obtain ⟨m, hm, hmv⟩ := I.loc
  have hs0 : (NdefX.startF N vs [none])[0]? = some (some (.ref a)) := by
    unfold NdefX.startF
    rw [List.getElem?_append_left (by rw [List.length_map]; omega), List.getElem?_map, hva]; rfl
  obtain ⟨u, ru, lu⟩ := hmv 0 ar.arg (.ref a) h0 hs0 (.inl hka)
  obtain rfl : u = Value.ref a := ru
  have hma : m ar.arg = some (.ref a) := by
    rcases lu with ⟨_, h⟩ | ⟨h, _⟩
    · exact h
    · rcases h with h | h
      · have h' : scope.names.lookup ar.arg = some .cell := h
        rw [hka] at h'; cases h'
      · have h' : scope.names.lookup ar.arg = some .free := h
        rw [hka] at h'; cases h'
  refine wpAny_loadName_local S.kind hka hm hma ?_
  refine ks_wpAny_isType_cls (KI _ _ hC) rfl ⟨rfl, ?_⟩
  refine ks_wpAny_call_super (KI _ _ hC) rfl In.at_ rfl (fun c z => by cases z) (PySem.W.looks_mroIn KI T.sub) (fun h2 e2 kk2 => ?_)
  have I2 := I.kept (t' := s.toks + (ps.zip us).length) kk2
  -- the bound __init__
  have hcl : PySem.W.clsIn K C = some { name := nm, bases := bs, mro := .ref C :: bm, ns := Nn, qualname := q, hasDict := true, slotNames := sn, subclasses := sub, abstract := ab, collection := col, hasDel := false } := by unfold PySem.W.clsIn; rw [hC] <;> rfl
  have hal : PySem.W.alongIn K "__init__" (((Value.ref C :: bm).dropWhile (· != .ref C)).drop 1) = some (some (.builtin "ValueError.__init__")) := by
    have := T.sup
    unfold PySem.W.ks_superIn at this
    rw [hcl] at this
    exact this
  obtain ⟨t2, In2⟩ := inst_of I2 haH
  refine PySem.W.kxs_getMethod PySem.W.kxs_ValueError e2 (PySem.W.looks_opaque I2.kIn T.any) (l₀ := .ref C :: bm) (fun A Q E s k q => wpAny_bind ((PySem.W.looks_clsIn I2.kIn hcl) A _ E s k (wpAny_pure q))) rfl I2.kIn hal (In2.type.andThen (PySem.W.looks_subIn I2.kIn T.vE)) (PySem.W.ks_ne I2.kIn In2 hcl) (by decide) ?_
  show wpAny _ _ (callWith p3 (.ref h2.objs.size) [] (backTo p3 (starEach (e :: es) (NdefX.envF (nf qual params body scope cc cda) f s.heap.objs.size))) []) _ _ _
  rw [hst]
  refine PySem.W.kxs_callWith (i := "ValueError.__init__") (x := a) (by show (false || (backTo p3 (starEach es _)).any (·.1)) = false; rw [hpl]; rfl) ?_
  refine Calls.evalArgs_plain ?_
  have I4 := ClX.pin_new (a := h2.objs.size) (o := PySem.W.kxs_mw "ValueError.__init__" a) (t' := s.toks + (ps.zip us).length + 1) (h' := h2.push (PySem.W.kxs_mw "ValueError.__init__" a)) I2 (fun b o z => Heap.get?_push_of_some _ z) (Nat.le_refl _) (Heap.get?_push_size _ rfl) (fun v z => by cases z)
  have hst' := hst (NdefX.envF (nf qual params body scope cc cda) f s.heap.objs.size)
  have hrun := hpa.run p3 _ _ _ _ _ I4 hq
  refine wpAny_mono (hst' ▸ hrun) (fun xs s5 hh => ?_) (fun _ _ x => x)
  obtain ⟨ws, H5, I5, r5, hwl, ea5, qt⟩ := hh
  have hu5 := ClX.pin_at I5
  refine ⟨hu5, ?_⟩
  refine call_mw (X := NdefX.ncx CX P w K mg base N (nf qual params body scope cc cda) f A outer s H E) T.oex I5 hu5 ea5 (by show xs.length ≤ _; rw [← Paired.length r5, sizeLine_eq]; omega) fun s6 J => ?_
  refine wpAt_of_wpAny ?_
  refine wpAny_mono (hpss.run _ s6 _ _ _ J qt) (fun fl s' hs => ?_) fun e s' hs => hs
  have fin : ∀ {σ' : L2.St} {H' : Hp} {v : V} {u : Value} {pins}, Inv (NdefX.ncx CX P w K mg base N (nf qual params body scope cc cda) f A outer s H E) pins σ' H' s' → L2.RelV v u → Q v H' → CE outer P w H s Q u s' :=
    fun {σ' H' v u pins} J rv q => ⟨v, H', J.os, J.bare, J.base, J.hok, rv, q⟩
  cases fl with
  | ret u =>
    obtain ⟨v, σ', H', J, rv, q⟩ := hs
    exact fin J rv q
  | next =>
    obtain ⟨σ', H', J, q⟩ := hs
    exact fin (v := V.non) (u := Value.none) J rfl q
  | brk =>
    obtain ⟨_, _, _, q⟩ := hs
    exact False.elim q
  | cont =>
    obtain ⟨_, _, _, q⟩ := hs
    exact False.elim q
end
end SUP
namespace G
open PySem PySem.Spec PyProof.Rows L2 PySem.P
/-! ## del xs[a:] of a list -/
theorem zip_take {α : Type} (p : Nat → Bool) (a : Nat) : ∀ (l : List α) (i : Nat), (∀ k, i ≤ k → k < i + l.length → p k = decide (a ≤ k)) → (l.zipIdx i).filterMap (fun q => if p q.2 = true then none else some q.1) = l.take (a - i)
  | [], i, _ => by simp
  | x :: r, i, h => by
    have hi := h i (Nat.le_refl _) (by rw [List.length_cons]; omega)
    have ih := zip_take p a r (i + 1) fun k k1 k2 => h k (by omega) (by rw [List.length_cons]; omega)
    rw [List.zipIdx_cons, List.filterMap_cons]
    dsimp only
    rw [hi]
    by_cases c : a ≤ i
    · rw [decide_eq_true c, if_pos rfl, ih, show a - i = 0 by omega, show a - (i + 1) = 0 by omega]; rfl
    · rw [decide_eq_false c, if_neg (by decide)]
      dsimp only
      rw [ih, show a - i = (a - (i + 1)) + 1 by omega]; rfl
section
variable {prog : Program} {w : World} {A : Around} {E : Value → Shared → Prop} {s : Shared}
set_option maxRecDepth 100000 in
theorem delItem_slice {l sl : Addr} {items : Array Value} {n : Nat} {vl vu : Value} {a : Nat} {Q : Unit → Shared → Prop} (e : s.heap.get? l = some { cls := .type "list", data := .seq items n })
    (hs : s.heap.IsSliceOf sl vl vu .none) (pl : IsPart vl (some (a : Int))) (pu : IsPart vu none) (ha : a ≤ items.size) (hsz : items.size ≤ sizeLine)
    (h : ∀ f : Array Value → Array Value, f items = (items.toList.take a).toArray → Q () { s with heap := s.heap.update l (Obj.mapSeq f) }) :
    wpAny (model prog w) A (delItem (.ref l) (.ref sl)) Q E s := by
  have hl : s.heap.IsList l items := PySem.IsL.isList e
  obtain ⟨os, hos, hcs, hds⟩ := id hs
  have hTs : s.TypeIs (.ref sl) "slice" := ⟨os, hos, hcs⟩
  have hstep : ¬ ((rawPart none == rawInt 0) = true) := Bool.false_ne_true
  have hbd : sliceBounds (some (a : Int)) none none items.size = ((a : Int), (items.size : Int), 1) := by
    simp only [sliceBounds, Option.getD_none]
    have h1 : ¬ ((a : Int) < 0) := by omega
    simp only [h1, if_false, show (1 : Int) > 0 by decide, if_true]
    congr 1
    omega
  refine wpAny_delItem_slot hl.typeIs (by decide) PySem.F.slot_list_delitem (wpAny_call_entry PySem.F.slot_list_delitem hl.typeIs PySem.F.entry_list_delitem ?_ (PySem.F.args_list_delitem_2 _ _))
  show wpAny _ _ (Builtin.List.listSubscript? (.ref sl) >>= _) _ _ s
  refine wpAny_bind ?_
  unfold Builtin.List.listSubscript?
  refine wpAny_bind (wpAny_specialOf hTs slice_no_index ?_)
  simp only [Option.isNone_none, if_true]
  refine wpAny_pure ?_
  show wpAny _ _ (typeOf (.ref sl) >>= _) _ _ s
  refine wpAny_bind (wpAny_typeOf hTs ?_)
  first
    | rw [if_neg (by decide)]
    | refine PySem.W.KFB.if_not (by decide) ?_
  rw [listSliceParts_eq]
  refine wpAny_bind (wpAny_bind (wpAny_field hos hds (x := .none) rfl (wpAny_bind (wpAny_listPart .none ?_))))
  rw [if_neg hstep]
  refine wpAny_bind (wpAny_field hos hds (x := vl) rfl (wpAny_bind (wpAny_listPart pl ?_)))
  refine wpAny_bind (wpAny_field hos hds (x := vu) rfl (wpAny_bind (wpAny_listPart pu (wpAny_pure ?_))))
  unfold Builtin.List.listItems
  refine wpAny_bind (wpAny_bind (wpAny_seqItems e rfl (wpAny_pure ?_)))
  refine wpAny_bind (wpAny_of_eq ((sliceIndices_raw (some (a : Int)) none none items.size (by simp)).trans (congrArg (pure : Int × Int × Int → Sem (Int × Int × Int)) hbd)) ?_)
  refine wpAny_bind (wpAny_rule ?_)
  have hp : ∀ k : Nat, k < items.size → (if (1 : Int) > 0 then decide ((a : Int) ≤ (k : Int)) && decide ((k : Int) < (items.size : Int)) && (((k : Int) - (a : Int)) % 1 == 0) else decide ((items.size : Int) < (k : Int)) && decide ((k : Int) ≤ (a : Int)) && (((a : Int) - (k : Int)) % (-1) == 0)) = decide (a ≤ k) := fun k hk => by
    rw [if_pos (by decide)]
    have e1 : decide ((k : Int) < (items.size : Int)) = true := decide_eq_true (by omega)
    have e2 : (((k : Int) - (a : Int)) % 1 == 0) = true := by rw [Int.emod_one]; rfl
    rw [e1, e2, Bool.and_true, Bool.and_true]
    by_cases c : a ≤ k
    · rw [decide_eq_true c, decide_eq_true (by omega)]
    · rw [decide_eq_false c, decide_eq_false (by omega)]
  have hF : (items.toList.zipIdx.filterMap fun q : Value × Nat => if (if (1 : Int) > 0 then decide ((a : Int) ≤ (q.2 : Int)) && decide ((q.2 : Int) < (items.size : Int)) && (((q.2 : Int) - (a : Int)) % 1 == 0) else decide ((items.size : Int) < (q.2 : Int)) && decide ((q.2 : Int) ≤ (a : Int)) && (((a : Int) - (q.2 : Int)) % (-1) == 0)) = true then none else some q.1).toArray = (items.toList.take a).toArray := by
    have := zip_take (fun k : Nat => if (1 : Int) > 0 then decide ((a : Int) ≤ (k : Int)) && decide ((k : Int) < (items.size : Int)) && (((k : Int) - (a : Int)) % 1 == 0) else decide ((items.size : Int) < (k : Int)) && decide ((k : Int) ≤ (a : Int)) && (((a : Int) - (k : Int)) % (-1) == 0)) a items.toList 0 (fun k _ hk => hp k (by rw [Array.length_toList] at hk; omega))
    rw [Nat.sub_zero] at this
    rw [this]
  have hz : (items.toList.take a).toArray.size ≤ sizeLine + 1 := by
    rw [List.size_toArray, List.length_take, Array.length_toList]
    omega
  refine wpAny_bind (wpAny_updateSeq (hz := hsz) (_hz' := Nat.le_trans (Nat.le_of_eq (congrArg Array.size hF)) hz) e rfl ?_)
  refine wpAny_bind (wpAny_letGo ?_)
  first
    | exact wpAny_bind (wpAny_pure (wpAny_pure ⟨.none, rfl, h _ hF⟩))
    | exact wpAny_pure ⟨.none, rfl, h _ hF⟩
end
/-- del o[lo:] of a list -/
def tDelSl (to : TE) (tl : TO) : TS := fun D σ H => to σ H fun x H1 => tl σ H1 fun lo H2 => ∃ (a : Addr) (xs : List V) (k : Nat), x = .ref a ∧ lo = some (k : Int) ∧ H2 a = some (.lst xs) ∧ k ≤ xs.length ∧ D.nx σ (upd H2 a (.lst (xs.take k)))
theorem ps_delSl {X : Cx} {o : Expr} {lo : Option Expr} {to : TE} {tl : TO} {p2 tpos pos : Pos} (ho : PE X o to) (hl : PO X lo tl) : PS X (.Delete [.Subscript o (.Slice lo none none p2) tpos] pos) (tDelSl to tl) := by
  refine ⟨fun pins s σ H D I h => ?_⟩
  refine wpAny_Delete (wpAny_deleteEach_cons (wpAny_delete_Subscript (thn (ho.run pins s σ H _ I h) fun u s1 ⟨x, H1, I1, rx, q1⟩ => ?_)))
  refine wpAny_Slice (thn (hl.run pins s1 σ H1 _ I1 q1) fun vl s2 ⟨l, H2, I2, pl, q2⟩ => ?_)
  rw [evalPart_none]
  refine wpAny_pure ?_
  refine wpAny_pure ?_
  obtain ⟨a, xs, k, rfl, rfl, hH, hk, q⟩ := q2
  cases (show u = Value.ref a from rx)
  have I4 : Inv X pins σ H2 { s2 with heap := s2.heap.push { cls := .type "slice", data := .fields #[vl, .none, .none] } } := I2.kept (t' := s2.toks) fun b ob q => Heap.get?_push_of_some _ q
  obtain ⟨z, its, n, r, hle, e⟩ := I4.lstM hH
  refine delItem_slice (a := k) e (Heap.IsSliceOf.new ..) pl .none (by rw [List.size_toArray]; omega) (by rw [List.size_toArray]; omega) fun f hf => ?_
  have J := I4.lset (its' := its.take k) (t' := s2.toks) hH e hf (r.take k) (by rw [List.length_take]; omega)
  exact wpAny_deleteEach_nil ⟨σ, _, J, q⟩
end G
namespace G
open PySem PySem.Spec PyProof.Rows L2
/-! ## max(xs, default=d) of whole numbers -/
theorem reads_ints {h : Heap} : ∀ {its : List Value} {ns : List Int}, IntsAre its ns → ReadsAll h its (ns.map PyData.int) []
  | _, _, .nil => .nil
  | _, _, .cons n t r => ReadsAll.cons (as := []) (bs := []) (.int n t) (reads_ints r)
theorem depth_ints : ∀ ns : List Int, PyData.depthAll (ns.map PyData.int) ≤ 5
  | [] => by simp [PyData.depthAll]
  | n :: r => by
    have := depth_ints r
    simp only [List.map_cons, PyData.depthAll, PyData.depth]
    omega
def rMaxDf (K : PySem.W.Frag) : List V → List V → Hp → VK → Prop := fun xs zs H Q => ∃ (a : Addr) (ns : List Int) (d : Int), xs = [.ref a] ∧ zs = [.int d] ∧ SqL K H a (ns.map V.int) ∧ (ns = [] → Q (.int d) H) ∧ (∀ n r, ns = n :: r → Q (.int (r.foldl max n)) H)
theorem cr_maxDf {X : Cx} (hc : X.calm = true) (hr : X.A.units + 200 < cLine) : CallRK X (.builtin "max") ["default"] (rMaxDf X.K) := by
  intro pins s σ H xs zs us ws Q I r rz h
  obtain ⟨a, ns, d, rfl, rfl, hs, q0, q1⟩ := h
  obtain ⟨its, rv, hl, _⟩ := I.list hs
  rw [Vals.ref1 r]
  obtain ⟨u, rfl, t, rfl⟩ := vals1 rz
  refine PySem.W.max_list_default (xs := ns.map PyData.int) (as := []) (I.ok.hd hc) hl.isList (reads_ints rv.ints) ?_ ?_ (fun h0 h' tk k => ?_) (fun y ys i v h' tk bs hxs hv hrd k => ?_)
  · refine ⟨fun x hx y hy => ?_, fun x hx => ?_⟩
    · obtain ⟨i, _, rfl⟩ := List.mem_map.mp hx
      obtain ⟨j, _, rfl⟩ := List.mem_map.mp hy
      rfl
    · obtain ⟨i, _, rfl⟩ := List.mem_map.mp hx
      exact fun z => by cases z
  · have := depth_ints ns
    omega
  · exact ⟨.int d, H, I.kept (t' := tk) k, ⟨_, rfl⟩, q0 (List.map_eq_nil_iff.mp h0)⟩
  · cases ns with
    | nil => cases hxs
    | cons n r =>
      rw [List.map_cons] at hxs
      injection hxs with e1 e2
      subst e1 e2
      rw [PySem.W.maxD_ints] at hrd
      cases hrd with
      | int i t => exact ⟨.int _, H, I.kept (t' := tk) k, ⟨_, rfl⟩, q1 n r rfl⟩
end G
namespace G
open PySem PySem.Spec PyProof.Rows L2 Evl
theorem tYes_in {σ : L2.St} {H : Hp} {A B : Hp → Prop} (h : A H) : tYes σ H (fun b H3 => if b = true then A H3 else B H3) := by
  show if true = true then A H else B H
  exact iteT h
def tabV (bs : List Bool) : HO := .tup (bs.map V.bl)
theorem inV_ints {k : Int} {l : List Int} : inV (.int k) (l.map V.int) = l.contains k := by
  unfold inV
  rw [List.any_map, List.contains_eq_any_beq]
  congr 1
  funext y
  show (y == k) = (k == y)
  rw [Bool.eq_iff_iff]; simp; exact eq_comm
theorem inV_bls {k : Bool} {l : List Bool} : inV (.bl k) (l.map V.bl) = l.contains k := by
  unfold inV
  rw [List.any_map, List.contains_eq_any_beq]
  congr 1
  funext y
  show (y == k) = (k == y)
  cases y <;> cases k <;> rfl
theorem flat_map {α : Type} {f : α → V} (h : ∀ x, flatV (f x) = true) (l : List α) : (l.map f).all flatV = true := by
  rw [List.all_map]
  exact List.all_eq_true.mpr fun x _ => h x
theorem tif_by {tt : TE} {σ : L2.St} {H : Hp} {Q : VK} (R : V → Hp → Prop) (h : ∀ Q' : VK, (∀ v H', R v H' → Q' v H') → tt σ H Q') (rest : ∀ v H', R v H' → Q v H') : tt σ H Q := h Q rest
theorem bl_eq (a b : Bool) : decide (V.bl a = V.bl b) = decide (a = b) := by cases a <;> cases b <;> rfl
end G
namespace G
open PySem PySem.Spec PyProof.Rows L2 Evl
/-! ## two lists side by side -/
def All2 {α β : Type} (R : α → β → Prop) (as : List α) (bs : List β) : Prop := as.length = bs.length ∧ ∀ (i : Nat) (a : α) (b : β), as[i]? = some a → bs[i]? = some b → R a b
theorem All2.nil {α β : Type} {R : α → β → Prop} : All2 R [] [] := ⟨rfl, fun _ _ _ h => nomatch h⟩
theorem All2.imp {α β : Type} {R S : α → β → Prop} {as : List α} {bs : List β} (h : All2 R as bs) (f : ∀ a b, R a b → S a b) : All2 S as bs := ⟨h.1, fun i a b h1 h2 => f _ _ (h.2 i a b h1 h2)⟩
theorem All2.snoc {α β : Type} {R : α → β → Prop} {as : List α} {bs : List β} {a : α} {b : β} (h : All2 R as bs) (r : R a b) : All2 R (as ++ [a]) (bs ++ [b]) := by
  refine ⟨by rw [List.length_append, List.length_append, h.1]; rfl, fun i x y h1 h2 => ?_⟩
  by_cases hi : i < as.length
  · rw [List.getElem?_append_left hi] at h1
    rw [List.getElem?_append_left (h.1 ▸ hi)] at h2
    exact h.2 i x y h1 h2
  · rw [List.getElem?_append_right (by omega)] at h1
    rw [List.getElem?_append_right (by rw [← h.1]; omega), ← h.1] at h2
    cases e : i - as.length with
    | zero =>
      rw [e] at h1 h2
      cases h1; cases h2; exact r
    | succ n => rw [e] at h1; exact nomatch h1
theorem All2.at_ {α β : Type} {R : α → β → Prop} {as : List α} {bs : List β} (h : All2 R as bs) {i : Nat} {a : α} (e : as[i]? = some a) : ∃ b, bs[i]? = some b ∧ R a b := by
  have hi : i < bs.length := by rw [← h.1]; exact (List.getElem?_eq_some_iff.mp e).1
  exact ⟨bs[i], List.getElem?_eq_getElem hi, h.2 i a _ e (List.getElem?_eq_getElem hi)⟩
theorem All2.of {α β : Type} {R : α → β → Prop} {as : List α} {bs : List β} (h : All2 R as bs) {i : Nat} {b : β} (e : bs[i]? = some b) : ∃ a, as[i]? = some a ∧ R a b := by
  have hi : i < as.length := by rw [h.1]; exact (List.getElem?_eq_some_iff.mp e).1
  exact ⟨as[i], List.getElem?_eq_getElem hi, h.2 i _ b (List.getElem?_eq_getElem hi) e⟩
theorem All2.cons {α β : Type} {R : α → β → Prop} {as : List α} {bs : List β} {a : α} {b : β} (r : R a b) (h : All2 R as bs) : All2 R (a :: as) (b :: bs) := by
  refine ⟨by rw [List.length_cons, List.length_cons, h.1], fun i x y h1 h2 => ?_⟩
  cases i with
  | zero => cases h1; cases h2; exact r
  | succ i => exact h.2 i x y h1 h2
theorem take_snoc1 {α : Type} {l : List α} {j : Nat} {x : α} (h : l[j]? = some x) : l.take (j + 1) = l.take j ++ [x] := by rw [List.take_add_one, h]; rfl
theorem refs_get {as : List Addr} {k : Nat} {x : V} (hx : (as.map V.ref)[k]? = some x) : ∃ a, as[k]? = some a ∧ x = .ref a := by
  rw [List.getElem?_map] at hx
  cases e : as[k]? with
  | none => rw [e] at hx; cases hx
  | some a => rw [e] at hx; cases hx; exact ⟨a, rfl, rfl⟩
/-! ## walks: any body -/
theorem wk_list {K : PySem.W.Frag} {a : Addr} {xs : List V} {body : (Hp → Prop) → V → Hp → Prop} {H0 : Hp} {Qd : Hp → Prop} (Pv : Nat → Hp → Prop) (h0 : Pv 0 H0) (hl : ∀ i H, i ≤ xs.length → Pv i H → SqL K H a xs)
    (hs : ∀ i x H, xs[i]? = some x → Pv i H → body (Pv (i + 1)) x H) (hd : ∀ H, Pv xs.length H → Qd H) :
    ∃ W : Nat → Nat → Hp → Prop, (∃ m, W 0 m H0) ∧ ∀ i m H, W i m H → ((Itl K a).stop i H ∧ Qd H) ∨ ((Itl K a).go i H ∧ ∃ Nx : Hp → Prop, (∀ H', Nx H' → ∃ m', m' < m ∧ W (i + 1) m' H') ∧ ∀ x H', (Itl K a).yld i H x H' → body Nx x H') := by
  refine ⟨fun i m H => m = xs.length - i ∧ i ≤ xs.length ∧ Pv i H, ⟨xs.length, by simp, Nat.zero_le _, h0⟩, ?_⟩
  rintro i m H ⟨rfl, hi, p⟩
  have q := hl i H hi p
  rcases Nat.lt_or_ge i xs.length with lt | ge
  · have e : xs[i]? = some xs[i] := List.getElem?_eq_getElem lt
    refine .inr ⟨⟨xs, xs[i], q, e⟩, Pv (i + 1), fun H' p' => ⟨xs.length - (i + 1), by omega, rfl, lt, p'⟩, fun x H' y => ?_⟩
    obtain ⟨rfl, y⟩ := y
    exact hs i x _ (y xs q) p
  · have e : i = xs.length := by omega
    subst e
    exact .inl ⟨⟨xs, q, Nat.le_refl _⟩, hd H p⟩
theorem wk_tup {K : PySem.W.Frag} {a : Addr} {xs : List V} {body : (Hp → Prop) → V → Hp → Prop} {H0 : Hp} {Qd : Hp → Prop} (Pv : Nat → Hp → Prop) (h0 : Pv 0 H0) (hl : ∀ i H, i ≤ xs.length → Pv i H → SqT K H a xs)
    (hs : ∀ i x H, xs[i]? = some x → Pv i H → body (Pv (i + 1)) x H) (hd : ∀ H, Pv xs.length H → Qd H) :
    ∃ W : Nat → Nat → Hp → Prop, (∃ m, W 0 m H0) ∧ ∀ i m H, W i m H → ((Itt K a).stop i H ∧ Qd H) ∨ ((Itt K a).go i H ∧ ∃ Nx : Hp → Prop, (∀ H', Nx H' → ∃ m', m' < m ∧ W (i + 1) m' H') ∧ ∀ x H', (Itt K a).yld i H x H' → body Nx x H') := by
  refine ⟨fun i m H => m = xs.length - i ∧ i ≤ xs.length ∧ Pv i H, ⟨xs.length, by simp, Nat.zero_le _, h0⟩, ?_⟩
  rintro i m H ⟨rfl, hi, p⟩
  have q := hl i H hi p
  rcases Nat.lt_or_ge i xs.length with lt | ge
  · have e : xs[i]? = some xs[i] := List.getElem?_eq_getElem lt
    refine .inr ⟨⟨xs, xs[i], q, e⟩, Pv (i + 1), fun H' p' => ⟨xs.length - (i + 1), by omega, rfl, lt, p'⟩, fun x H' y => ?_⟩
    obtain ⟨rfl, y⟩ := y
    exact hs i x _ (y xs q) p
  · have e : i = xs.length := by omega
    subst e
    exact .inl ⟨⟨xs, q, Nat.le_refl _⟩, hd H p⟩
theorem wk_it {J : It} {n : Nat} {Gd : Hp → Prop} {Y : Nat → Hp → V → Hp → Prop} (w : Walk J n Gd Y) {body : (Hp → Prop) → V → Hp → Prop} {H0 : Hp} {Qd : Hp → Prop} (Pv : Nat → Hp → Prop) (h0 : Pv 0 H0) (hG : ∀ i H, i ≤ n → Pv i H → Gd H)
    (hs : ∀ i x H H', i < n → Pv i H → Y i H x H' → body (Pv (i + 1)) x H') (hd : ∀ H, Pv n H → Qd H) :
    ∃ W : Nat → Nat → Hp → Prop, (∃ m, W 0 m H0) ∧ ∀ i m H, W i m H → (J.stop i H ∧ Qd H) ∨ (J.go i H ∧ ∃ Nx : Hp → Prop, (∀ H', Nx H' → ∃ m', m' < m ∧ W (i + 1) m' H') ∧ ∀ x H', J.yld i H x H' → body Nx x H') := by
  refine ⟨fun i m H => m = n - i ∧ i ≤ n ∧ Pv i H, ⟨n, by simp, Nat.zero_le _, h0⟩, ?_⟩
  rintro i m H ⟨rfl, hi, p⟩
  rcases Nat.lt_or_ge i n with lt | ge
  · exact .inr ⟨w.goes i H lt (hG i H hi p), Pv (i + 1), fun H' p' => ⟨n - (i + 1), by omega, rfl, lt, p'⟩, fun x H' y => hs i x H H' lt p (w.yields i H x H' lt (hG i H hi p) y)⟩
  · have e : i = n := by omega
    subst e
    exact .inl ⟨w.stops H (hG i H hi p), hd H p⟩
/-! ## tuples joined and cut, whatever object that is -/
theorem cat_tup {K : PySem.W.Frag} {H : Hp} {a b : Addr} {xs ys : List V} {Q : VK} (ha : H a = some (.tup xs)) (hb : H b = some (.tup ys)) (hl : xs.length + ys.length ≤ sizeLine) (q : ∀ c H', Ex H H' → H' c = some (.tup (xs ++ ys)) → Q (.ref c) H') : rCatA K (.ref a) (.ref b) H Q := by
  refine ⟨a, b, xs, ys, rfl, rfl, SqT.of ha, SqT.of hb, hl, fun e => ?_, fun _ e => ?_, fun _ _ p np => ?_⟩
  · subst e; exact q b H (Ex.refl _) hb
  · subst e; exact q a H (Ex.refl _) (by rw [List.append_nil]; exact ha)
  · exact q p _ (Ex.new np) upd_same
theorem cut_tup {K : PySem.W.Frag} {H : Hp} {a : Addr} {xs : List V} {lo hi : Option Int} {Q : VK} (ha : H a = some (.tup xs)) (q : ∀ c H', Ex H H' → H' c = some (.tup (cutV xs lo hi)) → Q (.ref c) H') : rSlA K (.ref a) lo hi H Q := by
  refine ⟨a, xs, rfl, SqT.of ha, fun e => ?_, fun _ p np => q p _ (Ex.new np) upd_same⟩
  refine q a H (Ex.refl _) ?_
  rw [ha]
  unfold cutV
  rw [e.1, e.2, List.drop_zero, Nat.sub_zero, List.take_length]
theorem cutV_head {xs : List V} {k : Nat} (h : k ≤ xs.length) : cutV xs none (some (k : Int)) = xs.take k := by
  unfold cutV
  rw [HT.sIx_none, HT.sIx_nat, List.drop_zero, Nat.sub_zero, Nat.min_eq_left h]
theorem cutV_tail {xs : List V} {k : Nat} (h : k ≤ xs.length) : cutV xs (some (k : Int)) none = xs.drop k := by
  unfold cutV
  rw [HT.sIx_none, HT.sIx_nat, Nat.min_eq_left h, List.take_of_length_le]
  rw [List.length_drop]; exact Nat.le_refl _
end G
/-! a dict comprehension whose keys are tuples of ints and texts -/
namespace L2
open PySem PySem.Spec PyProof.Rows
theorem put_tup {X : Cx} {ps : List (Addr × Obj)} {σ : St} {H : Hp} {s : Shared} {E : Value → Shared → Prop} {b D : Addr} {es : List (List Key × V)} {k : List Key} {v : V} {r : Value} {Q : Unit → Shared → Prop}
    (hu : X.A.units < cLine) (J : Inv X ps σ H s) (hb : H b = some (.tup (k.map kV))) (hD : H D = some (.dT es)) (hn : es.length < sizeLine) (hv : RelV v r)
    (go : ∀ s2, Inv X ps σ (upd H D (.dT (putK es k v))) s2 → Q () s2) : wpAny (model X.prog X.w) X.A (dictSet D (.ref b) r) Q E s := by
  obtain ⟨le, low, xs, rel, at_⟩ := dt_of J.hok hD
  have l1 : xs.length ≤ sizeLine := Paired.length rel ▸ le
  have l2 : (putK es k v).length ≤ sizeLine := Nat.le_trans (length_putK es k v) hn
  refine wpAny_dictSet_heap (hsz := l1) hu (key_of J.hok hb) at_ fun h2 d2 sb => go _ ?_
  obtain ⟨o2, e2, ep2, c1, c2, c3, c4, _, c6⟩ := d2
  refine d_write J (by rw [hD]; exact True.intro) sb ⟨o2, c1⟩ ⟨l2, low, _, (rel.put k hb hv).keeps fun c ys hc => ?_, o2, e2, ep2, c1, c2, c3, c4, c6⟩
  exact (upd_ne (ne_of hc hD (fun z => nomatch z))).trans hc
section
variable {X : Cx}
/-- one turn: the target, the test, the key, the value, the store -/
def dctTurn (D : Addr) (g : TG) (tt : TT) (tk tv : TE) (vs : List Nat) (σ : St) (Nx : Hp → Prop) (x : V) (H : Hp) : Prop :=
  g x (wipe σ vs) H fun τ G1 => wipe τ vs = wipe σ vs ∧ tt τ G1 fun b G2 => if b = true then tk τ G2 fun y G3 => tv τ G3 fun z G4 =>
    ∃ (es : List (List Key × V)) (k : List Key) (c : Addr), y = .ref c ∧ G4 c = some (.tup (k.map kV)) ∧ G4 D = some (.dT es) ∧ es.length < sizeLine ∧ Nx (upd G4 D (.dT (putK es k z))) else Nx G2
def tDct (wi : TI) (g : TG) (tt : TT) (tk tv : TE) (vs : List Nat) : TE := fun σ H Q => wi σ H fun J H1 => ∀ D, H1 D = none → ∃ W : Nat → Nat → Hp → Prop, (∃ m, W 0 m (upd H1 D (.dT []))) ∧
  ∀ i m G, W i m G → (J.stop i G ∧ Q (.ref D) G) ∨ (J.go i G ∧ ∃ Nx : Hp → Prop, (∀ G2, Nx G2 → ∃ m2, m2 < m ∧ W (i + 1) m2 G2) ∧ ∀ x G2, J.yld i G x G2 → dctTurn D g tt tk tv vs σ Nx x G2)
abbrev InBlk (X : Cx) (scope : Scope) (F : Cx → Prop) : Prop := ∀ (s : Shared) (H : Hp) (C : Addr) (cl : List (Str × Addr)) (fp : List Addr), F (X.blk s H scope (compEnvC scope cl C X.env) fp)
theorem pe_dct {kx vx tg iter : Expr} {ifs : List Expr} {scope : Scope} {own : List (Str × Nat)} {pos : Pos} {wi : TI} {g : TG} {tt : TT} {tk tv : TE} (calm : X.calm = true) (nd : X.N.Nodup) (hu : X.A.units < cLine)
    (walk : PI X tg iter wi) (ok : BlkOk X.N X.env.scope scope own) (bg : InBlk X scope fun Y => PG Y tg g) (bt : InBlk X scope fun Y => PTs Y ifs tt) (bk : InBlk X scope fun Y => PE Y kx tk) (bv : InBlk X scope fun Y => PE Y vx tv)
    (plain : ∀ x, foldedSetIterable iter X.env x = pure x := by intro _; rfl) : PE X (.DictComp kx vx [⟨tg, iter, ifs, 0⟩] scope pos) (tDct wi g tt tk tv (own.map (·.2))) := by
  refine ⟨fun ps s σ H Q I hyp => ?_⟩
  rw [arm_eval_DictComp]
  have clo := closure_ok (env := X.env) (scope := scope) fun y hy e => (ok.free y hy e).elim (fun k => I.ok.has _ (.inl k)) (fun k => I.ok.has _ (.inr k))
  refine wpAny_comprehension_free (use := none) rfl plain clo ok.kind (fun y hy e => (ok.uniq y hy).trans (congrArg some e)) (thn (walk.run ps s σ H _ I hyp) fun _ s1 got => thn got fun _ s2 more => ?_)
  obtain ⟨it, fp, tn, J, H2, rfl, I2, T, here, fpok, rest⟩ := more
  refine wpAny_newObj_type (newEnv_comp ?_)
  let D : Addr := s2.heap.objs.size
  have free : H2 D = none := I2.hok.fresh (Nat.le_refl _)
  obtain ⟨W, ⟨m0, start⟩, turn⟩ := rest D free
  let s3 : Shared := { s2 with heap := s2.heap.push { cls := .type "dict", data := .dict #[] } }
  have old : ∀ b o, s2.heap.get? b = some o → s3.heap.get? b = some o := fun b o e => Heap.get?_push_of_some _ e
  have I3 : Inv X ps σ (upd H2 D (.dT [])) s3 := I2.laid (t' := s2.toks) old (Nat.le_refl _) (dt_empty s2.heap I2.big)
  have small : ∀ b ∈ fp, b < s2.heap.objs.size := fun b hb => (T.obj _ _ here b hb).elim fun _ e => Heap.lt_size e.1
  have fp3 : ∀ b ∈ fp, FpOk X ps (upd H2 D (.dT [])) b ∧ b < s3.heap.objs.size := fun b hb =>
    ⟨⟨(upd_ne (Nat.ne_of_lt (small b hb))).trans (fpok b hb).1, (fpok b hb).2⟩, Nat.lt_of_lt_of_eq (Nat.lt_succ_of_lt (small b hb)) (Heap.size_push ..).symm⟩
  have here3 : tn 0 s3.heap := T.keep _ _ _ here fun b _ o e => old b o e
  have I4 := block_start I3 ok nd fp3
  generalize hH3 : upd H2 D (.dT []) = H3 at I3 I4 fp3 start
  generalize hC : s3.heap.objs.size = C at I4 ⊢
  generalize hce : compEnvC scope (cellsFrom (C + 1) scope.names (cloFrom X.env.cells scope.names [])) C X.env = ce at I4
  have locC : ce.locals = C := by rw [← hce]; rfl
  have at_ : ∀ F : Cx → Prop, InBlk X scope F → F (X.blk s3 H3 scope ce fp) := fun F hF => by rw [← hce]; exact hF ..
  have pg := at_ _ bg
  have pt := at_ _ bt
  have pk := at_ _ bk
  have pv := at_ _ bv
  let B : Cx := X.blk s3 H3 scope ce fp
  let s4 : Shared := { s3 with heap := pushCells (s3.heap.push { cls := .type "dict", data := .dict #[] }) scope.names }
  show codeAny _ _ (.compStart (.DictComp kx vx [⟨tg, iter, ifs, 0⟩] scope pos) 0 (.ref it) (.ref D) (compEnvC scope (cellsFrom (C + 1) scope.names (cloFrom X.env.cells scope.names [])) C X.env)) _ s4
  rw [hce]
  have here4 : tn 0 s4.heap := T.keep _ _ _ here3 fun b _ o e => pushCells_keeps _ _ _ _ (Heap.get?_push_of_some _ e)
  have away : ∀ {τ : St} {G : Hp} {t : Shared}, Inv B [] τ G t → (∀ b ∈ fp, G b = none) → ∀ b ∈ fp, FpOk B [] G b := fun {τ G t} J hn b hb =>
    ⟨hn b hb, (J.ok.exf b hb).1, J.ok.exfs b hb, .inl hb, fun x c e => (J.ok.exf b hb).2 x c e, fun p hp => nomatch (show p ∈ ([] : List (Addr × Obj)) ++ [] from hp)⟩
  let Iv : Nat → Shared → Prop := fun n t => ∃ i G, Inv B [] (wipe σ (own.map (·.2))) G t ∧ tn i t.heap ∧ (∀ b ∈ fp, G b = none) ∧ W i n G
  refine codeAny_compStart_dict ?loop (T.self X.A 0 _ _ _ here4 ?loop)
  refine compLoop_anyD Iv ?_ m0 ⟨0, H3, I4, here4, fun b hb => (fp3 b hb).1.1, start⟩
  rintro n t ⟨i, G, J, st, no, w⟩
  rcases turn i n G w with ⟨stop, fin⟩ | ⟨go, Nx, hNx, step⟩
  · -- the walk is over
    refine thnF (T.done B rfl rfl rfl calm i [] t _ G (fun _ _ => False) J (away J no) st stop) fun r t2 ⟨er, J2⟩ => ?_
    subst er
    have back : Inv X ps σ G t2 := I3.call' (ch := fp) J2.os J2.base J2.hok J2.bare fun b hb => ⟨(fp3 b hb).1.2.2.2.1, (fp3 b hb).1.2.1, (fp3 b hb).1.2.2.2.2.1, (fp3 b hb).1.2.2.2.2.2⟩
    have noC : G C = none := locC ▸ (show G ce.locals = none from J2.free)
    obtain ⟨m, hm, _⟩ := J2.loc
    have fo := I3.fpOk (Nat.le_of_eq hC) noC
    refine ⟨m, locC ▸ (show t2.heap.Ns ce.locals m from hm), fun h3 sb => ?_⟩
    obtain ⟨f0, f1, f2, f3, f4, f5⟩ := fo
    exact ⟨.ref D, G, back.turned (t' := t2.toks) (fun b o hb e => (sb.2 b hb).trans e) f0 f1 f3 f4 f5, rfl, fin⟩
  · refine thnF (T.item B rfl rfl rfl calm i [] t _ G (fun _ _ => False) J (away J no) st go) fun r t2 ⟨u, er, more⟩ => ?_
    subst er
    refine thnF more fun _ t3 ⟨x, G3, J3, rx, hy, st3, no3⟩ => ?_
    have J3p := J3.pinned (away J3 no3) (T.obj _ _ st3)
    refine thnF (pg.run _ t3 _ G3 x u _ J3p rx (step x G3 hy)) fun _ t4 ⟨τ, G4, J4, hw, q4⟩ => ?_
    refine thnF (pt.run _ t4 τ G4 _ J4 q4) fun b t5 ⟨G5, J5, q5⟩ => ?_
    have again : ∀ {t' : Shared} {G' : Hp}, Inv B ([] ++ pinsAt fp t3.heap) τ G' t' → Nx G' → ∃ m, m < n ∧ Iv m t' := fun {t' G'} J' nx => by
      obtain ⟨m2, lt, w2⟩ := hNx G' nx
      have kept : ∀ c ∈ fp, ∀ o, t3.heap.get? c = some o → t'.heap.get? c = some o ∧ G' c = none := fun c hc o e =>
        let z := J'.pin (c, o) (List.mem_append_right _ (List.mem_append_right _ (mem_pinsAt hc e)))
        ⟨z.1, z.2.1⟩
      have len : (wipe σ (own.map (·.2))).length = τ.length := by rw [← hw, wipe_length]
      exact ⟨m2, lt, i + 1, G', (J'.unpinned (pins := [])).weak len (fun j v e => (wipe_some (hw ▸ e)).1), T.keep _ _ _ st3 fun c hc o e => (kept c hc o e).1,
        fun c hc => (T.obj _ _ st3 c hc).elim fun o e => (kept c hc o e.1).2, w2⟩
    cases b with
    | false =>
      simp only [Bool.false_eq_true, if_false] at q5 ⊢
      exact again J5 q5
    | true =>
      simp only [if_true] at q5 ⊢
      refine thnF (pk.run _ t5 τ G5 _ J5 q5) fun kv t6 ⟨y, G6, J6, ry, q6⟩ => ?_
      refine thnF (pv.run _ t6 τ G6 _ J6 q6) fun vv t7 ⟨z, G7, J7, rz, es, k, c, ey, hc, hD, hl, nx⟩ => ?_
      subst ey
      obtain rfl : kv = Value.ref c := ry
      exact put_tup (X := B) hu J7 hc hD hl rz fun t8 J8 => again J8 nx
end
end L2
/-! y = {k: v for ..}, y a plain local: the value goes straight to its name -/
namespace L2
open PySem PySem.Spec PyProof.Rows
section
variable {X : Cx}
theorem sw_trueD {kx vx : Expr} {gs : List Comprehension} {scope : Scope} {pos py : Pos} {y : Str} {l : Nat} {env : Env} (hk : env.scope.kind = .function) (hy : env.scope.names.lookup y = some .local) (hl : (py.line == pos.line) = true)
    (ha : (scope.names.any fun (n, k) => n == y && (k == .local || k == .cell)) = false) : swapsWith (.DictComp kx vx gs scope pos) (some (.Name y py)) l env = pure true := by
  have e1 : env.kindOf y = some .local := hy
  have e2 : env.blockKind = .function := by unfold Env.blockKind; rw [hk]; rfl
  unfold swapsWith
  simp only [e1, e2, ha, hl, Expr.pos]
  rfl
theorem ps_setDc {i : Nat} {y : Str} {py : Pos} {kx vx tg iter : Expr} {ifs : List Expr} {scope : Scope} {own : List (Str × Nat)} {pos spos : Pos} {wi : TI} {g : TG} {tt : TT} {tk tv : TE} (calm : X.calm = true) (nd : X.N.Nodup) (at_ : X.N[i]? = some y) (loc : X.env.scope.names.lookup y = some .local)
    (sw : swapsWith (.DictComp kx vx [⟨tg, iter, ifs, 0⟩] scope pos) (some (.Name y py)) spos.line X.env = pure true) (walk : PI X tg iter wi) (ok : BlkOk X.N X.env.scope scope own)
    (bg : InBlk X scope fun Y => PG Y tg g) (bt : InBlk X scope fun Y => PTs Y ifs tt) (bk : InBlk X scope fun Y => PE Y kx tk) (bv : InBlk X scope fun Y => PE Y vx tv) (plain : ∀ x, foldedSetIterable iter X.env x = pure x := by intro _; rfl) :
    PS X (.Assign [.Name y py] (.DictComp kx vx [⟨tg, iter, ifs, 0⟩] scope pos) spos) (tAsg (tDc wi g tt tk tv (own.map (·.2))) (gName i)) := by
  refine ⟨fun ps s σ H D I hyp => ?_⟩
  rw [exec_Assign_Name_used _ _ _ _ sw]
  refine wpAny_bind (wpAny_standAt (wpAny_bind ?_))
  show wpAny _ X.A (do let _ ← comprehension (.DictComp kx vx [⟨tg, iter, ifs, 0⟩] scope pos) scope X.env (firstIterPos [⟨tg, iter, ifs, 0⟩] pos) newDict false (eval iter X.env) (some (assign (.Name y py) X.env))) _ _ s
  have hyp2 : tDc wi g tt tk tv (own.map (·.2)) σ H (fun x G => gName i x σ G D.nx) := hyp
  refine wpAny_bind (thn (dc_core (Qf := fun _ t => SP X ps D .next t) calm nd I walk ok bg bt bk bv plain hyp2 fun L C t m G J fin hn fo => ?_) fun _ t ht => wpAny_pure (wpAny_pure ht))
  show wpAny _ _ (assign (.Name y py) X.env (.ref L)) _ _ _
  refine wpAny_assign_Name (store_ok2 (v := V.ref L) J nd at_ (.inl loc) rfl (fun t2 J2 ⟨b, sb, hb⟩ => ?_) (.inr loc))
  obtain ⟨f0, f1, f2, f3, f4, f5⟩ := fo
  have away : C ≠ b := by
    rcases hb with z | z
    · exact z ▸ f1
    · exact fun e => f4 y b z e.symm
  exact ⟨m, hn.sameBut sb away, fun h3 sb3 => ⟨_, G, J2.turned (t' := t2.toks) (fun c o hc e => (sb3.2 c hc).trans e) f0 f1 f3 f4 f5, fin⟩⟩
end
end L2
/-! ## texts -/
namespace G
open PySem PySem.Spec PyProof.Rows L2 Evl TL
open PySem.StrLaws (At occBody occ_eq occ_first)
open PySem.Builtin.Str (occurrences)
/-- the text of these signs -/
def mk (l : List Nat) : Str := ⟨l.toArray⟩
theorem tl_mkS (l : List Nat) : tl (mk l) = l := rfl
theorem mk_tlS (x : Str) : mk (tl x) = x := mk_tl x
theorem mk_inj {a b : List Nat} : mk a = mk b ↔ a = b := ⟨fun h => by have := congrArg tl h; exact this, fun h => by rw [h]⟩
theorem mk_app (a b : List Nat) : mk a ++ mk b = mk (a ++ b) := ext_tl (by rw [tl_append, tl_mkS, tl_mkS, tl_mkS])
theorem mk_len (a : List Nat) : (mk a).length = a.length := by rw [len_tl, tl_mkS]
theorem mk_one (c : Nat) : (⟨#[c]⟩ : Str) = mk [c] := rfl
theorem decV_str (a b : Str) : decide (V.str a = V.str b) = decide (a = b) := by
  by_cases h : a = b
  · rw [h, decide_eq_true rfl, decide_eq_true rfl]
  · rw [decide_eq_false h, decide_eq_false fun q => h (V.str.inj q)]
theorem decV_mk (a b : List Nat) : decide (V.str (mk a) = V.str (mk b)) = decide (a = b) := by
  rw [decV_str]
  by_cases h : a = b
  · rw [h, decide_eq_true rfl, decide_eq_true rfl]
  · rw [decide_eq_false h, decide_eq_false fun q => h (mk_inj.mp q)]
theorem occ_from (x y : Str) (lo : Nat) : (occurrences x y lo x.length 1 = [] ∧ ∀ k, lo ≤ k → ¬ At x y x.length k) ∨ ∃ k r, occurrences x y lo x.length 1 = k :: r ∧ lo ≤ k ∧ At x y x.length k ∧ ∀ j, lo ≤ j → j < k → ¬ At x y x.length j := by
  rw [occ_eq]
  have hmem : ∀ k, At x y x.length k → lo ≤ k → k ∈ List.range' lo (x.length + 1 - lo) := fun k hk hl => by
    have := hk.1
    simp [List.mem_range'_1]; omega
  rcases occ_first x y x.length 1 (by decide) (List.range' lo (x.length + 1 - lo)) lo (fun i hi => by simp [List.mem_range'_1] at hi; omega) with ⟨h0, hn⟩ | ⟨pr, a, post, e, h0, ha, hn⟩
  · exact .inl ⟨by rw [h0], fun k hl hk => hn k (hmem k hk hl) hk⟩
  · have hal : lo ≤ a := by
      have : a ∈ List.range' lo (x.length + 1 - lo) := by rw [e]; simp
      simp [List.mem_range'_1] at this; omega
    refine .inr ⟨a, ((forIn (List.range' lo (x.length + 1 - lo)) ((#[] : Array Nat), lo) (occBody x y x.length 1)).run.fst.toList).tail, ?_, hal, ha, fun j hl hj hA => ?_⟩
    · generalize (forIn (List.range' lo (x.length + 1 - lo)) ((#[] : Array Nat), lo) (occBody x y x.length 1)).run.fst = arr at h0
      have h1 : arr.toList[0]? = some a := by simpa using h0
      cases hL : arr.toList with
      | nil => rw [hL] at h1; cases h1
      | cons b t => rw [hL] at h1; simp at h1; rw [h1]; rfl
    · have hm := hmem j hA hl
      rw [e] at hm
      have hs : (pr ++ a :: post).Pairwise (· < ·) := by rw [← e]; exact List.pairwise_lt_range'
      rcases List.mem_append.mp hm with z | z
      · exact hn j z hA
      · rcases List.mem_cons.mp z with z | z
        · omega
        · have := (List.pairwise_cons.mp (List.pairwise_append.mp hs).2.1).1 j z
          omega
theorem at_one {x : Str} {c k : Nat} : At x (mk [c]) x.length k ↔ (tl x)[k]? = some c := by
  rw [at_iff (by rw [tl_mkS]; simp), tl_mkS]
  unfold pre
  show (((tl x).drop k).take 1 == [c]) = true ↔ _
  rw [beq_iff_eq]
  have h0 : (tl x)[k]? = ((tl x).drop k)[0]? := by rw [List.getElem?_drop, Nat.add_zero]
  rw [h0]
  cases (tl x).drop k with
  | nil => simp
  | cons d r => simp
theorem find_hit {x : Str} {c i : Nat} {body rest : List Nat} (h : (tl x).drop i = body ++ c :: rest) (hb : c ∉ body) : Txt.find3 x (mk [c]) (i : Int) = ((i + body.length : Nat) : Int) := by
  unfold Txt.find3
  rw [show PySem.fromIndex x.length (i : Int) = i by unfold PySem.fromIndex; rw [if_neg (by omega)]; omega]
  have hat : ∀ j, (tl x)[i + j]? = (body ++ c :: rest)[j]? := fun j => by rw [← h, List.getElem?_drop]
  have hhit : At x (mk [c]) x.length (i + body.length) := at_one.mpr (by rw [hat, List.getElem?_append_right (Nat.le_refl _), Nat.sub_self]; rfl)
  rcases occ_from x (mk [c]) i with ⟨_, hn⟩ | ⟨k, r, e, hl, hA, hn⟩
  · exact absurd hhit (hn _ (by omega))
  · rw [e]
    show ((k : Nat) : Int) = _
    have h1 : ¬ i + body.length < k := fun q => hn _ (by omega) q hhit
    have h2 : ¬ k < i + body.length := fun q => by
      have := at_one.mp hA
      obtain ⟨j, rfl⟩ : ∃ j, k = i + j := ⟨k - i, by omega⟩
      rw [hat, List.getElem?_append_left (by omega)] at this
      exact hb (List.mem_of_getElem? this)
    omega
theorem find_miss {x : Str} {c i : Nat} (h : c ∉ (tl x).drop i) : Txt.find3 x (mk [c]) (i : Int) = -1 := by
  unfold Txt.find3
  rw [show PySem.fromIndex x.length (i : Int) = i by unfold PySem.fromIndex; rw [if_neg (by omega)]; omega]
  rcases occ_from x (mk [c]) i with ⟨e, _⟩ | ⟨k, r, e, hl, hA, hn⟩
  · rw [e]
  · have := at_one.mp hA
    obtain ⟨j, rfl⟩ : ∃ j, k = i + j := ⟨k - i, by omega⟩
    rw [← List.getElem?_drop] at this
    exact absurd (List.mem_of_getElem? this) h
theorem starts_at {x y : Str} {i : Nat} (hy : tl y ≠ []) : Txt.startswith3 x y (i : Int) = pre (tl y) ((tl x).drop i) := by
  unfold Txt.startswith3
  rw [show PySem.fromIndex x.length (i : Int) = i by unfold PySem.fromIndex; rw [if_neg (by omega)]; omega]
  have h := at_iff (x := x) hy i
  unfold At at h
  rw [Bool.eq_iff_iff, Bool.and_eq_true, decide_eq_true_iff]
  exact h
theorem pre_iff {S L : List Nat} : pre S L = true ↔ ∃ r, L = S ++ r := by
  unfold pre
  rw [beq_iff_eq]
  constructor
  · intro h; exact ⟨L.drop S.length, by conv => lhs; rw [← List.take_append_drop S.length L, h]⟩
  · rintro ⟨r, rfl⟩; exact List.take_left' rfl
/-- the signs of x from i to j -/
theorem cut_nat {x : Str} {i j : Nat} (hi : i ≤ j) (hj : j ≤ x.length) : cutS x (some (i : Int)) (some (j : Int)) = mk (((tl x).drop i).take (j - i)) := by
  unfold cutS
  have e1 : HT.sIx x.length 0 (some (i : Int)) = i := by rw [HT.sIx_nat]; omega
  have e2 : HT.sIx x.length x.length (some (j : Int)) = j := by rw [HT.sIx_nat]; omega
  rw [e1, e2]; rfl
section
variable {tt : TT} {te : TE} {vs : List Nat} {σ : L2.St} {H1 : Hp} {D : Addr} {Qd : Hp → Prop} {j : Nat}
theorem lcSm {z : Str} (g : Nat → V) (hn : z.length ≤ 100000) (hw : ∀ x, wipe ((wipe σ vs).set j (some x)) vs = wipe σ vs)
    (he : ∀ (i c : Nat) (H : Hp), (tl z)[i]? = some c → H = upd H1 D (.lst (((tl z).take i).map g)) → Val te ((wipe σ vs).set j (some (.str (mk [c])))) H (g c)) (q : Qd (upd H1 D (.lst ((tl z).map g)))) :
    ∃ W : Nat → Nat → Hp → Prop, (∃ m, W 0 m (upd H1 D (.lst []))) ∧ ∀ i m H, W i m H →
      ((Its z).stop i H ∧ Qd H) ∨ ((Its z).go i H ∧ ∃ Nx : Hp → Prop, (∀ H', Nx H' → ∃ m', m' < m ∧ W (i + 1) m' H') ∧ ∀ x H', (Its z).yld i H x H' → gName j x (wipe σ vs) H' fun σ2 H2 => wipe σ2 vs = wipe σ vs ∧ tYes σ2 H2 fun b H3 =>
        if b = true then te σ2 H3 fun y H4 => ∃ acc, H4 D = some (.lst acc) ∧ acc.length < sizeLine ∧ Nx (upd H4 D (.lst (acc ++ [y]))) else Nx H3) :=
  lc_it walk_str (fun i H => H = upd H1 D (.lst (((tl z).take i).map g))) (by rw [List.take_zero]; rfl) (fun _ _ _ _ => trivial)
    (fun i x H H' hi e y => by
      obtain ⟨rfl, c, hc, rfl⟩ := y
      have hc' : (tl z)[i]? = some c := by rw [← hc]; simp [tl]
      refine ⟨hw _, ?_⟩
      refine iteT (B := H' = upd H1 D (.lst (((tl z).take (i + 1)).map g))) ?_
      refine he i c H' hc' e _ ?_
      subst e
      refine ⟨_, upd_same, sz_lt ?_, ?_⟩
      · rw [List.length_map, List.length_take]; have := (List.getElem?_eq_some_iff.mp hc').1; rw [len_tl] at hn; omega
      · rw [upd_upd, List.take_add_one, hc', List.map_append]; rfl)
    (fun H e => by
      have en : z.cps.size = (tl z).length := by simp [tl]
      rw [e, en, List.take_length]; exact q)
end
end G
namespace G
open PySem PySem.Spec PyProof.Rows L2
def topS (i : Nat) : Stmt := PySem.Challenge.pw_signoff_k05_decks_shown_and_read.main.body.getD i (.Pass ⟨0, 0, 0, 0⟩)
abbrev s_wall : Stmt := topS 0
abbrev s_height : Stmt := topS 2
abbrev s_operands : Stmt := topS 3
abbrev s_postorder : Stmt := topS 4
abbrev s_show_expression : Stmt := topS 8
abbrev s_show_deck : Stmt := topS 9
abbrev s_with_operands : Stmt := topS 10
abbrev s_operand : Stmt := topS 11
abbrev s_cell_lines : Stmt := topS 12
abbrev s_module_lines : Stmt := topS 13
abbrev s_item_printer : Stmt := topS 14
abbrev s_names_printer : Stmt := topS 16
abbrev s_range_printer : Stmt := topS 18
abbrev s_BadToken_init : Stmt := inClass (topS 22) 0
abbrev s_BadSyntax_init : Stmt := inClass (topS 23) 0
abbrev s_tokenize : Stmt := topS 32
abbrev s_is_name : Stmt := topS 33
abbrev s_is_numeral : Stmt := topS 34
abbrev s_is_word : Stmt := topS 35
abbrev s_token_at : Stmt := topS 36
abbrev s_run_end : Stmt := topS 37
abbrev s_line_end : Stmt := topS 38
abbrev s_TokenReader_init : Stmt := inClass (topS 44) 0
abbrev s_TokenReader_ahead : Stmt := inClass (topS 44) 1
abbrev s_TokenReader_take : Stmt := inClass (topS 44) 2
abbrev s_TokenReader_take_if : Stmt := inClass (topS 44) 3
abbrev s_TokenReader_take_name : Stmt := inClass (topS 44) 4
abbrev s_TokenReader_take_numeral : Stmt := inClass (topS 44) 5
abbrev s_TokenReader_take_bit : Stmt := inClass (topS 44) 6
abbrev s_TokenReader_take_end : Stmt := inClass (topS 44) 7
abbrev s_parse_deck : Stmt := topS 45
abbrev s_reader : Stmt := topS 46
abbrev s_check_brackets : Stmt := topS 47
abbrev s_check_height : Stmt := topS 48
abbrev s_cell : Stmt := topS 49
abbrev s_module : Stmt := topS 50
abbrev s_item_parser : Stmt := topS 51
abbrev s_gate : Stmt := topS 53
abbrev s_part : Stmt := topS 54
abbrev s_reg : Stmt := topS 55
abbrev s_names_parser : Stmt := topS 56
abbrev s_range_parser : Stmt := topS 58
abbrev s_expression : Stmt := topS 60
abbrev s_factor : Stmt := topS 61
abbrev s_atom : Stmt := topS 62
abbrev s_law_pool : Stmt := topS 64
abbrev s_law_spread : Stmt := topS 65
abbrev s_law_draw : Stmt := topS 66
abbrev s_law_same : Stmt := topS 67
abbrev s_law_word : Stmt := topS 68
abbrev s_law_numeral : Stmt := topS 69
abbrev s_law_tree : Stmt := topS 70
abbrev s_law_level : Stmt := topS 71
abbrev s_law_tokens : Stmt := topS 72
abbrev s_law_closed : Stmt := topS 73
abbrev s_law_printed : Stmt := topS 74
abbrev s_law_range : Stmt := topS 75
abbrev s_law_names : Stmt := topS 76
abbrev s_law_item : Stmt := topS 77
abbrev s_law_cell_of : Stmt := topS 78
abbrev s_law_deck : Stmt := topS 79
abbrev s_law_list : Stmt := topS 80
abbrev s_law_pair : Stmt := topS 81
abbrev s_law_line : Stmt := topS 82
abbrev s_law_show : Stmt := topS 83
abbrev s_law : Stmt := topS 84
end G
namespace G
open PySem PySem.Spec PyProof.Rows L2 Evl
structure TxtL (mg : Str → Option Value) : Prop where
  int : mg "int" = none
  len : mg "len" = none
  list : mg "list" = none
  range : mg "range" = none
section
variable {P : Program} {w : World} {K : PySem.W.Frag} {mg : Str → Option Value} {base : Heap}
def spSpread : Sp := fun vs H Q _ => ∃ (c : Int), vs = [.int c] ∧ ∀ v : Int, Q (.int v) H
theorem sc_law_spread : FnScope ["cell", "mixed", "total", "k"] ["cell"] (defScope s_law_spread) := ⟨rfl, rfl, rfl, by decide +kernel, rfl, by decide +kernel, by decide +kernel⟩
theorem ok_law_spread (D : Dfd K mg "_law_spread" s_law_spread ["cell"]) (T : TxtL mg) : Has P w K mg base 1 "_law_spread" ["cell"] spSpread := by
  refine D.has fun f fd F => F.ok sc_law_spread (fun vs H Q E h => ?_) (fun cdv A outer s H vs Q E hr h => ?_)
  · obtain ⟨c, rfl, _⟩ := h
    rfl
  · obtain ⟨c, rfl, q⟩ := h
    refine ⟨_, (pss_cons (ps_set (i := 1) sc_law_spread.nd rfl (.inl rfl) (pe_op op_mod (pe_callTy call_int1 (by rfl) T.int (by decide +kernel) (pa_cons (pv 0) pa_nil)) pe_int))
      (pss_cons (ps_set (i := 2) sc_law_spread.nd rfl (.inl rfl) pe_int)
      (pss_cons (ps_for PassesOwn.never rfl (pi_range1 rfl T.range (pa_cons pe_int pa_nil)) (pg_name (i := 3) sc_law_spread.nd rfl (.inl rfl))
        (pss_cons (ps_set (i := 1) sc_law_spread.nd rfl (.inl rfl) (pe_op op_mod (pe_callTy call_int1 (by rfl) T.int (by decide +kernel) (pa_cons (pe_op op_add (pe_op op_add (pe_op op_mul (pv 1) pe_int) pe_int) (pv 3)) pa_nil)) pe_int))
        (pss_one (ps_set (i := 2) sc_law_spread.nd rfl (.inl rfl) (pe_op op_add (pe_op op_mul (pv 2) pe_int) (pv 1))))))
      (pss_one (ps_ret (pv 2)))))), ?_⟩
    refine ⟨_, rfl, .inl ⟨_, rfl, _, _, rfl, rfl, (by show (0 : Int) < 2147483647; decide), 4, rfl, by decide, by decide, for_range (n := 4) (fun _ σ H' => H' = H ∧ ∃ (x y : Int) (z : Option V), σ = [some (.int c), some (.int x), some (.int y), z]) ⟨rfl, _, _, _, rfl⟩ ?_ ?_⟩⟩
    · rintro i σ H' hi ⟨rfl, x, y, z, rfl⟩
      refine ⟨_, rfl, _, _, rfl, rfl, .inr ⟨by decide, by decide⟩, _, _, rfl, rfl, _, rfl, _, _, rfl, rfl, .inl ⟨_, rfl, _, _, rfl, rfl, (by show (0 : Int) < 2147483647; decide), _, rfl, _, _, rfl, rfl, .inr ⟨by decide, by decide⟩, _, rfl, _, _, rfl, rfl, rfl, _, _, _, rfl⟩⟩
    · rintro σ H' ⟨rfl, x, y, z, rfl⟩
      exact ⟨_, rfl, q y⟩
/-- a draw below n -/
def spDraw : Sp := fun vs H Q _ => ∃ (p a : Addr) (n : Int), vs = [.ref p, .int n] ∧ 0 < n ∧ n.natAbs.log2 < 9000 ∧ PoolOk p a H ∧ ∀ (v : Int) (o : HO), 0 ≤ v → v < n → PoolOk p a (upd H p o) → Q (.int v) (upd H p o)
theorem sc_law_draw : FnScope ["pool", "many", "cell", "mixed", "value"] ["pool", "many"] (defScope s_law_draw) := ⟨rfl, rfl, rfl, by decide +kernel, rfl, by decide +kernel, by decide +kernel⟩
theorem ok_law_draw (D : Dfd K mg "_law_draw" s_law_draw ["pool", "many"]) (T : TxtL mg) (C : Has P w K mg base 1 "_law_spread" ["cell"] spSpread) : Has P w K mg base 2 "_law_draw" ["pool", "many"] spDraw := by
  obtain ⟨f_law_spread, d_law_spread, G_law_spread, g_law_spread, k_law_spread, b_law_spread⟩ := C
  refine D.has fun f fd F => F.ok sc_law_draw (fun vs H Q E h => ?_) (fun cdv A outer s H vs Q E hr h => ?_)
  · obtain ⟨p, a, n, rfl, _⟩ := h
    rfl
  · obtain ⟨p, a, n, rfl, n0, n9, hp, q⟩ := h
    refine ⟨_, (pss_cut (ps_if (PW.pt (pw_and (pt_cmpR op_le (pe_ix ix_list (pv 0) pe_int (fun _ _ => rfl)) pe_int (nomark _)) (pw_and1 (pt_cmpR op_lt (pe_ix ix_list (pv 0) pe_int (fun _ _ => rfl)) (pe_callB call_len_seq (by rfl) T.len (by decide +kernel) (pa_cons (pe_ix ix_list (pv 0) pe_int (fun _ _ => rfl)) pa_nil)) (nomark _)))))
      (pss_cons (ps_set (i := 2) sc_law_draw.nd rfl (.inl rfl) (pe_ix ix_list (pe_ix ix_list (pv 0) pe_int (fun _ _ => rfl)) (pe_ix ix_list (pv 0) pe_int (fun _ _ => rfl)) (fun _ _ => rfl)))
      (pss_cons (ps_asg (pe_op op_add (pe_ix ix_list (pv 0) pe_int (fun _ _ => rfl)) pe_int) (pg_sub (pv 0) pe_int set_list))
      (pss_cons (ps_asg (pv 2) (pg_sub (pv 0) pe_int set_list))
      (pss_one (ps_if (pt_cmpR op_lt (pv 2) pe_int (nomark _))
        (pss_one (ps_asg (pe_call G_law_spread hr (by rfl) g_law_spread k_law_spread b_law_spread .nil pass0 (pa_cons (pv 2) pa_nil)) (pg_sub (pv 0) pe_int set_list)))
        pss_nil)))))
      pss_nil)
    (pss_cons (ps_asg (pe_op op_add (pe_ix ix_list (pv 0) pe_int (fun _ _ => rfl)) pe_int) (pg_sub (pv 0) pe_int set_list))
    (pss_cons (ps_if (pt_cmpR op_le (pe_ix ix_list (pv 0) pe_int (fun _ _ => rfl)) pe_int (nomark _))
      (pss_cons (ps_set (i := 3) sc_law_draw.nd rfl (.inl rfl) (pe_op op_mod (pe_callTy call_int1 (by rfl) T.int (by decide +kernel) (pa_cons (pe_op op_add (pe_op op_add (pe_op op_mul (pe_ix ix_list (pv 0) pe_int (fun _ _ => rfl)) pe_int) (pe_op op_mul (pe_ix ix_list (pv 0) pe_int (fun _ _ => rfl)) pe_int)) pe_int) pa_nil)) pe_int))
      (pss_cons (ps_set (i := 3) sc_law_draw.nd rfl (.inl rfl) (pe_op op_mod (pe_callTy call_int1 (by rfl) T.int (by decide +kernel) (pa_cons (pe_op op_add (pe_op op_mul (pv 3) pe_int) (pe_ix ix_list (pv 0) pe_int (fun _ _ => rfl))) pa_nil)) pe_int))
      (pss_one (ps_ret (pe_op op_mod (pe_op op_fdiv (pv 3) pe_int) (pv 1))))))
      pss_nil)
    (pss_cons (ps_set (i := 4) sc_law_draw.nd rfl (.inl rfl) (pe_op op_mod (pe_callTy call_int1 (by rfl) T.int (by decide +kernel) (pa_cons (pe_ix ix_list (pv 0) pe_int (fun _ _ => rfl)) pa_nil)) (pv 1)))
    (pss_cons (ps_asg (pe_op op_fdivW (pe_ix ix_list (pv 0) pe_int (fun _ _ => rfl)) (pv 1)) (pg_sub (pv 0) pe_int set_list))
    (pss_one (ps_ret (pv 4)))))))), ?_⟩
    obtain ⟨ns, i, c, k, s5, hl, ha, hn⟩ := hp
    have hap : a ≠ p := hid_neq ha
    have haH := hid_get ha
    -- the pool as it stands after writes
    have pk : ∀ (i' : Nat) (c' k' s' : Int), PoolOk p a (upd H p (.lst [.ref a, .int i', .int c', .int k', .int s'])) := fun i' c' k' s' =>
      ⟨ns, i', c', k', s', upd_same, by rw [hid_upd]; exact ha, hn⟩
    refine ⟨fun σ H' => ∃ (i' : Nat) (c' k' s' : Int) (o1 : Option V), σ = [some (.ref p), some (.int n), o1, none, none] ∧ H' p = some (.lst [.ref a, .int i', .int c', .int k', .int s']) ∧ (∀ o, upd H' p o = upd H p o), ?_, ?_⟩
    · refine ⟨_, rfl, _, _, _, _, rfl, rfl, SqL.of hl, atI_nat (j := 2) rfl, _, _, rfl, rfl, _, rfl, ite2 (fun e1 => ?_) (fun e1 => ?_)⟩
      · refine ⟨_, rfl, _, _, _, _, rfl, rfl, SqL.of hl, atI_nat (j := 1) rfl, _, rfl, _, _, _, _, rfl, rfl, SqL.of hl, atI_nat (j := 0) rfl, _, _, rfl, .inl (SqL.of haH), _, _, rfl, rfl, _, rfl, ite2 (fun e2 => ?_) (fun e2 => ?_)⟩
        · have hi : i < (ns.map V.int).length := by have := of_decide_eq_true e2; omega
          have hi' : i < ns.length := by rw [List.length_map] at hi; exact hi
          have gi : (ns.map V.int)[i]? = some (.int ns[i]) := by rw [List.getElem?_map, List.getElem?_eq_getElem hi']; rfl
          refine ⟨_, rfl, _, _, _, _, rfl, rfl, SqL.of hl, atI_nat (j := 0) rfl, _, rfl, _, _, _, _, rfl, rfl, SqL.of hl, atI_nat (j := 1) rfl, _, _, _, _, rfl, rfl, SqL.of haH, atI_nat gi, ?_⟩
          refine ⟨_, rfl, _, _, _, _, rfl, rfl, SqL.of hl, atI_nat (j := 1) rfl, _, _, rfl, rfl, _, rfl, _, _, _, 1, rfl, rfl, hl, rfl, ?_⟩
          refine ⟨_, rfl, _, rfl, _, _, _, 2, rfl, rfl, upd_same, rfl, ?_⟩
          refine ⟨_, rfl, _, _, rfl, rfl, _, rfl, ite2 (fun e3 => ?_) (fun e3 => ?_)⟩
          · refine ⟨_, rfl, _, rfl, fun v => ⟨_, rfl, _, _, _, 2, rfl, rfl, upd_same, rfl, ?_⟩⟩
            exact ⟨i + 1, v, k, s5, _, rfl, upd_same, fun o => by rw [upd_upd, upd_upd, upd_upd]⟩
          · exact ⟨i + 1, ns[i], k, s5, _, rfl, upd_same, fun o => by rw [upd_upd, upd_upd]⟩
        · exact ⟨i, c, k, s5, _, rfl, hl, fun _ => rfl⟩
      · exact iteF ⟨i, c, k, s5, _, rfl, hl, fun _ => rfl⟩
    · rintro σ H' ⟨i, c, k, s5, o1, rfl, hl', hu⟩
      refine ⟨_, rfl, _, _, _, _, rfl, rfl, SqL.of hl', atI_nat (j := 3) rfl, _, _, rfl, rfl, _, rfl, _, _, _, 3, rfl, rfl, hl', rfl, ?_⟩
      refine ⟨_, rfl, _, _, _, _, rfl, rfl, SqL.of upd_same, atI_nat (j := 2) rfl, _, _, rfl, rfl, _, rfl, ite2 (fun e1 => ?_) (fun e1 => ?_)⟩
      · refine ⟨_, rfl, _, _, _, _, rfl, rfl, SqL.of upd_same, atI_nat (j := 4) rfl, _, _, rfl, rfl, .inr ⟨by decide, by decide⟩, _, rfl, _, _, _, _, rfl, rfl, SqL.of upd_same, atI_nat (j := 3) rfl, _, _, rfl, rfl, .inr ⟨by decide, by decide⟩, _, _, rfl, rfl, _, _, rfl, rfl, .inl ⟨_, rfl, _, _, rfl, rfl, (by show (0 : Int) < 2147483647; decide), ?_⟩⟩
        refine ⟨_, rfl, _, _, rfl, rfl, .inr ⟨by decide, by decide⟩, _, rfl, _, _, _, _, rfl, rfl, SqL.of upd_same, atI_nat (j := 3) rfl, _, _, rfl, rfl, .inl ⟨_, rfl, _, _, rfl, rfl, (by show (0 : Int) < 2147483629; decide), ?_⟩⟩
        refine ⟨_, rfl, _, _, rfl, rfl, ⟨by decide, by decide⟩, _, rfl, _, _, rfl, rfl, n0, ?_⟩
        show Q _ _
        rw [hu]
        exact q _ _ (Int.emod_nonneg _ (by omega)) (Int.emod_lt_of_pos _ n0) (pk i c (k + 1) s5)
      · refine ⟨_, rfl, _, _, _, _, rfl, rfl, SqL.of upd_same, atI_nat (j := 2) rfl, .inl ⟨_, rfl, _, rfl, _, _, rfl, rfl, n0, ?_⟩⟩
        refine ⟨_, rfl, _, _, _, _, rfl, rfl, SqL.of upd_same, atI_nat (j := 2) rfl, _, rfl, _, _, rfl, rfl, ⟨n0, n9⟩, _, rfl, _, _, _, 2, rfl, rfl, upd_same, rfl, _, rfl, ?_⟩
        show Q _ _
        rw [upd_upd, hu]
        exact q _ _ (Int.emod_nonneg _ (by omega)) (Int.emod_lt_of_pos _ n0) (pk i (c / n) (k + 1) s5)
/-- the same, the heap behind it a letter -/
def spDrawX : Sp := fun vs H Q _ => ∃ (p a : Addr) (n : Int), vs = [.ref p, .int n] ∧ 0 < n ∧ n ≤ 2 ^ 70 ∧ PoolOk p a H ∧ ∀ (v : Nat) (H' : Hp), (v : Int) < n → Px p a H H' → (∀ b, b ≠ p → H' b = H b) → Q (.int v) H'
theorem log2_small {n : Int} (h0 : 0 < n) (h : n ≤ 2 ^ 70) : n.natAbs.log2 < 9000 := by
  have h1 : n.natAbs < 2 ^ 71 := by omega
  have := PySem.Flt.log2_lt_of (by decide : 0 < 71) h1
  omega
theorem drawX (C : Has P w K mg base 2 "_law_draw" ["pool", "many"] spDraw) : Has P w K mg base 2 "_law_draw" ["pool", "many"] spDrawX :=
  C.imp fun vs H Q E h => by
    obtain ⟨p, a, n, rfl, h0, h1, hp, q⟩ := h
    refine ⟨p, a, n, rfl, h0, log2_small h0 h1, hp, fun v o v0 v1 hq => ?_⟩
    have e : v = ((v.toNat : Nat) : Int) := by omega
    rw [e]
    exact q v.toNat _ (by omega) (Px.draw hp hq) fun b hb => upd_ne hb
end
end G
namespace G
open PySem PySem.Spec PyProof.Rows L2 Evl
/-! ## data -/
inductive D where
  | non | bl (b : Bool) | int (i : Int) | str (s : Str) | tup (l : List D) | lst (l : List D)
def okD : Nat → D → Prop
  | 0, .tup _ => False
  | 0, .lst _ => False
  | n + 1, .tup l => l.length < 2 ^ 61 ∧ ∀ d ∈ l, okD n d
  | n + 1, .lst l => l.length < 2 ^ 61 ∧ ∀ d ∈ l, okD n d
  | _, _ => True
inductive Rep (H : Hp) : V → D → Prop where
  | non : Rep H .non .non
  | bl (b : Bool) : Rep H (.bl b) (.bl b)
  | int (i : Int) : Rep H (.int i) (.int i)
  | str (s : Str) : Rep H (.str s) (.str s)
  | tup {a : Addr} {xs : List V} {ds : List D} (h : H a = some (.tup xs)) (hl : xs.length = ds.length) (hr : ∀ (i : Nat) (x : V) (d : D), xs[i]? = some x → ds[i]? = some d → Rep H x d) : Rep H (.ref a) (.tup ds)
  | lst {a : Addr} {xs : List V} {ds : List D} (h : H a = some (.lst xs)) (hl : xs.length = ds.length) (hr : ∀ (i : Nat) (x : V) (d : D), xs[i]? = some x → ds[i]? = some d → Rep H x d) : Rep H (.ref a) (.lst ds)
theorem Rep.ex {H H' : Hp} (e : Ex H H') {x : V} {d : D} (r : Rep H x d) : Rep H' x d := by
  induction r with
  | non => exact .non
  | bl b => exact .bl b
  | int i => exact .int i
  | str s => exact .str s
  | tup h hl _ ih => exact .tup (e _ _ h) hl ih
  | lst h hl _ ih => exact .lst (e _ _ h) hl ih
theorem okD.mono : ∀ {n m : Nat} {d : D}, n ≤ m → okD n d → okD m d
  | 0, 0, d, _, h => h
  | 0, m + 1, .non, _, _ => trivial
  | 0, m + 1, .bl _, _, _ => trivial
  | 0, m + 1, .int _, _, _ => trivial
  | 0, m + 1, .str _, _, _ => trivial
  | 0, m + 1, .tup _, _, h => h.elim
  | 0, m + 1, .lst _, _, h => h.elim
  | n + 1, m + 1, .non, _, _ => trivial
  | n + 1, m + 1, .bl _, _, _ => trivial
  | n + 1, m + 1, .int _, _, _ => trivial
  | n + 1, m + 1, .str _, _, _ => trivial
  | n + 1, m + 1, .tup l, le, h => ⟨h.1, fun d hd => okD.mono (Nat.le_of_succ_le_succ le) (h.2 d hd)⟩
  | n + 1, m + 1, .lst l, le, h => ⟨h.1, fun d hd => okD.mono (Nat.le_of_succ_le_succ le) (h.2 d hd)⟩
structure TxtS (mg : Str → Option Value) : Prop where
  isinstance : mg "isinstance" = none
  tuple : mg "tuple" = none
  list : mg "list" = none
  len : mg "len" = none
  range : mg "range" = none
  bool : mg "bool" = none
  int : mg "int" = none
  str : mg "str" = none
section
variable {P : Program} {w : World} {K : PySem.W.Frag} {mg : Str → Option Value} {base : Heap}
/-- equal data: the answer is True -/
def spSame : Nat → Sp
  | 0 => fun _ _ _ _ => False
  | n + 1 => fun vs H Q _ => ∃ (x y : V) (d : D), vs = [x, y] ∧ Rep H x d ∧ Rep H y d ∧ okD n d ∧ Q (.bl true) H
theorem sc_law_same : FnScope ["actual", "due", "k"] ["actual", "due"] (defScope s_law_same) := ⟨rfl, rfl, rfl, by decide +kernel, rfl, by decide +kernel, by decide +kernel⟩
theorem fn_law_same {f : Addr} {fd : FuncData} (F : Fun K "_law_same" "_law_same" s_law_same f fd) (g_law_same : mg "_law_same" = some (.ref f)) (b_law_same : Binds K fd ["actual", "due"] []) (T : TxtS mg) : ∀ n, FnOk P w K mg base CX0 n f fd ["actual", "due"] (spSame n)
  | 0 => ⟨fun _ _ _ _ h => h.elim, fun _ _ _ _ _ _ _ _ _ _ _ _ _ h => h.elim⟩
  | n + 1 => by
    have G_law_same := fn_law_same F g_law_same b_law_same T n
    have k_law_same := F.kp
    refine F.ok sc_law_same (fun vs H Q E h => ?_) (fun cdv A outer s H vs Q E hr h => ?_)
    · obtain ⟨x, y, d, rfl, _⟩ := h
      rfl
    · obtain ⟨x, y, d, rfl, rx, ry, hd, q⟩ := h
      refine ⟨_, (pss_cons (ps_if (PW.pt (pw_or (pt_val (pe_callB call_isi (by rfl) T.isinstance (by decide +kernel) (pa_cons (pv 1) (pa_cons (pe_bltn (v := .ty "tuple") (by rfl) T.tuple (by decide +kernel) rfl) pa_nil)))) (pw_or1 (pt_val (pe_callB call_isi (by rfl) T.isinstance (by decide +kernel) (pa_cons (pv 1) (pa_cons (pe_bltn (v := .ty "list") (by rfl) T.list (by decide +kernel) rfl) pa_nil)))))))
      (pss_cons (ps_if (PW.pt (pw_or (pt_cmpR op_ne (pe_callB call_isi (by rfl) T.isinstance (by decide +kernel) (pa_cons (pv 1) (pa_cons (pe_bltn (v := .ty "tuple") (by rfl) T.tuple (by decide +kernel) rfl) pa_nil))) (pe_callB call_isi (by rfl) T.isinstance (by decide +kernel) (pa_cons (pv 0) (pa_cons (pe_bltn (v := .ty "tuple") (by rfl) T.tuple (by decide +kernel) rfl) pa_nil))) (nomark _)) (pw_or1 (pt_cmpR op_ne (pe_callB call_isi (by rfl) T.isinstance (by decide +kernel) (pa_cons (pv 1) (pa_cons (pe_bltn (v := .ty "list") (by rfl) T.list (by decide +kernel) rfl) pa_nil))) (pe_callB call_isi (by rfl) T.isinstance (by decide +kernel) (pa_cons (pv 0) (pa_cons (pe_bltn (v := .ty "list") (by rfl) T.list (by decide +kernel) rfl) pa_nil))) (nomark _)))))
        (pss_one (ps_ret pe_bl))
        pss_nil)
      (pss_cons (ps_if (pt_cmpR op_ne (pe_callB call_len_seq (by rfl) T.len (by decide +kernel) (pa_cons (pv 0) pa_nil)) (pe_callB call_len_seq (by rfl) T.len (by decide +kernel) (pa_cons (pv 1) pa_nil)) (nomark _))
        (pss_one (ps_ret pe_bl))
        pss_nil)
      (pss_cons (ps_for PassesOwn.never rfl (pi_range1 rfl T.range (pa_cons (pe_callB call_len_seq (by rfl) T.len (by decide +kernel) (pa_cons (pv 1) pa_nil)) pa_nil)) (pg_name (i := 2) sc_law_same.nd rfl (.inl rfl))
        (pss_one (ps_if (pt_not (pt_val (pe_call G_law_same hr (by rfl) g_law_same k_law_same b_law_same .nil pass0 (pa_cons (pe_ix ix_seq (pv 0) (pv 2) (fun _ _ => rfl)) (pa_cons (pe_ix ix_seq (pv 1) (pv 2) (fun _ _ => rfl)) pa_nil)))))
          (pss_one (ps_ret pe_bl))
          pss_nil)))
      (pss_one (ps_ret pe_bl)))))
      pss_nil)
    (pss_cons (ps_if (pt_cmpR op_isN (pv 1) pe_non (nomark _))
      (pss_one (ps_ret (pe_cmpR op_isN (pv 0) pe_non (nomark _))))
      pss_nil)
    (pss_cons (ps_if (pt_val (pe_callB call_isi (by rfl) T.isinstance (by decide +kernel) (pa_cons (pv 1) (pa_cons (pe_bltn (v := .ty "bool") (by rfl) T.bool (by decide +kernel) rfl) pa_nil))))
      (pss_one (ps_ret (pe_and (pe_callB call_isi (by rfl) T.isinstance (by decide +kernel) (pa_cons (pv 0) (pa_cons (pe_bltn (v := .ty "bool") (by rfl) T.bool (by decide +kernel) rfl) pa_nil))) (pe_one (pe_cmpR op_eq (pv 0) (pv 1) (nomark _))))))
      pss_nil)
    (pss_cons (ps_if (pt_val (pe_callB call_isi (by rfl) T.isinstance (by decide +kernel) (pa_cons (pv 1) (pa_cons (pe_bltn (v := .ty "int") (by rfl) T.int (by decide +kernel) rfl) pa_nil))))
      (pss_one (ps_ret (pe_and (pe_callB call_isi (by rfl) T.isinstance (by decide +kernel) (pa_cons (pv 0) (pa_cons (pe_bltn (v := .ty "int") (by rfl) T.int (by decide +kernel) rfl) pa_nil))) (pe_and (pe_not (pe_callB call_isi (by rfl) T.isinstance (by decide +kernel) (pa_cons (pv 0) (pa_cons (pe_bltn (v := .ty "bool") (by rfl) T.bool (by decide +kernel) rfl) pa_nil)))) (pe_one (pe_cmpR op_eq (pv 0) (pv 1) (nomark _)))))))
      pss_nil)
    (pss_one (ps_ret (pe_and (pe_callB call_isi (by rfl) T.isinstance (by decide +kernel) (pa_cons (pv 0) (pa_cons (pe_bltn (v := .ty "str") (by rfl) T.str (by decide +kernel) rfl) pa_nil))) (pe_one (pe_cmpR op_eq (pv 0) (pv 1) (nomark _)))))))))), ?_⟩
      cases rx with
      | non =>
        cases ry
        refine ⟨_, rfl, _, _, _, _, _, rfl, .ty "tuple", .base .non, kit_ty (a := "NoneType") (r := false) (by decide +kernel), _, rfl, iteF ⟨_, rfl, _, _, _, _, _, rfl, .ty "list", .base .non, kit_ty (a := "NoneType") (r := false) (by decide +kernel), _, rfl, iteF ⟨_, rfl, rfl, _, rfl, iteT ⟨_, rfl, rfl, ?_⟩⟩⟩⟩
        exact q
      | bl b =>
        cases ry
        refine ⟨_, rfl, _, _, _, _, _, rfl, .ty "tuple", .base (.bl _), kit_ty (a := "bool") (r := false) (by decide +kernel), _, rfl, iteF ⟨_, rfl, _, _, _, _, _, rfl, .ty "list", .base (.bl _), kit_ty (a := "bool") (r := false) (by decide +kernel), _, rfl, iteF ⟨_, rfl, rfl, _, rfl, iteF ⟨_, rfl, _, _, _, _, _, rfl, .ty "bool", .base (.bl _), kit_ty (a := "bool") (r := true) (by decide +kernel), _, rfl, iteT ⟨_, rfl, _, _, _, _, _, rfl, .ty "bool", .base (.bl _), kit_ty (a := "bool") (r := true) (by decide +kernel), _, rfl, iteT ⟨_, rfl, _, rfl, rfl, ?_⟩⟩⟩⟩⟩⟩
        rw [decide_eq_true rfl]
        exact q
      | int b =>
        cases ry
        refine ⟨_, rfl, _, _, _, _, _, rfl, .ty "tuple", .base (.int _), kit_ty (a := "int") (r := false) (by decide +kernel), _, rfl, iteF ⟨_, rfl, _, _, _, _, _, rfl, .ty "list", .base (.int _), kit_ty (a := "int") (r := false) (by decide +kernel), _, rfl, iteF ⟨_, rfl, rfl, _, rfl, iteF ⟨_, rfl, _, _, _, _, _, rfl, .ty "bool", .base (.int _), kit_ty (a := "int") (r := false) (by decide +kernel), _, rfl, iteF ⟨_, rfl, _, _, _, _, _, rfl, .ty "int", .base (.int _), kit_ty (a := "int") (r := true) (by decide +kernel), _, rfl, iteT ⟨_, rfl, _, _, _, _, _, rfl, .ty "int", .base (.int _), kit_ty (a := "int") (r := true) (by decide +kernel), _, rfl, iteT ⟨_, rfl, _, _, _, _, _, rfl, .ty "bool", .base (.int _), kit_ty (a := "int") (r := false) (by decide +kernel), _, rfl, _, rfl, iteT ⟨_, rfl, _, rfl, rfl, ?_⟩⟩⟩⟩⟩⟩⟩⟩
        rw [decide_eq_true rfl]
        exact q
      | str b =>
        cases ry
        refine ⟨_, rfl, _, _, _, _, _, rfl, .ty "tuple", .base (.str _), kit_ty (a := "str") (r := false) (by decide +kernel), _, rfl, iteF ⟨_, rfl, _, _, _, _, _, rfl, .ty "list", .base (.str _), kit_ty (a := "str") (r := false) (by decide +kernel), _, rfl, iteF ⟨_, rfl, rfl, _, rfl, iteF ⟨_, rfl, _, _, _, _, _, rfl, .ty "bool", .base (.str _), kit_ty (a := "str") (r := false) (by decide +kernel), _, rfl, iteF ⟨_, rfl, _, _, _, _, _, rfl, .ty "int", .base (.str _), kit_ty (a := "str") (r := false) (by decide +kernel), _, rfl, iteF ⟨_, rfl, _, _, _, _, _, rfl, .ty "str", .base (.str _), kit_ty (a := "str") (r := true) (by decide +kernel), _, rfl, iteT ⟨_, rfl, _, rfl, rfl, ?_⟩⟩⟩⟩⟩⟩⟩
        rw [decide_eq_true rfl]
        exact q
      | @tup a xs ds hx lx rx =>
        cases ry with
        | @tup b ys _ hy ly ry =>
          cases n with
          | zero => exact hd.elim
          | succ m =>
            obtain ⟨hlen, hall⟩ := hd
            refine ⟨_, rfl, _, _, _, _, _, rfl, .ty "tuple", .base (.tup hy), kit_ty (a := "tuple") (r := true) (by decide +kernel), _, rfl, iteT (iteT ⟨_, rfl, _, _, _, _, _, rfl, .ty "tuple", .base (.tup hy), kit_ty (a := "tuple") (r := true) (by decide +kernel), _, rfl, _, _, _, _, _, rfl, .ty "tuple", .base (.tup hx), kit_ty (a := "tuple") (r := true) (by decide +kernel), rfl, _, rfl, iteF ⟨_, rfl, _, _, _, _, _, rfl, .ty "list", .base (.tup hy), kit_ty (a := "tuple") (r := false) (by decide +kernel), _, rfl, _, _, _, _, _, rfl, .ty "list", .base (.tup hx), kit_ty (a := "tuple") (r := false) (by decide +kernel), rfl, _, rfl, iteF ⟨_, rfl, _, _, rfl, .inr (SqT.of hx), _, rfl, _, _, rfl, .inr (SqT.of hy), rfl, _, rfl, ?_⟩⟩⟩)⟩
            have el : decide (V.int (xs.length : Int) = V.int (ys.length : Int)) = true := decide_eq_true (by rw [lx, ly])
            rw [el]
            refine ⟨_, rfl, _, _, rfl, .inr (SqT.of hy), _, rfl, by omega, by omega, for_range (n := (ys.length : Int).toNat) (fun _ σ H' => H' = H ∧ ∃ z : Option V, σ = [some (.ref a), some (.ref b), z]) ⟨rfl, _, rfl⟩ ?_ ?_⟩
            · rintro i σ H' hi ⟨rfl, z, rfl⟩
              have hi' : i < ds.length := by omega
              have e0 : (0 : Int) + (i : Int) = (i : Int) := Int.zero_add _
              have g1 : xs[i]? = some xs[i] := List.getElem?_eq_getElem (by omega)
              have g2 : ys[i]? = some ys[i] := List.getElem?_eq_getElem (by omega)
              have g3 : ds[i]? = some ds[i] := List.getElem?_eq_getElem hi'
              rw [e0]
              refine ⟨_, rfl, _, rfl, .inr (.inl ⟨_, _, _, _, rfl, rfl, SqT.of hx, atI_nat g1, _, rfl, _, rfl, .inr (.inl ⟨_, _, _, _, rfl, rfl, SqT.of hy, atI_nat g2, ?_⟩)⟩)⟩
              exact ⟨_, _, ds[i], rfl, rx i _ _ g1 g3, ry i _ _ g2 g3, hall _ (List.getElem_mem hi'), _, rfl, rfl, _, rfl⟩
            · rintro σ H' ⟨rfl, z, rfl⟩
              exact q
      | @lst a xs ds hx lx rx =>
        cases ry with
        | @lst b ys _ hy ly ry =>
          cases n with
          | zero => exact hd.elim
          | succ m =>
            obtain ⟨hlen, hall⟩ := hd
            refine ⟨_, rfl, _, _, _, _, _, rfl, .ty "tuple", .base (.lst hy), kit_ty (a := "list") (r := false) (by decide +kernel), _, rfl, iteF ⟨_, rfl, _, _, _, _, _, rfl, .ty "list", .base (.lst hy), kit_ty (a := "list") (r := true) (by decide +kernel), _, rfl, iteT ⟨_, rfl, _, _, _, _, _, rfl, .ty "tuple", .base (.lst hy), kit_ty (a := "list") (r := false) (by decide +kernel), _, rfl, _, _, _, _, _, rfl, .ty "tuple", .base (.lst hx), kit_ty (a := "list") (r := false) (by decide +kernel), rfl, _, rfl, iteF ⟨_, rfl, _, _, _, _, _, rfl, .ty "list", .base (.lst hy), kit_ty (a := "list") (r := true) (by decide +kernel), _, rfl, _, _, _, _, _, rfl, .ty "list", .base (.lst hx), kit_ty (a := "list") (r := true) (by decide +kernel), rfl, _, rfl, iteF ⟨_, rfl, _, _, rfl, .inl (SqL.of hx), _, rfl, _, _, rfl, .inl (SqL.of hy), rfl, _, rfl, ?_⟩⟩⟩⟩⟩
            have el : decide (V.int (xs.length : Int) = V.int (ys.length : Int)) = true := decide_eq_true (by rw [lx, ly])
            rw [el]
            refine ⟨_, rfl, _, _, rfl, .inl (SqL.of hy), _, rfl, by omega, by omega, for_range (n := (ys.length : Int).toNat) (fun _ σ H' => H' = H ∧ ∃ z : Option V, σ = [some (.ref a), some (.ref b), z]) ⟨rfl, _, rfl⟩ ?_ ?_⟩
            · rintro i σ H' hi ⟨rfl, z, rfl⟩
              have hi' : i < ds.length := by omega
              have e0 : (0 : Int) + (i : Int) = (i : Int) := Int.zero_add _
              have g1 : xs[i]? = some xs[i] := List.getElem?_eq_getElem (by omega)
              have g2 : ys[i]? = some ys[i] := List.getElem?_eq_getElem (by omega)
              have g3 : ds[i]? = some ds[i] := List.getElem?_eq_getElem hi'
              rw [e0]
              refine ⟨_, rfl, _, rfl, .inl ⟨_, _, _, _, rfl, rfl, SqL.of hx, atI_nat g1, _, rfl, _, rfl, .inl ⟨_, _, _, _, rfl, rfl, SqL.of hy, atI_nat g2, ?_⟩⟩⟩
              exact ⟨_, _, ds[i], rfl, rx i _ _ g1 g3, ry i _ _ g2 g3, hall _ (List.getElem_mem hi'), _, rfl, rfl, _, rfl⟩
            · rintro σ H' ⟨rfl, z, rfl⟩
              exact q
theorem ok_law_same (D : Dfd K mg "_law_same" s_law_same ["actual", "due"]) (T : TxtS mg) (n : Nat) : Has P w K mg base n "_law_same" ["actual", "due"] (spSame n) := by
  obtain ⟨f, fd, F, g, b⟩ := D
  exact ⟨f, fd, fn_law_same F g b T n, g, F.kp, b⟩
end
/-! ## data made of flat lists -/
theorem rep_map {H : Hp} {α : Type} {f : α → V} {g : α → D} {l : List α} (h : ∀ x, Rep H (f x) (g x)) : (l.map f).length = (l.map g).length ∧ ∀ (i : Nat) (x : V) (d : D), (l.map f)[i]? = some x → (l.map g)[i]? = some d → Rep H x d := by
  refine ⟨by rw [List.length_map, List.length_map], fun i x d hx hd => ?_⟩
  rw [List.getElem?_map] at hx hd
  cases e : l[i]? with
  | none => rw [e] at hx; cases hx
  | some y =>
    rw [e] at hx hd
    have e1 : f y = x := Option.some.inj hx
    have e2 : g y = d := Option.some.inj hd
    rw [← e1, ← e2]
    exact h y
theorem rep_ints {H : Hp} {a : Addr} {l : List Int} (h : H a = some (.lst (l.map V.int))) : Rep H (.ref a) (.lst (l.map D.int)) :=
  let r := rep_map (H := H) (f := V.int) (g := D.int) (l := l) fun i => .int i
  .lst h r.1 r.2
theorem rep_bls {H : Hp} {a : Addr} {l : List Bool} (h : H a = some (.tup (l.map V.bl))) : Rep H (.ref a) (.tup (l.map D.bl)) :=
  let r := rep_map (H := H) (f := V.bl) (g := D.bl) (l := l) fun i => .bl i
  .tup h r.1 r.2
theorem okD_ints {l : List Int} (h : l.length < 2 ^ 61) : okD 1 (.lst (l.map D.int)) := ⟨by rw [List.length_map]; exact h, fun d hd => by obtain ⟨_, _, rfl⟩ := List.mem_map.mp hd; trivial⟩
end G
namespace G
open PySem PySem.Spec PyProof.Rows L2 Evl
section
variable {P : Program} {w : World} {K : PySem.W.Frag} {mg : Str → Option Value} {base : Heap}
theorem cutV_mem {xs : List V} {lo hi : Option Int} {i : Nat} {x : V} (h : (cutV xs lo hi)[i]? = some x) : x ∈ xs := by
  unfold cutV at h
  exact List.mem_of_mem_drop (List.mem_of_mem_take (List.mem_of_getElem? h))
theorem int_of {ns : List Int} {x : V} (h : x ∈ ns.map V.int) : ∃ z, x = .int z := by
  obtain ⟨z, _, e⟩ := List.mem_map.mp h
  exact ⟨z, e.symm⟩
def spPool (K : PySem.W.Frag) : Sp := fun vs H Q _ => ∃ (s : Addr) (ns : List Int), vs = [.ref s] ∧ SqL K H s (ns.map V.int) ∧ ns.length ≤ 1000 ∧ ∀ (p a : Addr) (H' : Hp), PoolOk p a H' → Ex H H' → H p = none → Q (.ref p) H'
theorem sc_law_pool : FnScope ["script", "salt", "cell"] ["script"] (defScope s_law_pool) := ⟨rfl, rfl, rfl, by decide +kernel, rfl, by decide +kernel, by decide +kernel⟩
theorem ok_law_pool (D : Dfd K mg "_law_pool" s_law_pool ["script"]) (T : TxtL mg) : Has P w K mg base 1 "_law_pool" ["script"] (spPool K) := by
  refine D.has fun f fd F => F.ok sc_law_pool (fun vs H Q E h => ?_) (fun cdv A outer s H vs Q E hr h => ?_)
  · obtain ⟨c, _, rfl, _⟩ := h
    rfl
  · obtain ⟨sa, ns, rfl, hs, hn, q⟩ := h
    refine ⟨_, (pss_cons (ps_set (i := 1) sc_law_pool.nd rfl (.inl rfl) pe_int)
      (pss_cons (ps_for PassesOwn.never rfl (pi_list (pe_slice sl_list (pv 0) po_none (po_some pe_int))) (pg_name (i := 2) sc_law_pool.nd rfl (.inl rfl))
        (pss_one (ps_set (i := 1) sc_law_pool.nd rfl (.inl rfl) (pe_op op_mod (pe_callTy call_int1 (by rfl) T.int (by decide +kernel) (pa_cons (pe_op op_add (pe_op op_mul (pv 1) pe_int) (pv 2)) pa_nil)) pe_int))))
      (pss_one (ps_ret (pe_lst (pa_cons (pe_callTy call_list_of (by rfl) T.list (by decide +kernel) (pa_cons (pv 0) pa_nil)) (pa_cons pe_int (pa_cons pe_int (pa_cons pe_int (pa_cons (pv 1) pa_nil)))))))))), ?_⟩
    refine ⟨_, rfl, _, rfl, sa, _, rfl, hs, fun c nc => ⟨c, rfl, ⟨_, SqL.of upd_same⟩, for_list (K := K) (a := c) (xs := cutV (ns.map V.int) none (some 63)) (fun _ σ H' => H' = upd H c (.lst (cutV (ns.map V.int) none (some 63))) ∧ ∃ (x : Int) (z : Option V), σ = [some (.ref sa), some (.int x), z]) ⟨rfl, _, _, rfl⟩ ?_ ?_ ?_⟩⟩
    · rintro i σ H' _ ⟨rfl, _⟩
      exact SqL.of upd_same
    · rintro i x σ H' hi ⟨rfl, y, z, rfl⟩
      obtain ⟨m, rfl⟩ := int_of (cutV_mem hi)
      exact ⟨_, rfl, _, _, rfl, rfl, .inr ⟨by decide, by decide⟩, _, rfl, _, _, rfl, rfl, .inl ⟨_, rfl, _, _, rfl, rfl, (by show (0 : Int) < 1000003; decide), rfl, _, _, rfl⟩⟩
    · rintro σ H' ⟨rfl, y, z, rfl⟩
      have e1 : Ex H (upd H c (.lst (cutV (ns.map V.int) none (some 63)))) := Ex.new nc
      refine ⟨_, rfl, _, _, rfl, .inl (ex_l e1 hs), fun l nl => ⟨_, rfl, (by show 5 ≤ sizeLine; decide), fun p np => ?_⟩⟩
      have e2 := e1.trans (Ex.new (o := .lst (ns.map V.int)) nl)
      have npl : l ≠ p := ne_of_none upd_same np
      exact q p l _ ⟨ns, 0, 0, 0, y, upd_same, by rw [hid_ne npl, upd_ne npl]; exact upd_same, hn⟩ (e2.trans (Ex.new np)) (fresh_back e2 np)
end
end G
namespace G
open PySem PySem.Spec PyProof.Rows L2 Evl
/-! ## own classes of errors -/
def HasX (P : Program) (w : World) (K : PySem.W.Frag) (mg : Str → Option Value) (base : Heap) (k : Nat) (x : Str) (ps : List Str) (sp : Sp) : Prop :=
  ∃ (f : Addr) (fd : FuncData), FnOk P w K mg base (L2.CX P w) k f fd ps sp ∧ mg x = some (.ref f) ∧ PySem.W.keepIn K (.ref f) = true ∧ Binds K fd ps []
theorem passX0 {X : Cx} {P : Program} {w : World} : Passes (L2.CX P w) X (fun _ _ _ => False) := fun _ _ _ _ _ _ _ h => by
  obtain ⟨_, _, _, _, _, _, _, _, _, _, _, _, h⟩ := h
  exact h.elim
/-- an own class over ValueError without __init__, at C -/
structure ExcT (K : PySem.W.Frag) (mg : Str → Option Value) (x : Str) (C : Addr) : Prop where
  gC : mg x = some (.ref C)
  xP : PySem.W.excIn K C [.type "ValueError", .type "Exception", .type "BaseException", .type "object"] "ValueError.__new__" = true
  kC : PySem.W.keepIn K (.ref C) = true
  bC : PySem.W.subIn K (.ref C) (.type "BaseException") = some true
  tC : PySem.W.typeIn K (.ref C) = some (.type "type")
/-- what an except clause asks of the class that it names -/
structure ExcH (K : PySem.W.Frag) (mg : Str → Option Value) (x : Str) (C : Addr) : Prop where
  u : ExcT K mg x C
  dict : PySem.W.hasDictIn K C = true
  self : PySem.W.subIn K (.ref C) (.ref C) = some true
theorem ExcH.hit {K : PySem.W.Frag} {mg : Str → Option Value} {x : Str} {C : Addr} (U : ExcH K mg x C) : PySem.W.exmOne K (.ref C) (.ref C) = some true := PySem.W.exm_ref U.u.bC U.dict U.u.tC U.self
end G
namespace G
open PySem PySem.Spec PyProof.Rows L2 Evl
/-! ## methods of built-in types within a suite: the written part by its letter -/
theorem kBm {X : Cx} {K : PySem.W.Frag} {T name id : String} {r : V → List V → Hp → VK → Prop} {o e : Expr} {es : List Expr} {to_ : TE} {t : TA} {apos cpos : Pos} (h : X.K = K) (p1 : PlainAttrs T) (p2 : Slot T name id) (p3 : typeOf (.builtin id) = pure (.type "method_descriptor")) (p4 : MtR X id r) (p5 : PE X o to_) (p6 : PA X (e :: es) t)
    (p7 : attributeBase o name X.env (eval o X.env) = eval o X.env := by rfl) (p8 : ((backTo cpos (starEach (e :: es) X.env)).all (fun x => !x.1) && (backToKw cpos (keywordEach [] X.env)).all (fun x => x.1.isSome) && decide ((e :: es).length + ([] : List Keyword).length + (if ([] : List Keyword).isEmpty then 0 else 1) < 30)) = true := by rfl)
    (p9 : (apos.endLine == cpos.line) = true := by rfl) (p10 : starEach (e :: es) X.env = (false, eval e X.env) :: starEach es X.env := by rfl) (p11 : (backTo cpos (starEach es X.env)).any (·.1) = false := by rfl) : PE X (.Call (.Attribute o name apos) (e :: es) [] cpos) (tBM K T r to_ t) := by
  subst h
  exact pe_bm p1 p2 p3 p4 p5 p6 p7 p8 p9 p10 p11
theorem kMtIndex {X : Cx} {K : PySem.W.Frag} (h : X.K = K) : MtR X "list.index" (rIndex K) := by subst h; exact mt_index
end G
namespace G
open PySem PySem.Spec PyProof.Rows L2 Evl
/-! ## own errors: caught by name or by a class above, asked for their class -/
structure ExcI (K : PySem.W.Frag) (mg : Str → Option Value) (x : Str) (C : Addr) : Prop where
  u : ExcT K mg x C
  dict : PySem.W.hasDictIn K C = true
  self : PySem.W.subIn K (.ref C) (.ref C) = some true
  isc : ExcC K C
def IsK (K : PySem.W.Frag) (mg : Str → Option Value) (C : Addr) (d : Str) (b : Bool) : Prop := ∃ D : Addr, mg d = some (.ref D) ∧ PySem.W.kitOne K (.ref C) (.ref D) = some b
def CatchK (K : PySem.W.Frag) (mg : Str → Option Value) (C : Addr) (s : Str) : Prop := ∃ D : Addr, mg s = some (.ref D) ∧ PySem.W.exmOne K (.ref C) (.ref D) = some true
theorem ExcI.hit {K : PySem.W.Frag} {mg : Str → Option Value} {x : Str} {C : Addr} (U : ExcI K mg x C) : PySem.W.exmOne K (.ref C) (.ref C) = some true := PySem.W.exm_ref U.u.bC U.dict U.u.tC U.self
theorem IsK.at_ {K : PySem.W.Frag} {mg : Str → Option Value} {C D : Addr} {d : Str} {b : Bool} (h : IsK K mg C d b) (g : mg d = some (.ref D)) : PySem.W.kitOne K (.ref C) (.ref D) = some b := by
  obtain ⟨D', g', k⟩ := h
  rw [g] at g'
  cases g'; exact k
theorem CatchK.at_ {K : PySem.W.Frag} {mg : Str → Option Value} {C D : Addr} {s : Str} (h : CatchK K mg C s) (g : mg s = some (.ref D)) : PySem.W.exmOne K (.ref C) (.ref D) = some true := by
  obtain ⟨D', g', k⟩ := h
  rw [g] at g'
  cases g'; exact k
theorem pe_ex {X : Cx} {e : Expr} {α : Type} {p : α → Prop} {t : α → TE} (h : ∀ x, p x → PE X e (t x)) : PE X e (fun σ H Q => ∃ x, p x ∧ t x σ H Q) := by
  refine ⟨fun ps s σ H Q I z => ?_⟩
  obtain ⟨x, px, hx⟩ := z
  exact (h x px).run ps s σ H Q I hx
/-- isinstance of the error that the suite holds: whichever own error it is -/
theorem pe_isE {X : Cx} {a : Addr} {oe : Obj} {pn : List (Addr × Obj)} {cls : Value} {dd : Option Addr} {e : Expr} {t : Addr → TE} (hz : Zc cls dd oe) (hf : ∃ vs, oe.data = .fields vs)
    (h : ∀ D : Addr, Zc (.ref D) none oe → ExcC X.K D → PE (X.suite a ((a, oe) :: pn)) e (t D)) : PE (X.suite a ((a, oe) :: pn)) e (fun σ H Q => ∃ D : Addr, (cls = .ref D ∧ dd = none ∧ ExcC X.K D) ∧ t D σ H Q) :=
  pe_ex (p := fun D => cls = .ref D ∧ dd = none ∧ ExcC X.K D) fun D z => by
    obtain ⟨rfl, rfl, ic⟩ := z
    exact h D hz ic
/-! ## methods and classes called where what is raised is taken at the slots -/
section
variable {X : Cx} {CX : CXT} {k : Nat} {f C : Addr} {fd : FuncData} {ps : List Str} {sp : Sp} {dvs : List V} {ds : List Value} {E : L2.St → XK} {x m : Str} {p pos apos : Pos} {e o : Expr} {es : List Expr} {to_ : TE} {t : TA}
def tMethX (C : Addr) (m : Str) (sp : Sp) (dvs : List V) (E : L2.St → XK) (to_ : TE) (t : TA) : TE := fun σ H Q => to_ σ H fun x H1 => ∃ a dx fs, x = .ref a ∧ H1 a = some (.ins C dx fs) ∧ fs.lookup m = none ∧ t σ H1 fun vs H2 => sp (x :: (vs ++ dvs)) H2 Q (E σ)
def tMakeX (C : Addr) (sp : Sp) (dvs : List V) (E : L2.St → XK) (t : TA) : TE := fun σ H Q => t σ H fun vs H1 => ∀ x dx, H1 x = none → H1 dx = none → dx ≠ x → sp (.ref x :: (vs ++ dvs)) (upd (upd H1 dx (.own x)) x (.ins C dx [])) (fun v H2 => v = .non ∧ Q (.ref x) H2) (E σ)
theorem pe_methX {pl : Sem Bool} (ho : PE X o to_) (cc : Cls X.K C) (mm : Meth X.K C m f) (Fk : FnOk X.prog X.w X.K X.mg X.base CX k f fd ps sp) (rm : Room k X.A) (bd : Binds X.K fd ps ds) (dv : Vals dvs ds)
    (px : ∀ σ, PassesAt CX X σ (E σ)) (pa : PA X (e :: es) t) (s1 : starEach (e :: es) X.env = (false, eval e X.env) :: starEach es X.env := by rfl) (s2 : (backTo pos (starEach es X.env)).any (·.1) = false := by rfl)
    (s3 : eval (.Call (.Attribute o m apos) (e :: es) [] pos) X.env = (do let ov ← eval o X.env; standAt apos.atName; let (f, first) ← holding [ov] (getMethod ov m pl); callWith pos f first (backTo pos (starEach (e :: es) X.env)) (backToKw pos (keywordEach [] X.env))) := by rfl) :
    PE X (.Call (.Attribute o m apos) (e :: es) [] pos) (tMethX C m sp dvs E to_ t) := by
  refine ⟨fun pins st σ H Q I z => PySem.W.methodCall_KW (pl := pl) (thn (ho.run pins st σ H _ I z) fun q0 st1 ⟨y, H1, I1, ry, b, dx, fl, ey, eb, lk, z1⟩ => ?_) s3⟩
  subst ey
  cases (show q0 = Value.ref b from ry)
  exact getmeth_ok I1 eb cc mm lk (PySem.W.callWith_K (first := [.ref b]) (h₀ := X.base) I.ok.mod.kin mm.kp (thn (pa.run pos pins st1 σ H1 _ I1 z1) fun ws st2 ⟨vs, H2, I2, rs, z2⟩ => ⟨I2.kIn, run_fnSD (us := .ref b :: ws) (vs := .ref b :: vs) Fk rm bd dv (px σ) I2 (.cons rfl rs) z2⟩) s1 s2)
theorem run_makeX {pins : List (Addr × Obj)} {σ : L2.St} {H : Hp} {st : Shared} {Q : VK} {us : List Value} {vs : List V} (M : Mk X.K C f) (Fk : FnOk X.prog X.w X.K X.mg X.base CX k f fd ps sp) (rm : Room (k + 1) X.A) (bd : Binds X.K fd ps ds) (dv : Vals dvs ds)
    (px : PassesAt CX X σ (E σ)) (I : Inv X pins σ H st) (rs : Vals vs us)
    (z : ∀ x dx, H x = none → H dx = none → dx ≠ x → sp (.ref x :: (vs ++ dvs)) (upd (upd H dx (.own x)) x (.ins C dx [])) (fun v H2 => v = .non ∧ Q (.ref x) H2) (E σ)) :
    wpAny (model X.prog X.w) X.A (call (.ref C) us) (EP X pins σ Q) X.xe st := by
  have z1 := z (st.heap.objs.size + 1) st.heap.objs.size (I.hok.fresh (Nat.le_succ _)) (I.hok.fresh (Nat.le_refl _)) (Nat.ne_of_lt (Nat.lt_succ_self _))
  have J := Inv.made (C := C) I
  have rr : Vals (V.ref (st.heap.objs.size + 1) :: (vs ++ dvs)) (Value.ref (st.heap.objs.size + 1) :: (us ++ ds)) := .cons rfl (rs.append dv)
  have len : (Value.ref (st.heap.objs.size + 1) :: us ++ ds).length = ps.length := (rr.length.symm.trans (Fk.len _ _ _ _ z1))
  refine wpAny_call (make_map (f := f) I.kIn M.makes M.init (beq_iff_eq.mp M.fn) (codeAny_mono (Fk.run _ X.stack _ _ ⟨Value.ref (st.heap.objs.size + 1) :: us, []⟩ (Value.ref (st.heap.objs.size + 1) :: (us ++ ds)) _ _ (E σ) (rm.make C us []) (J.env0.make C us []) (bd _ (Value.ref (st.heap.objs.size + 1) :: us) J.kIn len) rr z1) fun r st' h => ?_))
  match r, h with
  | .error er, h => exact px pins _ _ er st' J h
  | .ok (.ret u), h =>
    obtain ⟨v, H', I3, rv, ev, q3⟩ := J.after h
    subst ev
    exact ⟨rv, ⟨V.ref (st.heap.objs.size + 1), H', I3, rfl, q3⟩⟩
  | .ok .next, h => exact h.elim
  | .ok .brk, h => exact h.elim
  | .ok .cont, h => exact h.elim
theorem pe_makeX (M : Mk X.K C f) (Fk : FnOk X.prog X.w X.K X.mg X.base CX k f fd ps sp) (rm : Room (k + 1) X.A) (gl : Gl X x) (gm : X.mg x = some (.ref C)) (bd : Binds X.K fd ps ds) (dv : Vals dvs ds) (px : ∀ σ, PassesAt CX X σ (E σ)) (pa : PA X (e :: es) t)
    (s0 : (x == ("__debug__" : Str)) = false := by decide) (s1 : starEach (e :: es) X.env = (false, eval e X.env) :: starEach es X.env := by rfl) (s2 : (backTo pos (starEach es X.env)).any (·.1) = false := by rfl) : PE X (.Call (.Name x p) (e :: es) [] pos) (tMakeX C sp dvs E t) :=
  ⟨fun pins st σ H Q I z => wpAny_Call_Name_kw (ld_glob I gl gm (PySem.W.callWith_K (h₀ := X.base) I.ok.mod.kin M.kp (thn (pa.run pos pins st σ H _ I z) fun us st1 ⟨vs, H1, I1, r, q⟩ => ⟨I1.kIn, run_makeX M Fk rm bd dv (px σ) I1 r q⟩) s1 s2) s0)⟩
end
end G
namespace G
open PySem PySem.Spec PyProof.Rows L2
/-! ## isinstance(e, (A, B)) of the error that a suite holds -/
theorem vals_of_refs : ∀ {bs : List Addr} {us : List Value}, Vals (bs.map V.ref) us → us = bs.map Value.ref
  | [], _, r => by cases r; rfl
  | b :: bs, _, r => by
    cases r with
    | cons h t =>
      rw [List.map_cons, ← vals_of_refs t]
      cases h
      rfl
def rIsET (K : PySem.W.Frag) (D a : Addr) : List V → Hp → VK → Prop := fun xs H Q => ∃ (tp : Addr) (cs : List Addr) (b : Bool), xs = [.ref a, .ref tp] ∧ SqT K H tp (cs.map V.ref) ∧ PySem.W.kitAny K (.ref D) (cs.map Value.ref) = some b ∧ Q (.bl b) H
theorem call_isET {X : Cx} {a D : Addr} {oe : Obj} {pn : List (Addr × Obj)} (C : ExcC X.K D) (hz : Zc (.ref D) none oe) (hf : ∃ vs, oe.data = .fields vs) : CallR (X.suite a ((a, oe) :: pn)) (.builtin "isinstance") (rIsET X.K D a) := by
  intro pins s σ H xs us Q I r h
  obtain ⟨tp, cs, b, rfl, hq, e, q⟩ := h
  obtain rfl : us = [.ref a, .ref tp] := vals_of_refs (bs := [a, tp]) r
  obtain ⟨hget, _⟩ := I.pin (a, oe) (List.mem_append.mpr (.inl List.mem_cons_self))
  obtain ⟨its, rv, ⟨⟨oc, od, oda, osl⟩, ho, hcl, n, hdt⟩, _⟩ := I.tuple hq
  obtain rfl := vals_of_refs rv
  dsimp only at hcl hdt
  subst hcl hdt
  obtain ⟨vs, hv⟩ := hf
  have J : PySem.W.InstAt s.heap a oe D none := by
    obtain ⟨oc, od, oda, osl⟩ := oe
    obtain ⟨h1, h2⟩ := hz
    dsimp only at h1 h2 hv
    subst h1 h2 hv
    exact ⟨hget, rfl, rfl, trivial⟩
  exact PySem.W.kia_tup (PySem.W.handS_kitx_exc C.hg C.hk C.hs C.hd C.ha C.hn C.ht C.hm) I.kIn J ho e (fun z => nomatch z) fun tk => ⟨.bl b, H, I.kept (t' := tk) fun _ _ z => z, rfl, q⟩
end G
namespace G
open PySem PySem.Spec PyProof.Rows L2 Evl
/-! ## own errors with a field: made, raised, asked for their class, their field read -/
/-- a look at the class -/
def oexB (K : PySem.W.Frag) (C : Addr) : Bool := match K.lookup C with
  | some ⟨.type "type", _, .cls cd, ⟨[_, _, _, _, some (.builtin n), _]⟩⟩ => (match cd.mro with
    | .ref C' :: bm => decide (C' = C) && (decide (n = "ValueError.__new__") && (!cd.hasDel && (cd.hasDict && PySem.HandSPX.refsVE bm)))
    | _ => false)
  | _ => false
theorem oexB_ok {K : PySem.W.Frag} {C : Addr} (h : oexB K C = true) : ∃ nm q N bs bm sn sub ab col dd k0 k1 k2 k3 k5, K.lookup C = some (excClassObj nm q C N bs bm true sn sub ab col dd k0 k1 k2 k3 k5 "ValueError.__new__") ∧ PySem.HandSPX.refsVE bm = true := by
  unfold oexB at h
  split at h
  · rename_i dd cd k0 k1 k2 k3 n k5 hl
    obtain ⟨nm, bs, mro, N, q, hd, sn, sub, ab, col, del⟩ := cd
    dsimp only at h
    split at h
    · rename_i C' bm
      simp only [Bool.and_eq_true, decide_eq_true_eq, Bool.not_eq_true'] at h
      obtain ⟨h1, h2, h3, h4, h5⟩ := h
      subst h1 h2 h3 h4
      exact ⟨nm, q, N, bs, bm, sn, sub, ab, col, dd, k0, k1, k2, k3, k5, hl, h5⟩
    · cases h
  · cases h
/-- an own error class whose `__init__(self, f)` says super().__init__(..) and keeps f -/
structure ErrF (P : Program) (K : PySem.W.Frag) (mg : Str → Option Value) (x qual : Str) (C f : Addr) (fd : FuncData) (st : Stmt) (fld : Str) : Prop where
  gC : mg x = some (.ref C)
  sup : ∃ file : Str, SUP.SupT K mg C f fd qual (defArgs st) (defBody st) (defScope st) file ∧ ((P.main.file : Str) == file) = true
  top : (P.main.scope.names.lookup ("super" : Str)).isSome = false
  bd : Binds K fd ["self", fld] []
  no : PySem.W.findIn K (.ref C) fld = some none
  isc : ExcC K C
/-- what such an `__init__` does -/
def spErr (C : Addr) (fld : Str) (ok : V → Hp → Prop) : Sp := fun vs H Q _ => ∃ (a : Addr) (y : V), vs = [.ref a, y] ∧ H a = some (exo a C none) ∧ ok y H ∧ ∀ d, H d = none → d ≠ a → Q .non (upd (upd H d (exd d [(fld, y)])) a (exo a C (some d)))
/-- a class that may be made: its `__init__` keeps this -/
structure Own1 (P : Program) (w : World) (K : PySem.W.Frag) (mg : Str → Option Value) (base : Heap) (x fld : Str) (C f : Addr) (fd : FuncData) (ok : V → Hp → Prop) : Prop where
  gC : mg x = some (.ref C)
  oex : OexC K C
  ini : PySem.W.findIn K (.ref C) "__init__" = some (some (.ref f))
  tI : PySem.W.typeIn K (.ref f) = some (.type "function")
  fn : FnOk P w K mg base CX0 1 f fd ["self", fld] (spErr C fld ok)
  bd : Binds K fd ["self", fld] []
theorem pmk_own1 {X : Cx} {x fld : Str} {C f : Addr} {fd : FuncData} {ok : V → Hp → Prop} {p pos : Pos} {e : Expr} {es : List Expr} {ta : TA} (O : Own1 X.prog X.w X.K X.mg X.base x fld C f fd ok) (hr : Room 2 X.A) (hg : Gl X x) (ha : PA X (e :: es) ta)
    (hdb : (x == ("__debug__" : Str)) = false := by decide) (he : starEach (e :: es) X.env = (false, eval e X.env) :: starEach es X.env := by rfl) (hpl : (backTo pos (starEach es X.env)).any (·.1) = false := by rfl) :
    PMk X (.Call (.Name x p) (e :: es) [] pos) (tMkO C (spErr C fld ok) [] ta) :=
  pmk_oex O.oex O.ini O.tI O.fn hr O.bd .nil pass0 hg O.gC ha hdb he hpl
/-- the reading of it, behind its argument -/
theorem mk1 {C : Addr} {fld : Str} {ok : V → Hp → Prop} {y : V} {H1 : Hp} {Q : XK} {E : XK} (hok : ∀ a, H1 a = none → ok y (upd H1 a (exo a C none))) (q : ∀ d, H1 d = none → Q (.ref C) (some d) (upd H1 d (.xd [(fld, y)]))) :
    [y].length ≤ 1000 ∧ ∀ a, H1 a = none → spErr C fld ok (.ref a :: ([y] ++ [])) (upd H1 a (exo a C none))
      (fun v H2 => v = .non ∧ ∃ (d : Addr) (fs : List (Str × V)), H2 a = some (exo a C (some d)) ∧ H2 d = some (exd d fs) ∧ H1 d = none ∧ Q (.ref C) (some d) (upd (del H2 a) d (.xd fs))) E := by
  refine ⟨(by show 1 ≤ 1000; decide), fun a na => ⟨a, y, rfl, upd_same, hok a na, fun d nd hda => ⟨rfl, d, [(fld, y)], upd_same, ?_, ?_, ?_⟩⟩⟩
  · rw [upd_ne hda, upd_same]
  · rw [upd_ne hda] at nd; exact nd
  · have nd' : H1 d = none := by rw [upd_ne hda] at nd; exact nd
    have e : upd (del (upd (upd (upd H1 a (exo a C none)) d (exd d [(fld, y)])) a (exo a C (some d))) a) d (.xd [(fld, y)]) = upd H1 d (.xd [(fld, y)]) := by
      funext b
      by_cases h1 : b = d
      · rw [h1, upd_same, upd_same]
      · rw [upd_ne h1, upd_ne h1]
        by_cases h2 : b = a
        · rw [h2, del_same, na]
        · rw [del_ne h2, upd_ne h2, upd_ne h1, upd_ne h2]
    rw [e]
    exact q d nd'
section
variable {X : Cx} {a D : Addr} {oe : Obj} {pn : List (Addr × Obj)} {dd : Option Addr}
/-- a caught error's dict stands -/
def DictS (dd : Option Addr) (H : Hp) : Prop := ∀ d, dd = some d → ∃ fs, H d = some (.xd fs)
def rIsED (K : PySem.W.Frag) (D a : Addr) (dd : Option Addr) : List V → Hp → VK → Prop := fun xs H Q => DictS dd H ∧ rIsE K D a xs H Q
def rIsETD (K : PySem.W.Frag) (D a : Addr) (dd : Option Addr) : List V → Hp → VK → Prop := fun xs H Q => DictS dd H ∧ rIsET K D a xs H Q
theorem instD {s : Shared} {pins : List (Addr × Obj)} {σ : L2.St} {H : Hp} (I : Inv (X.suite a ((a, oe) :: pn)) pins σ H s) (hz : Zc (.ref D) dd oe) (hf : ∃ vs, oe.data = .fields vs) (hd : DictS dd H) : ∃ od, PySem.W.InstAt s.heap a oe D od := by
  obtain ⟨hget, _⟩ := I.pin (a, oe) (List.mem_append.mpr (.inl List.mem_cons_self))
  obtain ⟨vs, hv⟩ := hf
  cases dd with
  | none => exact ⟨none, hget, hz.1, by unfold PySem.W.notCls; rw [hv] <;> rfl, by rw [hz.2]; trivial⟩
  | some d =>
    obtain ⟨fs, e⟩ := hd d rfl
    have hx : ObjOk X.prog X.w H s.heap d (.xd fs) := I.hok d _ e
    obtain ⟨mA, hns, hr⟩ := hx
    obtain ⟨od, ho, hl⟩ := lookIn_ns hns
    exact ⟨some od, hget, hz.1, by unfold PySem.W.notCls; rw [hv] <;> rfl, by rw [hz.2]; exact ho⟩
theorem kitD {K : PySem.W.Frag} {od : Option Obj} (C : ExcC K D) : PySem.W.KitX K (.ref a) (.ref D) (fun h => PySem.W.InstAt h a oe D od) :=
  PySem.W.kitx_exc (by obtain ⟨cd, hc, _⟩ := PySem.W.any_some C.hd; rw [hc]; rfl) C.hg C.hk C.hs C.ha C.hn C.ht C.hm
theorem call_isED (C : ExcC X.K D) (hz : Zc (.ref D) dd oe) (hf : ∃ vs, oe.data = .fields vs) : CallR (X.suite a ((a, oe) :: pn)) (.builtin "isinstance") (rIsED X.K D a dd) := by
  intro pins s σ H xs us Q I r h
  obtain ⟨hd, c, cv, b, rfl, hcv, e, q⟩ := h
  cases r with
  | cons rx rr =>
    cases rr with
    | cons rt rr =>
      cases rr
      cases rx
      have ec := hcv _ rt
      subst ec
      obtain ⟨od, J⟩ := instD I hz hf hd
      exact PySem.W.kia_one (kitD C) I.kIn J e (fun z => nomatch z) fun tk => ⟨.bl b, H, I.kept (t' := tk) fun _ _ z => z, rfl, q⟩
theorem call_isETD (C : ExcC X.K D) (hz : Zc (.ref D) dd oe) (hf : ∃ vs, oe.data = .fields vs) : CallR (X.suite a ((a, oe) :: pn)) (.builtin "isinstance") (rIsETD X.K D a dd) := by
  intro pins s σ H xs us Q I r h
  obtain ⟨hd, tp, cs, b, rfl, hq, e, q⟩ := h
  obtain rfl : us = [.ref a, .ref tp] := vals_of_refs (bs := [a, tp]) r
  obtain ⟨its, rv, ⟨⟨oc, od0, oda, osl⟩, ho, hcl, n, hdt⟩, _⟩ := I.tuple hq
  obtain rfl := vals_of_refs rv
  dsimp only at hcl hdt
  subst hcl hdt
  obtain ⟨od, J⟩ := instD I hz hf hd
  exact PySem.W.kia_tup (kitD C) I.kIn J ho e (fun z => nomatch z) fun tk => ⟨.bl b, H, I.kept (t' := tk) fun _ _ z => z, rfl, q⟩
theorem pe_isED {cls : Value} {e : Expr} {t : Addr → TE} (hz : Zc cls dd oe) (hf : ∃ vs, oe.data = .fields vs)
    (h : ∀ D : Addr, Zc (.ref D) dd oe → ExcC X.K D → PE (X.suite a ((a, oe) :: pn)) e (t D)) : PE (X.suite a ((a, oe) :: pn)) e (fun σ H Q => ∃ D : Addr, (cls = .ref D ∧ ExcC X.K D) ∧ t D σ H Q) :=
  pe_ex (p := fun D => cls = .ref D ∧ ExcC X.K D) fun D z => by
    obtain ⟨rfl, ic⟩ := z
    exact h D hz ic
end
end G
/-! ## tokens -/
namespace G
open PySem PySem.Spec PyProof.Rows L2 Evl TL
def sLET : Str := "abcdefghijklmnopqrstuvwxyz"
def sDIG : Str := "0123456789"
def sRUN : Str := "abcdefghijklmnopqrstuvwxyz0123456789_"
def kwds : List Str := ["cell", "pin", "module", "gate", "part", "reg", "edge", "out", "setup", "hold", "start"]
def sgns : List Str := ["(", ")", "{", "}", ",", ";", ":", "=", "->", "..", "&", "|", "^", "!"]
def isRun (c : Nat) : Bool := decide (c ∈ tl sRUN)
def isWord (T : List Nat) : Bool := match T with
  | [] => false
  | c :: _ => decide (c ∈ tl sLET) && T.all isRun
def isNum (T : List Nat) : Bool := match T with
  | [] => false
  | c :: _ => decide (T.length ≤ 9) && !(decide (c = 48) && !decide (T = [48])) && T.all fun d => decide (d ∈ tl sDIG)
def isName (T : List Nat) : Bool := isWord T && !decide (mk T ∈ kwds)
/-- a token that is a run -/
def RunTok (T : List Nat) : Prop := T ≠ [] ∧ (∀ c ∈ T, isRun c = true) ∧ (isWord T = true ∨ isNum T = true)
def SgnTok (T : List Nat) : Prop := mk T ∈ sgns
def NoRun (S : List Nat) : Prop := ∀ c r, S = c :: r → isRun c = false
/-- S is a text of these tokens -/
inductive Lx : List Nat → List (List Nat) → Prop where
  | nil : Lx [] []
  | sp {c : Nat} {S : List Nat} {ts : List (List Nat)} (h : c = 32 ∨ c = 10) (r : Lx S ts) : Lx (c :: S) ts
  | com {b S : List Nat} {ts : List (List Nat)} (h : 10 ∉ b) (hs : S = [] ∨ ∃ q, S = 10 :: q) (r : Lx S ts) : Lx (35 :: b ++ S) ts
  | run {T S : List Nat} {ts : List (List Nat)} (h : RunTok T) (hs : NoRun S) (r : Lx S ts) : Lx (T ++ S) (T :: ts)
  | sgn {T S : List Nat} {ts : List (List Nat)} (h : SgnTok T) (r : Lx S ts) : Lx (T ++ S) (T :: ts)
theorem dig_run : ∀ c ∈ tl sDIG, isRun c = true := by decide +kernel
theorem let_run : ∀ c ∈ tl sLET, isRun c = true := by decide +kernel
theorem run_not : isRun 32 = false ∧ isRun 10 = false ∧ isRun 35 = false := by decide +kernel
theorem sgn_facts : ∀ s ∈ sgns, tl s ≠ [] ∧ isRun ((tl s).headD 0) = false ∧ (tl s).headD 0 ≠ 32 ∧ (tl s).headD 0 ≠ 10 ∧ (tl s).headD 0 ≠ 35 ∧ (tl s).length ≤ 2 := by decide +kernel
theorem sgn_apart : ∀ s ∈ sgns, ∀ u ∈ sgns, s ≠ u → pre (tl s) (tl u) = false := by decide +kernel
theorem sgn_of {T : List Nat} (h : SgnTok T) : T ≠ [] ∧ isRun (T.headD 0) = false ∧ T.headD 0 ≠ 32 ∧ T.headD 0 ≠ 10 ∧ T.headD 0 ≠ 35 ∧ T.length ≤ 2 := sgn_facts (mk T) h
/-- where a run ends -/
def RunTo (L : List Nat) (i e : Nat) : Prop := i ≤ e ∧ e ≤ L.length ∧ (∀ k, i ≤ k → k < e → ∀ c, L[k]? = some c → isRun c = true) ∧ (∀ c, L[e]? = some c → isRun c = false)
theorem runTo_eq {L T S : List Nat} {i e : Nat} (h : RunTo L i e) (hL : L.drop i = T ++ S) (hT : ∀ c ∈ T, isRun c = true) (hS : NoRun S) (hi : i ≤ L.length) : e = i + T.length := by
  obtain ⟨h1, h2, h3, h4⟩ := h
  have hat : ∀ j, L[i + j]? = (T ++ S)[j]? := fun j => by rw [← hL, List.getElem?_drop]
  have hlen : L.length = i + (T.length + S.length) := by
    have := congrArg List.length hL
    rw [List.length_drop, List.length_append] at this
    omega
  by_cases c1 : e < i + T.length
  · have he : L[e]? = some T[e - i] := by
      have := hat (e - i)
      rw [show i + (e - i) = e by omega, List.getElem?_append_left (by omega), List.getElem?_eq_getElem (show e - i < T.length by omega)] at this
      exact this
    have := h4 _ he
    rw [hT _ (List.getElem_mem (by omega))] at this
    cases this
  · by_cases c2 : i + T.length < e
    · cases hS' : S with
      | nil => rw [hS'] at hlen; simp at hlen; omega
      | cons c r =>
        have he : L[i + T.length]? = some c := by rw [hat, List.getElem?_append_right (Nat.le_refl _), Nat.sub_self, hS']; rfl
        have := h3 (i + T.length) (by omega) c2 c he
        rw [hS c r hS'] at this
        cases this
    · omega
theorem isWord_mem {T : List Nat} {c : Nat} {r : List Nat} (e : T = c :: r) : isWord T = (decide (c ∈ tl sLET) && T.all isRun) := by subst e; rfl
theorem isNum_mem {T : List Nat} {c : Nat} {r : List Nat} (e : T = c :: r) : isNum T = (decide (T.length ≤ 9) && !(decide (c = 48) && !decide (T = [48])) && T.all fun d => decide (d ∈ tl sDIG)) := by subst e; rfl
theorem inV_strs {k : Str} {l : List Str} : inV (.str k) (l.map V.str) = decide (k ∈ l) := by
  unfold inV
  rw [List.any_map, Bool.eq_iff_iff, List.any_eq_true, decide_eq_true_iff]
  constructor
  · rintro ⟨y, hy, h⟩
    have h' : (y == k) = true := h
    rw [← eq_of_beq h']; exact hy
  · intro h
    exact ⟨k, h, (beq_self_eq_true k : (k == k) = true)⟩
structure TxtK (K : PySem.W.Frag) (mg : Str → Option Value) : Prop where
  len : mg "len" = none
  all : mg "all" = none
  LETTERS : ∃ t, mg "LETTERS" = some (.str sLET t)
  DIGITS : ∃ t, mg "DIGITS" = some (.str sDIG t)
  RUN : ∃ t, mg "RUN_CHARACTERS" = some (.str sRUN t)
  MOST : ∃ t, mg "MOST_DIGITS" = some (.int 9 t)
  KEY : ∃ a, mg "KEYWORDS" = some (.ref a) ∧ ∀ H, SqT K H a (kwds.map V.str)
  SIG : ∃ a, mg "SIGNS_tokens" = some (.ref a) ∧ ∀ H, SqT K H a (sgns.map V.str)
section
variable {P : Program} {w : World} {K : PySem.W.Frag} {mg : Str → Option Value} {base : Heap}
def spIsWord : Sp := fun vs H Q _ => ∃ T : List Nat, vs = [.str (mk T)] ∧ T ≠ [] ∧ T.length ≤ 50000 ∧ ∀ H', Ex H H' → Q (.bl (isWord T)) H'
theorem all_bl {l : List Nat} {g : Nat → Bool} : (l.map fun c => V.bl (g c)) = (l.map g).map V.bl := by rw [List.map_map]; rfl
theorem sc_is_word : FnScope ["token", "character"] ["token"] (defScope s_is_word) := ⟨rfl, rfl, rfl, by decide +kernel, rfl, by decide +kernel, by decide +kernel⟩
theorem ok_is_word (D : Dfd K mg "is_word" s_is_word ["token"]) (T : TxtK K mg) : Has P w K mg base 1 "is_word" ["token"] spIsWord := by
  obtain ⟨tL, g_LETTERS⟩ := T.LETTERS
  obtain ⟨tR, g_RUN_CHARACTERS⟩ := T.RUN
  refine D.has fun f fd F => F.ok sc_is_word (fun vs H Q E h => ?_) (fun cdv A outer s H vs Q E hr h => ?_)
  · obtain ⟨T, rfl, _⟩ := h
    rfl
  · obtain ⟨T, rfl, hne, hlen, q⟩ := h
    obtain ⟨c, r, rfl⟩ := List.exists_cons_of_ne_nil hne
    have hs : (mk (c :: r)).length ≤ sizeLine := by rw [mk_len]; exact sz_of (by omega)
    refine ⟨_, (pss_one (ps_ret (pe_and (pe_cmpR op_in_sign (pe_ix ix_str (pv 0) pe_int (fun _ _ => rfl)) (gStr rfl g_LETTERS) rfl) (pe_one (pe_callB (cr_all rfl) (by rfl) T.all (by decide +kernel) (pa_cons (pe_lc (own := [("character", 1)]) (g := gName 1) (tt := tYes) rfl sc_is_word.nd (pi_str (pv 0)) (blkOk_by (N := ["token", "character"]) (sc := defScope s_is_word) (own := [("character", 1)]) (by decide +kernel)) (fun _ _ _ _ _ => (pg_name (i := 1) sc_is_word.nd rfl (.inl rfl))) (fun _ _ _ _ _ => pts_nil) (fun _ _ _ _ _ => (pe_cmpR op_in_sign (pv 1) (gStr rfl g_RUN_CHARACTERS) rfl))) pa_nil)))))), ?_⟩
    refine ⟨_, rfl, _, _, c, rfl, rfl, hs, atI_nat (j := 0) rfl, c, sLET, rfl, rfl, _, rfl, ?_⟩
    have key : isWord (c :: r) = (decide (c ∈ tl sLET) && (c :: r).all isRun) := rfl
    cases hc : decide (c ∈ tl sLET) with
    | false =>
      refine iteF ?_
      rw [hc] at key
      have := q H (Ex.refl H)
      rw [key] at this
      exact this
    | true =>
      refine iteT ⟨_, rfl, _, rfl, fun L nL => lcSm (fun d => .bl (isRun d)) (by rw [mk_len]; omega) (fun _ => rfl) (fun i d H1 _ _ Q q => ⟨_, rfl, d, sRUN, rfl, rfl, q⟩) ?_⟩
      refine ⟨L, ((tl (mk (c :: r))).map isRun), rfl, SqL.of ?_, ?_⟩
      · rw [upd_same, all_bl]
      · rw [hc] at key
        have := q _ (Ex.new (o := .lst ((tl (mk (c :: r))).map fun d => V.bl (isRun d))) nL)
        rw [key, Bool.true_and] at this
        have e : ((tl (mk (c :: r))).map isRun).all id = (c :: r).all isRun := by rw [List.all_map]; rfl
        rw [e]
        exact this
def spIsNum : Sp := fun vs H Q _ => ∃ T : List Nat, vs = [.str (mk T)] ∧ T ≠ [] ∧ T.length ≤ 50000 ∧ ∀ H', Ex H H' → Q (.bl (isNum T)) H'
theorem sc_is_numeral : FnScope ["token", "character"] ["token"] (defScope s_is_numeral) := ⟨rfl, rfl, rfl, by decide +kernel, rfl, by decide +kernel, by decide +kernel⟩
theorem ok_is_numeral (D : Dfd K mg "is_numeral" s_is_numeral ["token"]) (T : TxtK K mg) : Has P w K mg base 1 "is_numeral" ["token"] spIsNum := by
  obtain ⟨tL, g_DIGITS⟩ := T.DIGITS
  obtain ⟨tM, g_MOST_DIGITS⟩ := T.MOST
  refine D.has fun f fd F => F.ok sc_is_numeral (fun vs H Q E h => ?_) (fun cdv A outer s H vs Q E hr h => ?_)
  · obtain ⟨T, rfl, _⟩ := h
    rfl
  · obtain ⟨T, rfl, hne, hlen, q⟩ := h
    obtain ⟨c, r, rfl⟩ := List.exists_cons_of_ne_nil hne
    have hs : (mk (c :: r)).length ≤ sizeLine := by rw [mk_len]; exact sz_of (by omega)
    have key : isNum (c :: r) = (decide ((c :: r).length ≤ 9) && !(decide (c = 48) && !decide (c :: r = [48])) && (c :: r).all fun d => decide (d ∈ tl sDIG)) := rfl
    have no : isNum (c :: r) = false → Q (.bl false) H := fun e => by have := q H (Ex.refl H); rw [e] at this; exact this
    refine ⟨_, (pss_cut (ps_if (PW.pt (pw_or (pt_cmpR op_gt (pe_callB call_len_str (by rfl) T.len (by decide +kernel) (pa_cons (pv 0) pa_nil)) (gInt rfl g_MOST_DIGITS) (nomark _)) (pw_or1 (PW.pt (pw_and (pt_cmpR op_eq (pe_ix ix_str (pv 0) pe_int (fun _ _ => rfl)) pe_str (nomark _)) (pw_and1 (pt_cmpR op_ne (pv 0) pe_str (nomark _))))))))
      (pss_one (ps_ret pe_bl))
      pss_nil)
    (pss_one (ps_ret (pe_callB (cr_all rfl) (by rfl) T.all (by decide +kernel) (pa_cons (pe_lc (own := [("character", 1)]) (g := gName 1) (tt := tYes) rfl sc_is_numeral.nd (pi_str (pv 0)) (blkOk_by (N := ["token", "character"]) (sc := defScope s_is_numeral) (own := [("character", 1)]) (by decide +kernel)) (fun _ _ _ _ _ => (pg_name (i := 1) sc_is_numeral.nd rfl (.inl rfl))) (fun _ _ _ _ _ => pts_nil) (fun _ _ _ _ _ => (pe_cmpR op_in_sign (pv 1) (gStr rfl g_DIGITS) rfl))) pa_nil))))), ?_⟩
    refine ⟨fun σ H' => σ = [some (.str (mk (c :: r))), none] ∧ H' = H ∧ (c :: r).length ≤ 9 ∧ (decide (c = 48) && !decide (c :: r = [48])) = false, ?_, ?_⟩
    · refine ⟨_, rfl, _, rfl, hs, _, _, rfl, rfl, _, rfl, ite2 (fun e => ?_) (fun e => ?_)⟩
      · refine iteT (no ?_)
        have h1 := of_decide_eq_true e
        rw [mk_len] at h1
        rw [key, decide_eq_false (by omega)]; rfl
      · have h9 : (c :: r).length ≤ 9 := by
          have : ¬ (9 : Int) < ((mk (c :: r)).length : Int) := fun z => e (decide_eq_true z)
          rw [mk_len] at this; omega
        refine ⟨_, rfl, _, _, c, rfl, rfl, hs, atI_nat (j := 0) rfl, rfl, _, rfl, ?_⟩
        have e48 : decide (V.str (⟨#[c]⟩ : Str) = V.str "0") = decide (c = 48) := by
          show decide (V.str (mk [c]) = V.str (mk [48])) = _
          rw [decV_mk]; by_cases h : c = 48 <;> simp [h]
        rw [e48]
        cases hc : decide (c = 48) with
        | false => exact iteF (iteF ⟨rfl, rfl, h9, rfl⟩)
        | true =>
          refine iteT ⟨_, rfl, rfl, _, rfl, ?_⟩
          have e0 : decide (V.str (mk (c :: r)) = V.str "0") = decide (c :: r = [48]) := decV_mk (c :: r) [48]
          rw [e0]
          cases hd : decide (c :: r = [48]) with
          | true => exact iteF ⟨rfl, rfl, h9, rfl⟩
          | false =>
            refine iteT (no ?_)
            rw [key, hc, hd, decide_eq_true h9]; rfl
    · rintro σ H' ⟨rfl, rfl, h9, hz⟩
      refine ⟨_, rfl, _, rfl, fun L nL => lcSm (fun d => .bl (decide (d ∈ tl sDIG))) (by rw [mk_len]; omega) (fun _ => rfl) (fun i d H1 _ _ Q q => ⟨_, rfl, d, sDIG, rfl, rfl, q⟩) ?_⟩
      refine ⟨L, ((tl (mk (c :: r))).map fun d => decide (d ∈ tl sDIG)), rfl, SqL.of ?_, ?_⟩
      · rw [upd_same, all_bl]
      · have := q _ (Ex.new (o := .lst ((tl (mk (c :: r))).map fun d => V.bl (decide (d ∈ tl sDIG)))) nL)
        rw [key, hz, decide_eq_true h9] at this
        have e : ((tl (mk (c :: r))).map fun d => decide (d ∈ tl sDIG)).all id = (c :: r).all fun d => decide (d ∈ tl sDIG) := by rw [List.all_map]; rfl
        show Q (.bl (((tl (mk (c :: r))).map fun d => decide (d ∈ tl sDIG)).all id)) _
        rw [e]
        exact this
def spIsName : Sp := fun vs H Q _ => ∃ T : List Nat, vs = [.str (mk T)] ∧ T ≠ [] ∧ T.length ≤ 50000 ∧ ∀ H', Ex H H' → Q (.bl (isName T)) H'
theorem sc_is_name : FnScope ["token"] ["token"] (defScope s_is_name) := ⟨rfl, rfl, rfl, by decide +kernel, rfl, by decide +kernel, by decide +kernel⟩
theorem ok_is_name (D : Dfd K mg "is_name" s_is_name ["token"]) (T : TxtK K mg) (C : Has P w K mg base 1 "is_word" ["token"] spIsWord) : Has P w K mg base 2 "is_name" ["token"] spIsName := by
  obtain ⟨aK, g_KEYWORDS, hK⟩ := T.KEY
  obtain ⟨f_is_word, d_is_word, G_is_word, g_is_word, k_is_word, b_is_word⟩ := C
  refine D.has fun f fd F => F.ok sc_is_name (fun vs H Q E h => ?_) (fun cdv A outer s H vs Q E hr h => ?_)
  · obtain ⟨T, rfl, _⟩ := h
    rfl
  · obtain ⟨T, rfl, hne, hlen, q⟩ := h
    refine ⟨_, (pss_one (ps_ret (pe_and (pe_call G_is_word (hr.mono (by omega)) (by rfl) g_is_word k_is_word b_is_word .nil pass0 (pa_cons (pv 0) pa_nil)) (pe_one (pe_cmpR op_notIn_seq (pv 0) (gRef rfl g_KEYWORDS) (by rfl)))))), ?_⟩
    refine ⟨_, rfl, T, rfl, hne, hlen, fun H1 e1 => ⟨_, rfl, ?_⟩⟩
    have := q H1 e1
    unfold isName at this
    cases hw : isWord T with
    | false => rw [hw] at this; exact iteF this
    | true =>
      rw [hw, Bool.true_and] at this
      refine iteT ⟨_, rfl, aK, _, rfl, .inr (hK H1), rfl, flat_map (fun _ => rfl) _, ?_⟩
      show Q (.bl (if true = true then !inV (.str (mk T)) (kwds.map V.str) else inV (.str (mk T)) (kwds.map V.str))) H1
      rw [if_pos rfl, inV_strs]
      exact this
def spRunEnd : Sp := fun vs H Q _ => ∃ (x : Str) (i : Nat), vs = [.str x, .int i] ∧ i ≤ x.length ∧ x.length ≤ 50000 ∧ ∀ e : Nat, RunTo (tl x) i e → Q (.int e) H
theorem sc_run_end : FnScope ["text", "at", "end"] ["text", "at"] (defScope s_run_end) := ⟨rfl, rfl, rfl, by decide +kernel, rfl, by decide +kernel, by decide +kernel⟩
theorem ok_run_end (D : Dfd K mg "_run_end" s_run_end ["text", "at"]) (T : TxtK K mg) : Has P w K mg base 1 "_run_end" ["text", "at"] spRunEnd := by
  obtain ⟨tR, g_RUN_CHARACTERS⟩ := T.RUN
  refine D.has fun f fd F => F.ok sc_run_end (fun vs H Q E h => ?_) (fun cdv A outer s H vs Q E hr h => ?_)
  · obtain ⟨_, _, rfl, _⟩ := h
    rfl
  · obtain ⟨x, i, rfl, hi, hlen, q⟩ := h
    have hs : x.length ≤ sizeLine := sz_of (by omega)
    refine ⟨_, (pss_cons (ps_set (i := 2) sc_run_end.nd rfl (.inl rfl) (pv 1))
    (pss_cons (ps_while PassesOwn.never (PW.pt (pw_and (pt_cmpR op_lt (pv 2) (pe_callB call_len_str (by rfl) T.len (by decide +kernel) (pa_cons (pv 0) pa_nil)) (nomark _)) (pw_and1 (pt_cmpR op_in_sign (pe_ix ix_str (pv 0) (pv 2) (fun _ _ => rfl)) (gStr rfl g_RUN_CHARACTERS) rfl))))
      (pss_one (ps_aug (i := 2) sc_run_end.nd rfl (.inl rfl) pe_int ip_add)))
    (pss_one (ps_ret (pv 2))))), ?_⟩
    refine ⟨_, rfl, fun m σ H' => H' = H ∧ ∃ e : Nat, σ = [some (.str x), some (.int i), some (.int e)] ∧ i ≤ e ∧ e ≤ x.length ∧ m = x.length - e ∧ ∀ k, i ≤ k → k < e → ∀ c, (tl x)[k]? = some c → isRun c = true, ⟨_, rfl, i, rfl, by omega, hi, rfl, fun k h1 h2 => by omega⟩, ?_⟩
    rintro m σ H' ⟨rfl, e, rfl, h1, h2, rfl, h3⟩
    refine ⟨_, rfl, _, rfl, _, rfl, hs, _, _, rfl, rfl, _, rfl, ite2 (fun c1 => ?_) (fun c1 => ?_)⟩
    · have he : e < x.length := by have := of_decide_eq_true c1; omega
      have het : e < (tl x).length := by rw [← len_tl]; exact he
      refine ⟨_, rfl, _, rfl, _, _, (tl x)[e], rfl, rfl, hs, atI_nat (List.getElem?_eq_getElem het), (tl x)[e], sRUN, rfl, rfl, _, rfl, ?_⟩
      cases hc : decide ((tl x)[e] ∈ tl sRUN) with
      | true =>
        refine iteT ⟨fun σ' H'' => H'' = H' ∧ σ' = [some (.str x), some (.int i), some (.int ((e + 1 : Nat) : Int))], ?_, ?_⟩
        · rintro σ' H'' ⟨rfl, rfl⟩
          refine ⟨x.length - (e + 1), by omega, rfl, e + 1, rfl, by omega, by omega, rfl, fun k k1 k2 c hk => ?_⟩
          by_cases ke : k = e
          · subst ke
            rw [List.getElem?_eq_getElem het] at hk
            rw [← Option.some.inj hk]; exact hc
          · exact h3 k k1 (by omega) c hk
        · exact ⟨_, rfl, _, _, rfl, rfl, rfl, rfl⟩
      | false =>
        refine iteF ⟨_, rfl, q e ⟨h1, by rw [← len_tl]; exact h2, h3, fun c hk => ?_⟩⟩
        rw [List.getElem?_eq_getElem het] at hk
        rw [← Option.some.inj hk]; exact hc
    · have he : e = x.length := by
        have : ¬ (e : Int) < (x.length : Int) := fun z => c1 (decide_eq_true z)
        omega
      refine iteF ⟨_, rfl, q e ⟨h1, by rw [← len_tl]; exact h2, h3, fun c hk => ?_⟩⟩
      rw [List.getElem?_eq_none (by rw [← len_tl]; omega)] at hk
      cases hk
end
end G
namespace G
open PySem PySem.Spec PyProof.Rows L2
structure Cl_TokenReader (K : PySem.W.Frag) (mg : Str → Option Value) (C : Addr) : Prop where
  gC : mg "TokenReader" = some (.ref C)
  cl : Cls K C
  m_init : ∃ (f : Addr) (fd : FuncData), Mk K C f ∧ Fun K "__init__" "TokenReader.__init__" s_TokenReader_init f fd ∧ Binds K fd ["self", "tokens"] []
  m_ahead : ∃ (f : Addr) (fd : FuncData), Meth K C "ahead" f ∧ Fun K "ahead" "TokenReader.ahead" s_TokenReader_ahead f fd ∧ Binds K fd ["self"] []
  m_take : ∃ (f : Addr) (fd : FuncData), Meth K C "take" f ∧ Fun K "take" "TokenReader.take" s_TokenReader_take f fd ∧ Binds K fd ["self", "token"] []
  m_take_if : ∃ (f : Addr) (fd : FuncData), Meth K C "take_if" f ∧ Fun K "take_if" "TokenReader.take_if" s_TokenReader_take_if f fd ∧ Binds K fd ["self", "token"] []
  m_take_name : ∃ (f : Addr) (fd : FuncData), Meth K C "take_name" f ∧ Fun K "take_name" "TokenReader.take_name" s_TokenReader_take_name f fd ∧ Binds K fd ["self"] []
  m_take_numeral : ∃ (f : Addr) (fd : FuncData), Meth K C "take_numeral" f ∧ Fun K "take_numeral" "TokenReader.take_numeral" s_TokenReader_take_numeral f fd ∧ Binds K fd ["self"] []
  m_take_bit : ∃ (f : Addr) (fd : FuncData), Meth K C "take_bit" f ∧ Fun K "take_bit" "TokenReader.take_bit" s_TokenReader_take_bit f fd ∧ Binds K fd ["self"] []
  n_tokens : NoAttr K C "tokens"
  n_at : NoAttr K C "at"
end G
namespace G
open PySem PySem.Spec PyProof.Rows L2 Evl TL
section
variable {P : Program} {w : World} {K : PySem.W.Frag} {mg : Str → Option Value} {base : Heap}
def okAt : V → Hp → Prop := fun y _ => ∃ n : Nat, y = .int (n : Int) ∧ n ≤ 50000
theorem own_BadSyntax {C f : Addr} {fd : FuncData} (F : ErrF P K mg "BadSyntax" "BadSyntax.__init__" C f fd s_BadSyntax_init "at") : Own1 P w K mg base "BadSyntax" "at" C f fd okAt := by
  obtain ⟨file, T, hfile⟩ := F.sup
  refine ⟨F.gC, T.oex, T.ini, T.tI, ?_, F.bd⟩
  have SN : NdefX.NScope ["self", "at", "__class__"] ["self", "at"] ["__class__"] (defScope s_BadSyntax_init) := NdefX.nscope_by (by decide +kernel)
  refine SUP.fn_sup (N := ["self", "at", "__class__"]) T hfile F.top rfl SN rfl rfl (by decide +kernel) (by decide +kernel) (fun vs H Q E h => ?_) (fun cda cc A outer s H vs Q E hr h => ?_) _ (hps := by decide)
  · obtain ⟨_, _, rfl, _⟩ := h
    rfl
  · obtain ⟨a, y, rfl, ha, ⟨n, rfl, hn⟩, q⟩ := h
    have em : (Str.ofString (toString ((n : Nat) : Int))) = mk (numL n) := ext_tl (tl_num n)
    have hl := numL_len (n := n) (k := 9) (by decide) (by omega)
    have hg : (n : Int).natAbs.log2 < 1920 := by
      have : (n : Int).natAbs < 2 ^ 30 := by rw [Int.natAbs_natCast]; omega
      have := PySem.Flt.log2_lt_of (by decide : 0 < 30) this
      omega
    refine ⟨_, _, pa_cons (pe_joined (.cons pe_str (.cons (pe_fmt (pe_var (i := 1) rfl (.inl rfl))) .nil))) pa_nil, pss_one (ps_ost (pe_var (i := 0) rfl (.inl rfl)) (pe_var (i := 1) rfl (.inl rfl))), a, rfl, ha, ?_⟩
    refine ⟨_, rfl, by decide, _, rfl, .inr ⟨n, rfl, hg, _, rfl, ?_, (by show 1 ≤ 1000; decide), ha, _, rfl, _, rfl, a, C, rfl, T.oex, F.no, .inl ⟨ha, fun d nd hda => q d nd hda⟩⟩⟩
    rw [em]
    refine sz_of ?_
    rw [Str.length_append, Str.length_append, mk_len]
    show 0 + 48 + _ ≤ _
    omega
end
end G
namespace G
open PySem PySem.Spec PyProof.Rows L2 Evl TL
section
variable {P : Program} {w : World} {K : PySem.W.Frag} {mg : Str → Option Value} {base : Heap}
/-- a comment ends ahead of the next line feed, or with the text -/
def spLineEnd : Sp := fun vs H Q _ => ∃ (x : Str) (i : Nat) (b S : List Nat), vs = [.str x, .int i] ∧ x.length ≤ 50000 ∧ i ≤ x.length ∧ (tl x).drop i = b ++ S ∧ 10 ∉ b ∧ (S = [] ∨ ∃ q, S = 10 :: q) ∧ Q (.int ((i + b.length : Nat) : Int)) H
theorem sc_line_end : FnScope ["text", "at", "end"] ["text", "at"] (defScope s_line_end) := ⟨rfl, rfl, rfl, by decide +kernel, rfl, by decide +kernel, by decide +kernel⟩
theorem ok_line_end (D : Dfd K mg "_line_end" s_line_end ["text", "at"]) (T : TxtK K mg) : Has P w K mg base 1 "_line_end" ["text", "at"] spLineEnd := by
  refine D.has fun f fd F => F.ok sc_line_end (fun vs H Q E h => ?_) (fun cdv A outer s H vs Q E hr h => ?_)
  · obtain ⟨_, _, _, _, rfl, _⟩ := h
    rfl
  · obtain ⟨x, i, b, S, rfl, hlen, hix, hd, hb, hS, q⟩ := h
    have hs : x.length ≤ sizeLine := sz_of (by omega)
    have hl : x.length = i + (b.length + S.length) := by
      have := congrArg List.length hd
      rw [List.length_drop, List.length_append, ← len_tl] at this
      omega
    refine ⟨_, (pss_cons (ps_set (i := 2) sc_line_end.nd rfl (.inl rfl) (pe_bm PySem.F.plainAttrs_str PySem.F.slot_str_find PySem.F.type_str_find mt_find3 (pv 0) (pa_cons pe_str (pa_cons (pv 1) pa_nil))))
    (pss_one (ps_ret (pe_ifExp (pt_cmpR op_lt (pv 2) pe_int (nomark _)) (pe_callB call_len_str (by rfl) T.len (by decide +kernel) (pa_cons (pv 0) pa_nil)) (pv 2))))), ?_⟩
    refine ⟨_, rfl, rfl, _, rfl, x, mk [10], (i : Int), rfl, rfl, ?_⟩
    rcases hS with rfl | ⟨q', rfl⟩
    · rw [find_miss (x := x) (c := 10) (i := i) (by rw [hd, List.append_nil]; exact hb)]
      refine ⟨_, rfl, _, _, rfl, rfl, _, rfl, iteT ⟨_, rfl, x, rfl, hs, ?_⟩⟩
      rw [hl, List.length_nil, Nat.add_zero]
      exact q
    · rw [find_hit (x := x) (c := 10) (i := i) hd hb]
      refine ⟨_, rfl, _, _, rfl, rfl, _, rfl, ite2 (fun e => ?_) (fun e => ⟨_, rfl, q⟩)⟩
      have := of_decide_eq_true e
      omega
end
end G
namespace G
open PySem PySem.Spec PyProof.Rows L2 Evl TL
def strsV (ts : List (List Nat)) : List V := ts.map fun T => V.str (mk T)
theorem strsV_add (a : List (List Nat)) (T : List Nat) : strsV (a ++ [T]) = strsV a ++ [.str (mk T)] := by unfold strsV; rw [List.map_append]; rfl
end G
namespace G
open PySem PySem.Spec PyProof.Rows L2 Evl TL
section
variable {P : Program} {w : World} {K : PySem.W.Frag} {mg : Str → Option Value} {base : Heap}
/-- the token at a place -/
def spTokenAt : Sp := fun vs H Q _ => ∃ (x : Str) (i : Nat) (T S : List Nat), vs = [.str x, .int i] ∧ x.length ≤ 50000 ∧ i ≤ x.length ∧ (tl x).drop i = T ++ S ∧ ((RunTok T ∧ NoRun S) ∨ SgnTok T) ∧ ∀ H', Ex H H' → Q (.str (mk T)) H'
theorem sc_token_at : FnScope ["text", "at", "run", "sign"] ["text", "at"] (defScope s_token_at) := ⟨rfl, rfl, rfl, by decide +kernel, rfl, by decide +kernel, by decide +kernel⟩
theorem ok_token_at (D : Dfd K mg "_token_at" s_token_at ["text", "at"]) (T : TxtK K mg) (C1 : Has P w K mg base 1 "_run_end" ["text", "at"] spRunEnd) (C2 : Has P w K mg base 1 "is_word" ["token"] spIsWord) (C3 : Has P w K mg base 1 "is_numeral" ["token"] spIsNum) :
    Has P w K mg base 2 "_token_at" ["text", "at"] spTokenAt := by
  obtain ⟨f_run_end, d_run_end, G_run_end, g_run_end, k_run_end, b_run_end⟩ := C1
  obtain ⟨f_is_word, d_is_word, G_is_word, g_is_word, k_is_word, b_is_word⟩ := C2
  obtain ⟨f_is_numeral, d_is_numeral, G_is_numeral, g_is_numeral, k_is_numeral, b_is_numeral⟩ := C3
  obtain ⟨aS, g_SIGNS_tokens, hSg⟩ := T.SIG
  refine D.has fun f fd F => F.ok sc_token_at (fun vs H Q E h => ?_) (fun cdv A outer s H vs Q E hr h => ?_)
  · obtain ⟨_, _, _, _, rfl, _⟩ := h
    rfl
  · obtain ⟨x, i, T, S, rfl, hlen, hix, hd, hT, q⟩ := h
    have hs : x.length ≤ sizeLine := sz_of (by omega)
    have hl : x.length = i + (T.length + S.length) := by
      have := congrArg List.length hd
      rw [List.length_drop, List.length_append, ← len_tl] at this
      omega
    refine ⟨_, (pss_cons (ps_set (i := 2) sc_token_at.nd rfl (.inl rfl) (pe_slice sl_str (pv 0) (po_some (pv 1)) (po_some (pe_call G_run_end (hr.mono (by omega)) (by rfl) g_run_end k_run_end b_run_end .nil pass0 (pa_cons (pv 0) (pa_cons (pv 1) pa_nil))))))
    (pss_cut (ps_if (PW.pt (pw_and (pt_truth (pv 2) (by intro _; rfl)) (pw_and1 (PW.pt (pw_or (pt_val (pe_call G_is_word (hr.mono (by omega)) (by rfl) g_is_word k_is_word b_is_word .nil pass0 (pa_cons (pv 2) pa_nil))) (pw_or1 (pt_val (pe_call G_is_numeral (hr.mono (by omega)) (by rfl) g_is_numeral k_is_numeral b_is_numeral .nil pass0 (pa_cons (pv 2) pa_nil)))))))))
      (pss_one (ps_ret (pv 2)))
      pss_nil)
    (pss_cons (ps_for PassesOwn.never rfl (pi_tup (gRef rfl g_SIGNS_tokens)) (pg_name (i := 3) sc_token_at.nd rfl (.inl rfl))
      (pss_one (ps_if (pt_val (pe_bm PySem.F.plainAttrs_str PySem.F.slot_str_startswith PySem.F.type_str_startswith mt_startswith3 (pv 0) (pa_cons (pv 3) (pa_cons (pv 1) pa_nil))))
        (pss_one (ps_ret (pv 3)))
        pss_nil)))
    (pss_one ps_never)))), ?_⟩
    refine ⟨_, rfl, _, rfl, _, rfl, _, rfl, _, rfl, x, i, rfl, hix, hlen, fun e he => ⟨_, rfl, x, rfl, hs, ?_⟩⟩
    have hcut : cutS x (some (i : Int)) (some (e : Int)) = mk (((tl x).drop i).take (e - i)) := cut_nat he.1 (by rw [len_tl]; exact he.2.1)
    rw [hcut]
    rcases hT with ⟨hrun, hS⟩ | hsg
    · -- a run
      have ee := runTo_eq he hd hrun.2.1 hS (by rw [← len_tl]; exact hix)
      have et : ((tl x).drop i).take (e - i) = T := by rw [hd, ee, show i + T.length - i = T.length by omega, List.take_left' rfl]
      rw [et]
      refine ⟨fun _ _ => False, ?_, fun _ _ z => z.elim⟩
      have hTl : T.length ≤ 50000 := by omega
      have h0 : ((mk T).length : Int) != 0 := by
        have : 0 < T.length := List.length_pos_iff.mpr hrun.1
        exact bne_iff_ne.mpr (by rw [mk_len]; omega)
      refine ⟨_, rfl, true, ⟨by rw [mk_len]; exact sz_of (by omega), h0.symm⟩, iteT ⟨_, rfl, T, rfl, hrun.1, hTl, fun H1 e1 => ⟨_, rfl, ?_⟩⟩⟩
      cases hw : isWord T with
      | true => exact iteT (iteT ⟨_, rfl, q H1 e1⟩)
      | false =>
        refine iteF ⟨_, rfl, T, rfl, hrun.1, hTl, fun H2 e2 => ⟨_, rfl, ?_⟩⟩
        have hn : isNum T = true := by
          rcases hrun.2.2 with z | z
          · rw [hw] at z; cases z
          · exact z
        rw [hn]
        exact iteT ⟨_, rfl, q H2 (e1.trans e2)⟩
    · -- a sign
      obtain ⟨hne, hnr, _, _, _, _⟩ := sgn_of hsg
      obtain ⟨c, r, rfl⟩ := List.exists_cons_of_ne_nil hne
      have ee : e = i := by
        by_cases c1 : i < e
        · have hc : (tl x)[i]? = some c := by
            have := List.getElem?_drop (xs := tl x) (i := i) (j := 0)
            rw [hd, Nat.add_zero] at this
            rw [← this]; rfl
          have := he.2.2.1 i (Nat.le_refl _) c1 c hc
          have hnr' : isRun c = false := hnr
          rw [hnr'] at this; cases this
        · have := he.1; omega
      rw [ee, Nat.sub_self, List.take_zero]
      refine ⟨fun σ H' => σ = [some (.str x), some (.int i), some (.str (mk [])), none] ∧ H' = H, ?_, ?_⟩
      · exact ⟨_, rfl, false, ⟨by rw [mk_len]; exact Nat.zero_le _, rfl⟩, iteF (iteF ⟨rfl, rfl⟩)⟩
      · rintro σ H' ⟨rfl, rfl⟩
        refine ⟨aS, rfl, ⟨_, hSg H'⟩, for_tup (K := K) (a := aS) (xs := sgns.map V.str) (fun j σ H2 => H2 = H' ∧ (∀ k, k < j → sgns[k]? ≠ some (mk (c :: r))) ∧ ∃ z : Option V, σ = [some (.str x), some (.int i), some (.str (mk [])), z])
          ⟨rfl, fun k hk => by omega, none, rfl⟩ (fun _ _ H2 _ _ => hSg H2) ?_ ?_⟩
        · rintro j y σ H2 hy ⟨rfl, hno, z, rfl⟩
          rw [List.getElem?_map] at hy
          cases hj : sgns[j]? with
          | none => rw [hj] at hy; cases hy
          | some u =>
            rw [hj] at hy
            have ey : V.str u = y := Option.some.inj hy
            subst ey
            have hu : u ∈ sgns := List.mem_of_getElem? hj
            refine ⟨_, rfl, rfl, _, rfl, _, rfl, x, u, (i : Int), rfl, rfl, _, rfl, ?_⟩
            rw [starts_at (sgn_facts u hu).1, hd]
            by_cases hc : u = mk (c :: r)
            · have hp : pre (tl u) (c :: r ++ S) = true := pre_iff.mpr ⟨S, by rw [hc]; rfl⟩
              rw [hp, hc]
              exact iteT ⟨_, rfl, q H2 (Ex.refl _)⟩
            · have hp : pre (tl u) (c :: r ++ S) = false := by
                cases hq : pre (tl u) (c :: r ++ S) with
                | false => rfl
                | true =>
                  obtain ⟨r2, e2⟩ := pre_iff.mp hq
                  have hsg' : mk (c :: r) ∈ sgns := hsg
                  rcases Nat.le_total (tl u).length (c :: r).length with l1 | l1
                  · have : pre (tl u) (tl (mk (c :: r))) = true := pre_iff.mpr ⟨(c :: r).drop (tl u).length, by
                      have := congrArg (List.take (c :: r).length) e2
                      rw [List.take_left' rfl, List.take_append, List.take_of_length_le l1] at this
                      show c :: r = _
                      have h4 := congrArg (List.drop (tl u).length) this
                      rw [List.drop_left' rfl] at h4
                      rw [h4, ← this]⟩
                    rw [sgn_apart u hu _ hsg' hc] at this; cases this
                  · have : pre (tl (mk (c :: r))) (tl u) = true := pre_iff.mpr ⟨(tl u).drop (c :: r).length, by
                      have := congrArg (List.take (tl u).length) e2.symm
                      rw [List.take_left' rfl, List.take_append, List.take_of_length_le l1] at this
                      have h4 := congrArg (List.drop (c :: r).length) this
                      rw [List.drop_left' rfl] at h4
                      show tl u = c :: r ++ _
                      rw [h4, ← this]⟩
                    rw [sgn_apart _ hsg' u hu (fun z => hc z.symm)] at this; cases this
              rw [hp]
              refine iteF ⟨rfl, fun k hk => ?_, _, rfl⟩
              by_cases ek : k = j
              · subst ek; rw [hj]; exact fun z => hc (Option.some.inj z)
              · exact hno k (by omega)
        · rintro σ H2 ⟨rfl, hno, z, rfl⟩
          have hsg' : mk (c :: r) ∈ sgns := hsg
          obtain ⟨k, hk, he'⟩ := List.getElem_of_mem hsg'
          exact absurd (List.getElem?_eq_some_iff.mpr ⟨hk, he'⟩) (hno k (by rw [List.length_map]; exact hk))
def spTokenize : Sp := fun vs H Q _ => ∃ (x : Str) (ts : List (List Nat)), vs = [.str x] ∧ x.length ≤ 50000 ∧ Lx (tl x) ts ∧ ∀ p H', H p = none → Ex H H' → H' p = some (.lst (strsV ts)) → Q (.ref p) H'
theorem sc_tokenize : FnScope ["text", "tokens", "at", "token"] ["text"] (defScope s_tokenize) := ⟨rfl, rfl, rfl, by decide +kernel, rfl, by decide +kernel, by decide +kernel⟩
theorem ok_tokenize (D : Dfd K mg "tokenize" s_tokenize ["text"]) (T : TxtK K mg) (C1 : Has P w K mg base 1 "_line_end" ["text", "at"] spLineEnd) (C2 : Has P w K mg base 2 "_token_at" ["text", "at"] spTokenAt) : Has P w K mg base 3 "tokenize" ["text"] spTokenize := by
  obtain ⟨f_line_end, d_line_end, G_line_end, g_line_end, k_line_end, b_line_end⟩ := C1
  obtain ⟨f_token_at, d_token_at, G_token_at, g_token_at, k_token_at, b_token_at⟩ := C2
  refine D.has fun f fd F => F.ok sc_tokenize (fun vs H Q E h => ?_) (fun cdv A outer s H vs Q E hr h => ?_)
  · obtain ⟨_, _, rfl, _⟩ := h
    rfl
  · obtain ⟨x, ts, rfl, hlen, hL, q⟩ := h
    have hs : x.length ≤ sizeLine := sz_of (by omega)
    refine ⟨_, (pss_cons (ps_set (i := 1) sc_tokenize.nd rfl (.inl rfl) (pe_lst pa_nil))
    (pss_cons (ps_set (i := 2) sc_tokenize.nd rfl (.inl rfl) pe_int)
    (pss_cons (ps_while PassesOwn.never (pt_cmpR op_lt (pv 2) (pe_callB call_len_str (by rfl) T.len (by decide +kernel) (pa_cons (pv 0) pa_nil)) (nomark _))
      (pss_one (ps_if (PW.pt (pw_or (pt_cmpR op_eq (pe_ix ix_str (pv 0) (pv 2) (fun _ _ => rfl)) pe_str (nomark _)) (pw_or1 (pt_cmpR op_eq (pe_ix ix_str (pv 0) (pv 2) (fun _ _ => rfl)) pe_str (nomark _)))))
        (pss_one (ps_aug (i := 2) sc_tokenize.nd rfl (.inl rfl) pe_int ip_add))
        (pss_one (ps_if (pt_cmpR op_eq (pe_ix ix_str (pv 0) (pv 2) (fun _ _ => rfl)) pe_str (nomark _))
          (pss_one (ps_set (i := 2) sc_tokenize.nd rfl (.inl rfl) (pe_call G_line_end (hr.mono (by omega)) (by rfl) g_line_end k_line_end b_line_end .nil pass0 (pa_cons (pv 0) (pa_cons (pv 2) pa_nil)))))
          (pss_cons (ps_set (i := 3) sc_tokenize.nd rfl (.inl rfl) (pe_call G_token_at (hr.mono (by omega)) (by rfl) g_token_at k_token_at b_token_at .nil pass0 (pa_cons (pv 0) (pa_cons (pv 2) pa_nil))))
          (pss_cons (ps_expr (pe_bm PySem.F.plainAttrs_list PySem.F.slot_list_append PySem.F.type_list_append mt_append (pv 1) (pa_cons (pv 3) pa_nil)))
          (pss_one (ps_aug (i := 2) sc_tokenize.nd rfl (.inl rfl) (pe_callB call_len_str (by rfl) T.len (by decide +kernel) (pa_cons (pv 3) pa_nil)) ip_add)))))))))
    (pss_one (ps_ret (pv 1)))))), ?_⟩
    refine ⟨Nat.zero_le _, fun o no => ⟨fun m σ H' => Ex H H' ∧ ∃ (i : Nat) (S : List Nat) (us rs : List (List Nat)) (z : Option V), i ≤ x.length ∧ (tl x).drop i = S ∧ Lx S rs ∧ us ++ rs = ts ∧ us.length ≤ i ∧ m = x.length - i ∧ H' o = some (.lst (strsV us)) ∧ σ = [some (.str x), some (.ref o), some (.int i), z],
      ⟨_, Ex.new no, 0, tl x, [], ts, none, Nat.zero_le _, rfl, hL, rfl, Nat.le_refl _, rfl, upd_same, rfl⟩, ?_⟩⟩
    rintro m σ H1 ⟨e1, i, S, us, rs, z, hi, hd, hS, hts, hul, rfl, ho, rfl⟩
    have hl : x.length = i + S.length := by
      have := congrArg List.length hd
      rw [List.length_drop, ← len_tl] at this
      omega
    have hc0 : ∀ c r, S = c :: r → (tl x)[i]? = some c := fun c r e => by
      have := List.getElem?_drop (xs := tl x) (i := i) (j := 0)
      rw [hd, e, Nat.add_zero] at this
      rw [← this]; rfl
    have dec1 : ∀ c d : Nat, decide (V.str (⟨#[c]⟩ : Str) = V.str (mk [d])) = decide (c = d) := fun c d => by
      show decide (V.str (mk [c]) = V.str (mk [d])) = _
      rw [decV_mk]; by_cases h : c = d <;> simp [h]
    refine ⟨_, rfl, _, rfl, x, rfl, hs, _, _, rfl, rfl, _, rfl, ?_⟩
    cases hS with
    | nil =>
      rw [List.length_nil, Nat.add_zero] at hl
      rw [decide_eq_false (by omega)]
      refine iteF ⟨_, rfl, q o H1 no e1 ?_⟩
      rw [ho, ← hts, List.append_nil]
    | @sp c S' ts' hc hr' =>
      rw [List.length_cons] at hl
      have hcx := hc0 c S' rfl
      rw [decide_eq_true (by omega)]
      refine iteT ⟨fun σ H' => H' = H1 ∧ σ = [some (.str x), some (.ref o), some (.int ((i + 1 : Nat) : Int)), z], ?_, ?_⟩
      · rintro σ' H' ⟨rfl, rfl⟩
        refine ⟨x.length - (i + 1), by omega, e1, i + 1, S', us, rs, z, by omega, ?_, hr', hts, by omega, rfl, ho, rfl⟩
        rw [← List.drop_drop, hd]; rfl
      · refine ⟨_, rfl, _, rfl, _, _, c, rfl, rfl, hs, atI_nat hcx, rfl, _, rfl, ?_⟩
        have d32 : decide (V.str (⟨#[c]⟩ : Str) = V.str " ") = decide (c = 32) := dec1 c 32
        rw [d32]
        rcases hc with rfl | rfl
        · exact iteT (iteT ⟨_, rfl, _, _, rfl, rfl, rfl, rfl⟩)
        · refine iteF ⟨_, rfl, _, rfl, _, _, 10, rfl, rfl, hs, atI_nat hcx, rfl, _, rfl, ?_⟩
          have d10 : decide (V.str (⟨#[10]⟩ : Str) = V.str "\n") = decide (10 = 10) := dec1 10 10
          rw [d10]
          exact iteT ⟨_, rfl, _, _, rfl, rfl, rfl, rfl⟩
    | @com b S' ts' hb hs' hr' =>
      have hcx := hc0 35 (b ++ S') rfl
      rw [List.cons_append, List.length_cons, List.length_append] at hl
      rw [decide_eq_true (by omega)]
      refine iteT ⟨fun σ H' => H' = H1 ∧ σ = [some (.str x), some (.ref o), some (.int ((i + (35 :: b).length : Nat) : Int)), z], ?_, ?_⟩
      · rintro σ' H' ⟨rfl, rfl⟩
        refine ⟨x.length - (i + (35 :: b).length), by rw [List.length_cons]; omega, e1, i + (35 :: b).length, S', us, rs, z, by rw [List.length_cons]; omega, ?_, hr', hts, by omega, rfl, ho, rfl⟩
        rw [← List.drop_drop, hd, List.drop_left' rfl]
      · refine ⟨_, rfl, _, rfl, _, _, 35, rfl, rfl, hs, atI_nat hcx, rfl, _, rfl, ?_⟩
        have d32 : decide (V.str (⟨#[35]⟩ : Str) = V.str " ") = decide (35 = 32) := dec1 35 32
        rw [d32]
        refine iteF ⟨_, rfl, _, rfl, _, _, 35, rfl, rfl, hs, atI_nat hcx, rfl, _, rfl, ?_⟩
        have d10 : decide (V.str (⟨#[35]⟩ : Str) = V.str "\n") = decide (35 = 10) := dec1 35 10
        rw [d10]
        refine iteF ⟨_, rfl, _, rfl, _, _, 35, rfl, rfl, hs, atI_nat hcx, rfl, _, rfl, ?_⟩
        have d35 : decide (V.str (⟨#[35]⟩ : Str) = V.str "#") = decide (35 = 35) := dec1 35 35
        rw [d35]
        refine iteT ⟨_, rfl, _, rfl, x, i, 35 :: b, S', rfl, hlen, hi, hd, ?_, hs', rfl, rfl⟩
        intro h10
        rcases List.mem_cons.mp h10 with h | h
        · omega
        · exact hb h
    | @run T S' ts' hT hn hr' =>
      obtain ⟨c, r, rfl⟩ := List.exists_cons_of_ne_nil hT.1
      have hcx := hc0 c (r ++ S') rfl
      have hcr : isRun c = true := hT.2.1 c (List.mem_cons_self ..)
      have n32 : c ≠ 32 := fun h => by rw [h, run_not.1] at hcr; cases hcr
      have n10 : c ≠ 10 := fun h => by rw [h, run_not.2.1] at hcr; cases hcr
      have n35 : c ≠ 35 := fun h => by rw [h, run_not.2.2] at hcr; cases hcr
      rw [List.length_append] at hl
      have hpos : 0 < (c :: r).length := Nat.succ_pos _
      rw [decide_eq_true (by omega)]
      refine iteT ⟨fun σ H' => Ex H H' ∧ H' o = some (.lst (strsV (us ++ [c :: r]))) ∧ ∃ z, σ = [some (.str x), some (.ref o), some (.int ((i + (c :: r).length : Nat) : Int)), z], ?_, ?_⟩
      · rintro σ' H' ⟨e2, ho2, z2, rfl⟩
        refine ⟨x.length - (i + (c :: r).length), by omega, e2, i + (c :: r).length, S', us ++ [c :: r], ts', z2, by omega, ?_, hr', by rw [← hts, List.append_assoc]; rfl, by rw [List.length_append]; simp only [List.length_cons, List.length_nil]; omega, rfl, ho2, rfl⟩
        rw [← List.drop_drop, hd, List.drop_left' rfl]
      · refine ⟨_, rfl, _, rfl, _, _, c, rfl, rfl, hs, atI_nat hcx, rfl, _, rfl, ?_⟩
        have d32 : decide (V.str (⟨#[c]⟩ : Str) = V.str " ") = false := (dec1 c 32).trans (decide_eq_false n32)
        have d10 : decide (V.str (⟨#[c]⟩ : Str) = V.str "\n") = false := (dec1 c 10).trans (decide_eq_false n10)
        have d35 : decide (V.str (⟨#[c]⟩ : Str) = V.str "#") = false := (dec1 c 35).trans (decide_eq_false n35)
        rw [d32]
        refine iteF ⟨_, rfl, _, rfl, _, _, c, rfl, rfl, hs, atI_nat hcx, rfl, _, rfl, ?_⟩
        rw [d10]
        refine iteF ⟨_, rfl, _, rfl, _, _, c, rfl, rfl, hs, atI_nat hcx, rfl, _, rfl, ?_⟩
        rw [d35]
        refine iteF ⟨_, rfl, _, rfl, x, i, c :: r, S', rfl, hlen, hi, hd, .inl ⟨hT, hn⟩, fun H2 e2 => ?_⟩
        have ho2 := e2 _ _ ho
        refine ⟨_, rfl, .inl ⟨rfl, _, SqL.of ho2⟩, _, rfl, o, _, _, rfl, rfl, ho2, ?_, ?_⟩
        · exact sz_lt (by unfold strsV; rw [List.length_map]; omega)
        · refine ⟨_, rfl, _, rfl, _, rfl, ?_, _, _, rfl, rfl, (e1.trans e2).mut no, ?_, some (.str (mk (c :: r))), ?_⟩
          · rw [mk_len]; exact sz_of (by omega)
          · rw [upd_same, strsV_add]
          · rw [mk_len]; rfl
    | @sgn T S' ts' hT hr' =>
      obtain ⟨hne, hnr, n32, n10, n35, h2⟩ := sgn_of hT
      obtain ⟨c, r, rfl⟩ := List.exists_cons_of_ne_nil hne
      have hcx := hc0 c (r ++ S') rfl
      rw [List.length_append] at hl
      have hpos : 0 < (c :: r).length := Nat.succ_pos _
      rw [decide_eq_true (by omega)]
      refine iteT ⟨fun σ H' => Ex H H' ∧ H' o = some (.lst (strsV (us ++ [c :: r]))) ∧ ∃ z, σ = [some (.str x), some (.ref o), some (.int ((i + (c :: r).length : Nat) : Int)), z], ?_, ?_⟩
      · rintro σ' H' ⟨e2, ho2, z2, rfl⟩
        refine ⟨x.length - (i + (c :: r).length), by omega, e2, i + (c :: r).length, S', us ++ [c :: r], ts', z2, by omega, ?_, hr', by rw [← hts, List.append_assoc]; rfl, by rw [List.length_append]; simp only [List.length_cons, List.length_nil]; omega, rfl, ho2, rfl⟩
        rw [← List.drop_drop, hd, List.drop_left' rfl]
      · refine ⟨_, rfl, _, rfl, _, _, c, rfl, rfl, hs, atI_nat hcx, rfl, _, rfl, ?_⟩
        have d32 : decide (V.str (⟨#[c]⟩ : Str) = V.str " ") = false := (dec1 c 32).trans (decide_eq_false n32)
        have d10 : decide (V.str (⟨#[c]⟩ : Str) = V.str "\n") = false := (dec1 c 10).trans (decide_eq_false n10)
        have d35 : decide (V.str (⟨#[c]⟩ : Str) = V.str "#") = false := (dec1 c 35).trans (decide_eq_false n35)
        rw [d32]
        refine iteF ⟨_, rfl, _, rfl, _, _, c, rfl, rfl, hs, atI_nat hcx, rfl, _, rfl, ?_⟩
        rw [d10]
        refine iteF ⟨_, rfl, _, rfl, _, _, c, rfl, rfl, hs, atI_nat hcx, rfl, _, rfl, ?_⟩
        rw [d35]
        refine iteF ⟨_, rfl, _, rfl, x, i, c :: r, S', rfl, hlen, hi, hd, .inr hT, fun H2 e2 => ?_⟩
        have ho2 := e2 _ _ ho
        refine ⟨_, rfl, .inl ⟨rfl, _, SqL.of ho2⟩, _, rfl, o, _, _, rfl, rfl, ho2, ?_, ?_⟩
        · exact sz_lt (by unfold strsV; rw [List.length_map]; omega)
        · refine ⟨_, rfl, _, rfl, _, rfl, ?_, _, _, rfl, rfl, (e1.trans e2).mut no, ?_, some (.str (mk (c :: r))), ?_⟩
          · rw [mk_len]; exact sz_of (by omega)
          · rw [upd_same, strsV_add]
          · rw [mk_len]; rfl
end
end G
namespace G
open PySem PySem.Spec PyProof.Rows L2 Evl
/-! the trees of expressions -/
inductive Op where | and | xor | or
def Op.s : Op → Str | .and => "and" | .xor => "xor" | .or => "or"
def Op.f : Op → Bool → Bool → Bool | .and => Bool.and | .xor => bne | .or => Bool.or
inductive Tr where
  | name (x : Str) | const (b : Bool) | neg (t : Tr) | bin (o : Op) (l r : Tr)
theorem Op.ne (o : Op) : o.s ≠ "name" ∧ o.s ≠ "const" ∧ o.s ≠ "not" := by cases o <;> decide +kernel
theorem tagNe : (("const" : Str) ≠ "name") ∧ (("not" : Str) ≠ "name") ∧ (("not" : Str) ≠ "const") := by decide +kernel
def Tr.parts : Tr → List Tr | .neg t => [t] | .bin _ l r => [l, r] | _ => []
def Tr.post : Tr → List Tr
  | .neg t => t.post ++ [.neg t]
  | .bin o l r => l.post ++ r.post ++ [.bin o l r]
  | .name x => [.name x]
  | .const b => [.const b]
theorem Tr.post_eq (t : Tr) : t.post = t.parts.flatMap Tr.post ++ [t] := by
  cases t with
  | neg t => simp [Tr.post, Tr.parts]
  | bin o l r => simp [Tr.post, Tr.parts]
  | name x => rfl
  | const b => rfl
def Tr.ev (f : Str → Bool) : Tr → Bool
  | .name x => f x
  | .const b => b
  | .neg t => !t.ev f
  | .bin o l r => o.f (l.ev f) (r.ev f)
/-- the value at the head of a written tree -/
def Tr.tag : Tr → Str | .name _ => "name" | .const _ => "const" | .neg _ => "not" | .bin o _ _ => o.s
def TreeAt (K : PySem.W.Frag) (H : Hp) : V → Tr → Prop
  | v, .name x => ∃ a, v = .ref a ∧ SqT K H a [.str "name", .str x]
  | v, .const b => ∃ a, v = .ref a ∧ SqT K H a [.str "const", .bl b]
  | v, .neg t => ∃ a x, v = .ref a ∧ SqT K H a [.str "not", x] ∧ TreeAt K H x t
  | v, .bin o l r => ∃ a x y, v = .ref a ∧ SqT K H a [.str o.s, x, y] ∧ TreeAt K H x l ∧ TreeAt K H y r
theorem TreeAt.ex {K : PySem.W.Frag} {H H' : Hp} (e : Ex H H') : ∀ {v : V} {t : Tr}, TreeAt K H v t → TreeAt K H' v t
  | v, .name x, ⟨a, h1, h2⟩ => ⟨a, h1, ex_t e h2⟩
  | v, .const b, ⟨a, h1, h2⟩ => ⟨a, h1, ex_t e h2⟩
  | v, .neg t, ⟨a, x, h1, h2, h3⟩ => ⟨a, x, h1, ex_t e h2, h3.ex e⟩
  | v, .bin o l r, ⟨a, x, y, h1, h2, h3, h4⟩ => ⟨a, x, y, h1, ex_t e h2, h3.ex e, h4.ex e⟩
/-- what stands at a tree: its tag, its parts -/
def Ins (K : PySem.W.Frag) (H : Hp) (zs : List V) : Tr → Prop
  | .name x => zs = [.str x]
  | .const b => zs = [.bl b]
  | .neg t => All2 (TreeAt K H) zs [t]
  | .bin _ l r => All2 (TreeAt K H) zs [l, r]
theorem TreeAt.seq {K : PySem.W.Frag} {H : Hp} {v : V} {t : Tr} (h : TreeAt K H v t) : ∃ a zs, v = .ref a ∧ SqT K H a (.str t.tag :: zs) ∧ Ins K H zs t := by
  cases t with
  | name x => obtain ⟨a, h1, h2⟩ := h; exact ⟨a, _, h1, h2, rfl⟩
  | const b => obtain ⟨a, h1, h2⟩ := h; exact ⟨a, _, h1, h2, rfl⟩
  | neg t => obtain ⟨a, x, h1, h2, h3⟩ := h; exact ⟨a, [x], h1, h2, All2.nil.snoc h3⟩
  | bin o l r => obtain ⟨a, x, y, h1, h2, h3, h4⟩ := h; exact ⟨a, [x, y], h1, h2, (All2.nil.snoc h3).snoc h4⟩
/-! columns as numbers: the bit r is that of the row r -/
def colN (f : Nat → Bool) : Nat → Nat
  | 0 => 0
  | n + 1 => colN f n + if f n then 2 ^ n else 0
theorem colN_lt (f : Nat → Bool) : ∀ n, colN f n < 2 ^ n
  | 0 => by show 0 < 1; decide
  | n + 1 => by
    have h := colN_lt f n
    show colN f n + _ < 2 ^ (n + 1)
    rw [Nat.pow_succ]
    split <;> omega
theorem colN_bit (f : Nat → Bool) : ∀ n r, (colN f n).testBit r = (decide (r < n) && f r)
  | 0, r => by show (0 : Nat).testBit r = _; simp
  | n + 1, r => by
    have h := colN_lt f n
    show (colN f n + if f n then 2 ^ n else 0).testBit r = _
    by_cases hf : f n = true
    · rw [if_pos hf, Nat.add_comm]
      rcases Nat.lt_trichotomy r n with q | q | q
      · rw [Nat.testBit_two_pow_add_gt q, colN_bit f n r, decide_eq_true q, decide_eq_true (by omega : r < n + 1)]
      · subst q
        rw [Nat.testBit_two_pow_add_eq, colN_bit f r r, hf]; simp
      · rw [Nat.testBit_lt_two_pow (Nat.lt_of_lt_of_le (by rw [Nat.pow_succ]; omega : 2 ^ n + colN f n < 2 ^ (n + 1)) (Nat.pow_le_pow_right (by decide) q)), decide_eq_false (by omega : ¬ r < n + 1)]; rfl
    · rw [if_neg hf, Nat.add_zero, colN_bit f n r]
      by_cases q : r = n
      · subst q; simp [hf]
      · have : decide (r < n + 1) = decide (r < n) := by
          by_cases z : r < n
          · rw [decide_eq_true z, decide_eq_true (by omega)]
          · rw [decide_eq_false z, decide_eq_false (by omega)]
        rw [this]
theorem colN_op (n : Nat) (f g : Nat → Bool) : (colN f n &&& colN g n = colN (fun r => f r && g r) n) ∧ (colN f n ||| colN g n = colN (fun r => f r || g r) n) ∧ (colN f n ^^^ colN g n = colN (fun r => f r != g r) n) := by
  refine ⟨Nat.eq_of_testBit_eq fun r => ?_, Nat.eq_of_testBit_eq fun r => ?_, Nat.eq_of_testBit_eq fun r => ?_⟩
  · rw [Nat.testBit_and, colN_bit, colN_bit, colN_bit]; cases decide (r < n) <;> simp
  · rw [Nat.testBit_or, colN_bit, colN_bit, colN_bit]; cases decide (r < n) <;> simp
  · rw [Nat.testBit_xor, colN_bit, colN_bit, colN_bit]; cases decide (r < n) <;> simp
theorem colN_one (n : Nat) : colN (fun _ => true) n = 2 ^ n - 1 := by
  refine Nat.eq_of_testBit_eq fun r => ?_
  rw [colN_bit, Nat.testBit_two_pow_sub_one]; simp
theorem colN_zero (n : Nat) : colN (fun _ => false) n = 0 := by
  refine Nat.eq_of_testBit_eq fun r => ?_
  rw [colN_bit]; simp
theorem colN_congr {f g : Nat → Bool} : ∀ n, (∀ r, r < n → f r = g r) → colN f n = colN g n
  | 0, _ => rfl
  | n + 1, h => by
    show colN f n + _ = colN g n + _
    rw [colN_congr n fun r hr => h r (by omega), h n (by omega)]
/-! the stack of the columns -/
def Good (g : Tr) : List Tr → List Tr → Prop
  | S, [] => S = [g]
  | S, τ :: l => ∃ S', S = S' ++ τ.parts ∧ Good g (S' ++ [τ]) l
theorem good_post (g : Tr) : ∀ (t : Tr) (S l : List Tr), Good g (S ++ [t]) l → Good g S (t.post ++ l)
  | .name x, S, l, h => ⟨S, by simp [Tr.parts], h⟩
  | .const b, S, l, h => ⟨S, by simp [Tr.parts], h⟩
  | .neg t, S, l, h => by
    show Good g S (t.post ++ [Tr.neg t] ++ l)
    rw [List.append_assoc]
    exact good_post g t S _ ⟨S, rfl, h⟩
  | .bin o a b, S, l, h => by
    show Good g S (a.post ++ b.post ++ [Tr.bin o a b] ++ l)
    rw [List.append_assoc, List.append_assoc]
    exact good_post g a S _ (good_post g b _ _ ⟨S, by simp [Tr.parts], h⟩)
theorem good_all (t : Tr) : Good t [] t.post := by
  have := good_post t t [] [] rfl
  rw [List.append_nil] at this
  exact this
def asg (ns : List Str) (r : Nat) : Str → Bool := fun x => r.testBit (ns.idxOf x)
def maskN (ns : List Str) (n : Nat) (t : Tr) : Nat := colN (fun r => t.ev (asg ns r)) n
end G
namespace G
open PySem PySem.Spec PyProof.Rows L2 Evl
structure TxtE (mg : Str → Option Value) : Prop where
  len : mg "len" = none
  range : mg "range" = none
  enumerate : mg "enumerate" = none
  sum : mg "sum" = none
  tuple : mg "tuple" = none
  set : mg "set" = none
  sorted : mg "sorted" = none
section
open AutoSeq1 (wpAny_loadPart')
theorem ext_tup (l : Addr) (items : Array Value) (n : Nat) (b : Addr) (items2 : Array Value) (n2 : Nat) (dd : Option Addr) (sl : Array (Option Value)) (h0 : ¬(!items.isEmpty && Builtin.List.listTooLong (items.size + items2.size)) = true) (h1 : items.size ≤ sizeLine) (h2 : items.size + items2.size ≤ sizeLine + 1) :
    Meets (Builtin.«list.extend» ⟨[.ref l, .ref b], []⟩) (fun _ R s => s.heap.get? l = some { cls := .type "list", dict := none, data := .seq items n, slots := #[] } ∧ s.heap.get? b = some { cls := .type "tuple", dict := dd, data := .seq items2 n2, slots := sl } ∧ R (.ok (.ret Value.none)) { s with heap := s.heap.update l (Obj.mapSeq fun x => x ++ items2), toks := s.toks }) :=
  .of_wp fun prog w A R s h => by
    obtain ⟨hp, g, d, tk, os⟩ := s; obtain ⟨hl, hb, h⟩ := h; have f1 := AutoSeq1.idx_int; have f2 := AutoSeq1.sub_tuple_tuple; have f3 := AutoSeq1.sub_list_list; have f4 := AutoSeq1.sub_tuple_list; have f5 := AutoSeq1.sub_list_tuple
    have hz : (items ++ items2).size ≤ sizeLine + 1 := by rw [Array.size_append]; exact h2
    wp_walk using (wpAny_updateSeq hl rfl (hz := h1) (_hz' := hz)), wpAny_loadPart' hl, wpAny_loadPart' hb; exact ⟨_, rfl, h⟩
end
section
variable {X : Cx}
/-- list.extend by a tuple -/
def rExtT (K : PySem.W.Frag) : V → List V → Hp → VK → Prop := fun x vs H Q => ∃ l b xs zs, x = .ref l ∧ vs = [.ref b] ∧ H l = some (.lst xs) ∧ SqT K H b zs ∧ xs.length + zs.length ≤ sizeLine ∧ Q .non (upd H l (.lst (xs ++ zs)))
theorem mt_extT : MtM X "list.extend" (rExtT X.K) := by
  intro pins s σ H x vs v us Q I rx rv h
  obtain ⟨l, b, xs, zs, rfl, rfl, hH, hB, hz, q⟩ := h
  cases rx
  obtain ⟨u, rfl, ru⟩ := rv.one
  cases ru
  obtain ⟨z, its, n, r, hl, e⟩ := I.lstM hH
  obtain ⟨its2, r2, ⟨⟨oc, od, oda, os⟩, ho, hcl, n2, hda⟩, hz2⟩ := I.tuple hB
  simp only at hcl hda
  subst hcl; subst hda
  have l2 : its2.length = zs.length := r2.length.symm
  have hsz : its.toArray.size + its2.length ≤ sizeLine := by rw [List.size_toArray, l2, ← hl]; exact hz
  have hlong : ¬ (!its.toArray.isEmpty && Builtin.List.listTooLong (its.toArray.size + its2.toArray.size)) = true := by
    rw [List.size_toArray (as := its2), notLongL hsz, Bool.and_false]
    exact Bool.false_ne_true
  refine call_meets F.slot_list_extend ⟨_, e, rfl⟩ F.entry_list_extend (F.args_list_extend_2 _ _)
    (ext_tup l its.toArray n b its2.toArray n2 od os hlong (by omega) (by rw [List.size_toArray (as := its2)]; omega)) ⟨e, ho, ?_⟩
  refine ⟨.non, _, I.lset (its' := its ++ its2) hH e (by simp) (r.append r2) ?_, rfl, q⟩
  rw [List.length_append]
  rw [List.size_toArray] at hsz
  omega
end
section
variable {P : Program} {w : World} {K : PySem.W.Frag} {mg : Str → Option Value} {base : Heap}
def spOps : Sp := fun vs H Q _ => ∃ (v : V) (t : Tr) (H0 : Hp), vs = [v] ∧ Ex H0 H ∧ TreeAt K H0 v t ∧ ∀ (p : Addr) (zs : List V) (H' : Hp), Ex H H' → SqT K H' p zs → All2 (TreeAt K H0) zs t.parts → Q (.ref p) H'
theorem sc_operands : FnScope ["tree"] ["tree"] (defScope s_operands) := ⟨rfl, rfl, rfl, by decide +kernel, rfl, by decide +kernel, by decide +kernel⟩
theorem ok_operands (D : Dfd K mg "operands" s_operands ["tree"]) : Has P w K mg base 1 "operands" ["tree"] (spOps (K := K)) := by
  refine D.has fun f fd F => F.ok sc_operands (fun vs H Q E h => ?_) (fun cdv A outer s H vs Q E hr h => ?_)
  · obtain ⟨v, t, H0, rfl, _⟩ := h
    rfl
  · obtain ⟨v, t, H0, rfl, E0, ht, q⟩ := h
    refine ⟨_, (pss_cons (ps_if (PW.pt (pw_or (pt_cmpR op_eq (pe_ix ix_tup (pv 0) pe_int (fun _ _ => rfl)) pe_str (nomark _)) (pw_or1 (pt_cmpR op_eq (pe_ix ix_tup (pv 0) pe_int (fun _ _ => rfl)) pe_str (nomark _)))))
      (pss_one (ps_ret (pe_tup pa_nil)))
      pss_nil)
    (pss_one (ps_ret (pe_slice sl_tupA (pv 0) (po_some pe_int) po_none)))), ?_⟩
    obtain ⟨a, zs, rfl, hs0, hz⟩ := ht.seq
    have hs := ex_t E0 hs0
    have n1 : (V.str t.tag :: zs)[0]? = some (V.str t.tag) := rfl
    refine ⟨_, rfl, _, _, _, _, rfl, rfl, hs, atI_nat (j := 0) n1, rfl, _, rfl, ?_⟩
    have done : (t.tag = "name" ∨ t.tag = "const") → ∀ p, H p = none → Q (.ref p) (upd H p (.tup [])) := fun c p np => by
      refine q p [] _ (Ex.new np) (SqT.of upd_same) ?_
      cases t with
      | name x => exact All2.nil
      | const b => exact All2.nil
      | neg t => exact absurd c (by show ¬ ((("not" : Str) = "name") ∨ (("not" : Str) = "const")); decide +kernel)
      | bin o l r => exact absurd c (fun z => z.elim o.ne.1 o.ne.2.1)
    refine ite2 (fun c1 => ?_) (fun c1 => ?_)
    · refine ⟨(by show 0 ≤ sizeLine; decide), fun p np => done (.inl ?_) p np⟩
      exact V.str.inj (of_decide_eq_true c1)
    refine ⟨_, rfl, _, _, _, _, rfl, rfl, hs, atI_nat (j := 0) n1, rfl, _, rfl, ite2 (fun c2 => ?_) (fun c2 => ?_)⟩
    · refine ⟨(by show 0 ≤ sizeLine; decide), fun p np => done (.inr ?_) p np⟩
      exact V.str.inj (of_decide_eq_true c2)
    have hz' : All2 (TreeAt K H0) zs t.parts := by
      cases t with
      | name x => exact absurd (decide_eq_true rfl) c1
      | const b => exact absurd (decide_eq_true rfl) c2
      | neg t => exact hz
      | bin o l r => exact hz
    refine ⟨_, rfl, _, rfl, a, _, rfl, hs, fun z => ?_, fun _ p np => ?_⟩
    · have := z.1
      unfold HT.sIx at this
      simp at this
    · refine q p zs _ (Ex.new np) (SqT.of (upd_same.trans ?_)) hz'
      have e : cutV (V.str t.tag :: zs) (some 1) none = zs := by
        unfold cutV HT.sIx
        simp
      rw [e]
def spPost : Sp := fun vs H Q _ => ∃ (v : V) (t : Tr) (H0 : Hp), vs = [v] ∧ Ex H0 H ∧ TreeAt K H0 v t ∧ t.post.length ≤ 10000 ∧ ∀ (p : Addr) (zs : List V) (H' : Hp), Ex H H' → H p = none → H' p = some (.lst zs) → All2 (TreeAt K H0) zs t.post → Q (.ref p) H'
theorem sc_postorder : FnScope ["tree", "found", "waiting", "part"] ["tree"] (defScope s_postorder) := ⟨rfl, rfl, rfl, by decide +kernel, rfl, by decide +kernel, by decide +kernel⟩
theorem ok_postorder (D : Dfd K mg "postorder" s_postorder ["tree"]) (C1 : Has P w K mg base 1 "operands" ["tree"] (spOps (K := K))) : Has P w K mg base 2 "postorder" ["tree"] (spPost (K := K)) := by
  obtain ⟨f_operands, d_operands, G_operands, g_operands, k_operands, b_operands⟩ := C1
  refine D.has fun f fd F => F.ok sc_postorder (fun vs H Q E h => ?_) (fun cdv A outer s H vs Q E hr h => ?_)
  · obtain ⟨v, t, H0, rfl, _⟩ := h
    rfl
  · obtain ⟨v, t, H0, rfl, E0, ht, hn, q⟩ := h
    refine ⟨_, (pss_cons (ps_set (i := 1) sc_postorder.nd rfl (.inl rfl) (pe_lst pa_nil))
    (pss_cons (ps_set (i := 2) sc_postorder.nd rfl (.inl rfl) (pe_lst (pa_cons (pv 0) pa_nil)))
    (pss_cons (ps_while PassesOwn.never (pt_truth (pv 2) (by intro _; rfl))
      (pss_cons (ps_set (i := 3) sc_postorder.nd rfl (.inl rfl) (pe_bm0 PySem.F.plainAttrs_list PySem.F.slot_list_pop PySem.F.type_list_pop mt_pop (pv 2)))
      (pss_cons (ps_expr (pe_bm PySem.F.plainAttrs_list PySem.F.slot_list_append PySem.F.type_list_append mt_append (pv 1) (pa_cons (pv 3) pa_nil)))
      (pss_one (ps_expr (pe_bm PySem.F.plainAttrs_list PySem.F.slot_list_extend PySem.F.type_list_extend mt_extT (pv 2) (pa_cons (pe_call G_operands (hr.mono (by omega)) (by rfl) g_operands k_operands b_operands .nil pass0 (pa_cons (pv 3) pa_nil)) pa_nil)))))))
    (pss_one (ps_ret (pe_revL (pv 1))))))), ?_⟩
    have hv0 := ht
    refine ⟨(by show 0 ≤ sizeLine; decide), fun L1 n1 => ⟨_, rfl, (by show 1 ≤ sizeLine; decide), fun L2 n2 => ?_⟩⟩
    have E1 : Ex H (upd H L1 (.lst [])) := Ex.new n1
    have h1 : upd H L1 (.lst []) L1 = some (.lst []) := upd_same
    generalize upd H L1 (.lst []) = H1 at *
    have E2 : Ex H (upd H1 L2 (.lst [v])) := E1.mut (fresh_back E1 n2)
    have ne : L1 ≠ L2 := ne_of_none h1 n2
    refine ⟨fun m σ H' => Ex H H' ∧ ∃ (fs ws : List V) (F W : List Tr) (z : Option V), H' L1 = some (.lst fs) ∧ H' L2 = some (.lst ws) ∧ All2 (TreeAt K H0) fs F ∧ All2 (TreeAt K H0) ws W ∧ F ++ (W.flatMap Tr.post).reverse = t.post.reverse ∧ (W.flatMap Tr.post).length = m ∧ σ = [some v, some (.ref L1), some (.ref L2), z],
      ⟨t.post.length, E2, [], [v], [], [t], none, (upd_ne ne).trans h1, upd_same, .nil, All2.nil.snoc ht, by simp, by simp, rfl⟩, ?_⟩
    rintro m σ H2 ⟨E3, fs, ws, F, W, z, hF, hW, aF, aW, hI, hm, rfl⟩
    refine ⟨_, rfl, !ws.isEmpty, .inl ⟨_, SqL.of hW, rfl⟩, ite2 (fun c1 => ?_) (fun c1 => ?_)⟩
    · obtain ⟨ws', x, rfl⟩ : ∃ ws' x, ws = ws' ++ [x] := by
        rcases List.eq_nil_or_concat ws with rfl | ⟨L, b, rfl⟩
        · cases c1
        · exact ⟨L, b, List.concat_eq_append⟩
      obtain ⟨W', τ, rfl⟩ : ∃ W' τ, W = W' ++ [τ] := by
        rcases List.eq_nil_or_concat W with rfl | ⟨L, b, rfl⟩
        · have := aW.1; rw [List.length_append] at this; cases this
        · exact ⟨L, b, List.concat_eq_append⟩
      have hl : ws'.length = W'.length := by have := aW.1; rw [List.length_append, List.length_append] at this; exact Nat.succ.inj this
      have hx : TreeAt K H0 x τ := aW.2 ws'.length x τ (by rw [List.getElem?_append_right (Nat.le_refl _), Nat.sub_self]; rfl) (by rw [hl, List.getElem?_append_right (Nat.le_refl _), Nat.sub_self]; rfl)
      have aW' : All2 (TreeAt K H0) ws' W' := ⟨hl, fun i a b ha hb => aW.2 i a b (by rw [List.getElem?_append_left (List.getElem?_eq_some_iff.mp ha).1]; exact ha) (by rw [List.getElem?_append_left (List.getElem?_eq_some_iff.mp hb).1]; exact hb)⟩
      have eW : ((W' ++ [τ]).flatMap Tr.post).reverse = τ :: ((τ.parts.flatMap Tr.post).reverse ++ (W'.flatMap Tr.post).reverse) := by
        rw [List.flatMap_append, List.flatMap_singleton, τ.post_eq]; simp
      have eL : ((W' ++ [τ]).flatMap Tr.post).length = ((W' ++ τ.parts).flatMap Tr.post).length + 1 := by
        rw [List.flatMap_append, List.flatMap_append, List.flatMap_singleton, τ.post_eq]; simp; omega
      refine ⟨fun σ' H' => Ex H H' ∧ ∃ (fs ws : List V) (F W : List Tr) (z : Option V), H' L1 = some (.lst fs) ∧ H' L2 = some (.lst ws) ∧ All2 (TreeAt K H0) fs F ∧ All2 (TreeAt K H0) ws W ∧ F ++ (W.flatMap Tr.post).reverse = t.post.reverse ∧ (W.flatMap Tr.post).length < m ∧ σ' = [some v, some (.ref L1), some (.ref L2), z], ?_, ?_⟩
      · rintro σ' H' ⟨b1, b2, b3, b4, b5, b6, b7, b8, b9, b10, b11, b12, b13⟩
        exact ⟨_, b12, b1, b2, b3, b4, b5, b6, b7, b8, b9, b10, b11, rfl, b13⟩
      have n10 : H L1 = none := n1
      have n20 : H L2 = none := fresh_back E1 n2
      refine ⟨_, rfl, .inl ⟨rfl, _, SqL.of hW⟩, L2, _, x, rfl, rfl, hW, by simp, ?_⟩
      have E4 : Ex H (upd H2 L2 (.lst (ws' ++ [x]).dropLast)) := E3.mut n20
      have hW4 : upd H2 L2 (.lst (ws' ++ [x]).dropLast) L2 = some (.lst ws') := by rw [upd_same, List.dropLast_concat]
      have hF4 : upd H2 L2 (.lst (ws' ++ [x]).dropLast) L1 = some (.lst fs) := (upd_ne ne).trans hF
      generalize upd H2 L2 (.lst (ws' ++ [x]).dropLast) = H4 at *
      have hpos : ∀ l : List Tr, l.length ≤ (l.flatMap Tr.post).length := fun l => by
        induction l with
        | nil => exact Nat.le_refl _
        | cons a l ih => rw [List.flatMap_cons, List.length_append, List.length_cons, a.post_eq, List.length_append, List.length_singleton]; omega
      have hsz : F.length + (W' ++ τ.parts).length + 1 ≤ 10000 := by
        have h1 := congrArg List.length hI
        rw [List.length_append, List.length_reverse, List.length_reverse, eL] at h1
        have := hpos (W' ++ τ.parts)
        omega
      refine ⟨_, rfl, .inl ⟨rfl, _, SqL.of hF4⟩, _, rfl, L1, _, _, rfl, rfl, hF4, sz_lt (by rw [aF.1]; omega), ?_⟩
      have E5 : Ex H (upd H4 L1 (.lst (fs ++ [x]))) := E4.mut n10
      have hF5 : upd H4 L1 (.lst (fs ++ [x])) L1 = some (.lst (fs ++ [x])) := upd_same
      have hW5 : upd H4 L1 (.lst (fs ++ [x])) L2 = some (.lst ws') := (upd_ne ne.symm).trans hW4
      generalize upd H4 L1 (.lst (fs ++ [x])) = H5 at *
      refine ⟨_, rfl, .inl ⟨rfl, _, SqL.of hW5⟩, _, rfl, x, τ, H0, rfl, E0.trans E5, hx, fun p zs H6 E6 hp aZ => ?_⟩
      refine ⟨L2, p, _, zs, rfl, rfl, E6 _ _ hW5, hp, ?_, ?_⟩
      · rw [List.length_append] at hsz
        rw [hl, aZ.1]
        exact sz_of (by omega)
      · refine ⟨(E5.trans E6).mut n20, fs ++ [x], ws' ++ zs, F ++ [τ], W' ++ τ.parts, _, (upd_ne ne).trans (E6 _ _ hF5), upd_same, aF.snoc hx, ?_, ?_, by omega, rfl⟩
        · refine ⟨by rw [List.length_append, List.length_append, hl, aZ.1], fun i a b ha hb => ?_⟩
          by_cases hi : i < ws'.length
          · rw [List.getElem?_append_left hi] at ha
            rw [List.getElem?_append_left (hl ▸ hi)] at hb
            exact aW'.2 i a b ha hb
          · rw [List.getElem?_append_right (by omega)] at ha
            rw [List.getElem?_append_right (by omega), ← hl] at hb
            exact aZ.2 _ a b ha hb
        · rw [← hI, eW, List.flatMap_append, List.reverse_append, List.append_assoc]; rfl
    · have e0 : ws = [] := by cases ws; rfl; exact absurd rfl c1
      subst e0
      have e1 : W = [] := List.length_eq_zero_iff.mp aW.1.symm
      subst e1
      refine ⟨_, rfl, _, _, rfl, SqL.of hF, fun p np => ?_⟩
      have hI' : F = t.post.reverse := by simpa using hI
      subst hI'
      refine q p fs.reverse _ (E3.trans (Ex.new np)) (fresh_back E3 np) upd_same ⟨by rw [List.length_reverse, aF.1, List.length_reverse], fun i a b ha hb => ?_⟩
      have hi : i < fs.length := by have := (List.getElem?_eq_some_iff.mp ha).1; rw [List.length_reverse] at this; exact this
      rw [List.getElem?_reverse hi] at ha
      refine aF.2 _ a b ha ?_
      have hl' : fs.length = t.post.length := by rw [aF.1, List.length_reverse]
      rw [List.getElem?_reverse (by omega), ← hb]
      congr 1
      omega
theorem nodup_sub : ∀ {l ks : List Str}, l.Nodup → (∀ x ∈ l, x ∈ ks) → l.length ≤ ks.length
  | [], _, _, _ => Nat.zero_le _
  | x :: l, ks, d, m => by
    obtain ⟨d1, d2⟩ := List.nodup_cons.mp d
    have hx := m x List.mem_cons_self
    have h := nodup_sub d2 (fun y hy => (List.mem_erase_of_ne fun e : y = x => d1 (e ▸ hy)).mpr (m y (List.mem_cons_of_mem _ hy)))
    rw [List.length_erase_of_mem hx] at h
    have := List.length_pos_of_mem hx
    rw [List.length_cons]; omega
end
end G
namespace G
open PySem PySem.Spec PyProof.Rows L2 Evl TL
/-- tuples never change -/
def TX (H H' : Hp) : Prop := ∀ (b : Addr) (xs : List V), H b = some (.tup xs) → H' b = some (.tup xs)
theorem TX.trans {H H1 H2 : Hp} (a : TX H H1) (b : TX H1 H2) : TX H H2 := fun c xs h => b c xs (a c xs h)
theorem TX.of {H H' : Hp} (e : Ex H H') : TX H H' := fun b xs h => e b _ h
theorem TX.px {p a : Addr} {H H' : Hp} (x : Px p a H H') : TX H H' := fun b xs h => by
  obtain ⟨_, _, _, _, _, e, _⟩ := x.was
  exact x.at_ (b := b) (o := .tup xs) (by rw [hid_ne (ne_of h e (by intro z; cases z))]; exact h)
/-- a tree in tuples that stand in the heap -/
def TreeH (H : Hp) : V → Tr → Prop
  | v, .name x => ∃ a, v = .ref a ∧ H a = some (.tup [.str "name", .str x])
  | v, .const b => ∃ a, v = .ref a ∧ H a = some (.tup [.str "const", .bl b])
  | v, .neg t => ∃ a x, v = .ref a ∧ H a = some (.tup [.str "not", x]) ∧ TreeH H x t
  | v, .bin o l r => ∃ a x y, v = .ref a ∧ H a = some (.tup [.str o.s, x, y]) ∧ TreeH H x l ∧ TreeH H y r
theorem TreeH.te {H H' : Hp} (e : TX H H') : ∀ {v : V} {t : Tr}, TreeH H v t → TreeH H' v t
  | v, .name x, ⟨a, h1, h2⟩ => ⟨a, h1, e _ _ h2⟩
  | v, .const b, ⟨a, h1, h2⟩ => ⟨a, h1, e _ _ h2⟩
  | v, .neg t, ⟨a, x, h1, h2, h3⟩ => ⟨a, x, h1, e _ _ h2, h3.te e⟩
  | v, .bin o l r, ⟨a, x, y, h1, h2, h3, h4⟩ => ⟨a, x, y, h1, e _ _ h2, h3.te e, h4.te e⟩
theorem TreeH.at_ {K : PySem.W.Frag} {H : Hp} : ∀ {v : V} {t : Tr}, TreeH H v t → TreeAt K H v t
  | v, .name x, ⟨a, h1, h2⟩ => ⟨a, h1, SqT.of h2⟩
  | v, .const b, ⟨a, h1, h2⟩ => ⟨a, h1, SqT.of h2⟩
  | v, .neg t, ⟨a, x, h1, h2, h3⟩ => ⟨a, x, h1, SqT.of h2, h3.at_⟩
  | v, .bin o l r, ⟨a, x, y, h1, h2, h3, h4⟩ => ⟨a, x, y, h1, SqT.of h2, h3.at_, h4.at_⟩
theorem TreeH.ex {H H' : Hp} (e : Ex H H') {v : V} {t : Tr} (h : TreeH H v t) : TreeH H' v t := h.te (.of e)
theorem TreeH.hid {p a : Addr} {H : Hp} (hp : PoolOk p a H) {v : V} {t : Tr} (h : TreeH H v t) : TreeH (G.hid p H) v t := h.te fun b xs e => by
  have x := Px.refl hp
  obtain ⟨_, _, _, _, _, e0, _⟩ := x.was
  rw [hid_ne (ne_of e e0 (by intro z; cases z))]
  exact e
/-- a tree as data -/
def Tr.dat : Tr → D
  | .name x => .tup [.str "name", .str x]
  | .const b => .tup [.str "const", .bl b]
  | .neg t => .tup [.str "not", t.dat]
  | .bin o l r => .tup [.str o.s, l.dat, r.dat]
theorem rep2 {H : Hp} {a : Addr} {x y : V} {d e : D} (h : H a = some (.tup [x, y])) (h1 : Rep H x d) (h2 : Rep H y e) : Rep H (.ref a) (.tup [d, e]) :=
  .tup h rfl fun i z w hz hw => match i, hz, hw with
    | 0, hz, hw => by cases hz; cases hw; exact h1
    | 1, hz, hw => by cases hz; cases hw; exact h2
theorem rep3 {H : Hp} {a : Addr} {x y z : V} {d e f : D} (h : H a = some (.tup [x, y, z])) (h1 : Rep H x d) (h2 : Rep H y e) (h3 : Rep H z f) : Rep H (.ref a) (.tup [d, e, f]) :=
  .tup h rfl fun i z w hz hw => match i, hz, hw with
    | 0, hz, hw => by cases hz; cases hw; exact h1
    | 1, hz, hw => by cases hz; cases hw; exact h2
    | 2, hz, hw => by cases hz; cases hw; exact h3
theorem rep_tree {H : Hp} : ∀ {v : V} {t : Tr}, TreeH H v t → Rep H v t.dat
  | v, .name x, ⟨a, h1, h2⟩ => by subst h1; exact rep2 h2 (.str _) (.str _)
  | v, .const b, ⟨a, h1, h2⟩ => by subst h1; exact rep2 h2 (.str _) (.bl _)
  | v, .neg t, ⟨a, x, h1, h2, h3⟩ => by subst h1; exact rep2 h2 (.str _) (rep_tree h3)
  | v, .bin o l r, ⟨a, x, y, h1, h2, h3, h4⟩ => by subst h1; exact rep3 h2 (.str _) (rep_tree h3) (rep_tree h4)
def Tr.ht : Tr → Nat
  | .name _ => 1
  | .const _ => 1
  | .neg t => t.ht + 1
  | .bin _ l r => max l.ht r.ht + 1
theorem okD_tree : ∀ {n : Nat} {t : Tr}, t.ht ≤ n → okD n t.dat
  | 0, t, h => by cases t <;> simp [Tr.ht] at h
  | n + 1, .name x, _ => ⟨by show 2 < 2 ^ 61; decide, fun d hd => by
      rcases List.mem_cons.mp hd with z | z
      · subst z; cases n <;> trivial
      · rw [List.mem_singleton.mp z]; cases n <;> trivial⟩
  | n + 1, .const b, _ => ⟨by show 2 < 2 ^ 61; decide, fun d hd => by
      rcases List.mem_cons.mp hd with z | z
      · subst z; cases n <;> trivial
      · rw [List.mem_singleton.mp z]; cases n <;> trivial⟩
  | n + 1, .neg t, h => ⟨by show 2 < 2 ^ 61; decide, fun d hd => by
      rcases List.mem_cons.mp hd with z | z
      · subst z; cases n <;> trivial
      · rw [List.mem_singleton.mp z]; exact okD_tree (Nat.le_of_succ_le_succ h)⟩
  | n + 1, .bin o l r, h => ⟨by show 3 < 2 ^ 61; decide, fun d hd => by
      have h' : max l.ht r.ht ≤ n := Nat.le_of_succ_le_succ h
      rcases List.mem_cons.mp hd with z | z
      · subst z; cases n <;> trivial
      rcases List.mem_cons.mp z with z | z
      · rw [z]; exact okD_tree (by omega)
      · rw [List.mem_singleton.mp z]; exact okD_tree (by omega)⟩
end G
namespace G
open PySem PySem.Spec PyProof.Rows L2 Evl TL
/-! ## a reader of tokens -/
theorem iteY {b : Bool} {A B : Prop} (h : b = true) (a : A) : if b = true then A else B := by rw [if_pos h]; exact a
theorem iteN {b : Bool} {A B : Prop} (h : b = false) (a : B) : if b = true then A else B := by rw [if_neg (by rw [h]; decide)]; exact a
def rdF (tl : Addr) (n : Nat) : List (Str × V) := [("tokens", .ref tl), ("at", .int (n : Int))]
theorem rne : ¬ (("tokens" : Str) = "at") := by decide +kernel
theorem rdF_t (tl : Addr) (n : Nat) : (rdF tl n).lookup ("tokens" : Str) = some (.ref tl) := by unfold rdF; simp [List.lookup]
theorem rdF_a (tl : Addr) (n : Nat) : (rdF tl n).lookup ("at" : Str) = some (.int (n : Int)) := by
  unfold rdF
  have : ((("at" : Str)) == ("tokens" : Str)) = false := by decide +kernel
  simp [List.lookup, this]
theorem rdF_no (tl : Addr) (n : Nat) {m : Str} (h1 : (m == ("tokens" : Str)) = false) (h2 : (m == ("at" : Str)) = false) : (rdF tl n).lookup m = none := by
  unfold rdF
  simp [List.lookup, h1, h2]
theorem rdF_put (tl : Addr) (n m : Nat) : putF "at" (.int (m : Int)) (rdF tl n) = rdF tl m := by
  unfold rdF putF
  rw [if_neg rne]
  unfold putF
  rw [if_pos rfl]
structure Rd (C : Addr) (H : Hp) (r : Addr) (tks : List (List Nat)) (n : Nat) : Prop where
  ob : ∃ dx tl, H r = some (.ins C dx (rdF tl n)) ∧ H tl = some (.lst (strsV tks))
/-- all but the reader is kept -/
def Kr (r : Addr) (H H' : Hp) : Prop := ∀ b o, b ≠ r → H b = some o → H' b = some o
theorem Kr.refl {r : Addr} {H : Hp} : Kr r H H := fun _ _ _ h => h
theorem Kr.trans {r : Addr} {H H1 H2 : Hp} (a : Kr r H H1) (b : Kr r H1 H2) : Kr r H H2 := fun c o n h => b c o n (a c o n h)
theorem Kr.of {r : Addr} {H H' : Hp} (e : Ex H H') : Kr r H H' := fun c o _ h => e c o h
theorem Rd.ex {C : Addr} {H H' : Hp} {r : Addr} {tks : List (List Nat)} {n : Nat} (h : Rd C H r tks n) (e : Ex H H') : Rd C H' r tks n := by
  obtain ⟨dx, tl, h1, h2⟩ := h.ob
  exact ⟨dx, tl, e _ _ h1, e _ _ h2⟩
theorem strsV_at {tks : List (List Nat)} {n : Nat} {T : List Nat} (h : tks[n]? = some T) : (strsV tks)[n]? = some (.str (mk T)) := by unfold strsV; rw [List.getElem?_map, h]; rfl
theorem strsV_len (tks : List (List Nat)) : (strsV tks).length = tks.length := by unfold strsV; rw [List.length_map]
/-- what stands ahead -/
def ahd (tks : List (List Nat)) (n : Nat) : List Nat := (tks[n]?).getD []
theorem ahd_some {tks : List (List Nat)} {n : Nat} {T : List Nat} (h : tks[n]? = some T) : ahd tks n = T := by unfold ahd; rw [h]; rfl
theorem ahd_none {tks : List (List Nat)} {n : Nat} (h : tks[n]? = none) : ahd tks n = [] := by unfold ahd; rw [h]; rfl
theorem ahd_is {tks : List (List Nat)} {n : Nat} {T : List Nat} (hT : T ≠ []) : ahd tks n = T ↔ tks[n]? = some T := by
  unfold ahd
  cases h : tks[n]? with
  | none =>
    constructor
    · intro e; exact absurd e.symm hT
    · intro e; cases e
  | some U =>
    constructor
    · intro e; exact congrArg some e
    · intro e; exact Option.some.inj e
/-- the reader moves one token on -/
theorem Rd.step {C : Addr} {H : Hp} {r : Addr} {tks : List (List Nat)} {n : Nat} {dx tl : Addr} (h1 : H r = some (.ins C dx (rdF tl n))) (h2 : H tl = some (.lst (strsV tks))) : Rd C (upd H r (.ins C dx (rdF tl (n + 1)))) r tks (n + 1) ∧ Kr r H (upd H r (.ins C dx (rdF tl (n + 1)))) := by
  have hne : tl ≠ r := fun z => by rw [z, h1] at h2; cases h2
  exact ⟨⟨dx, tl, upd_same, by rw [upd_ne hne]; exact h2⟩, fun b o hb h => by rw [upd_ne hb]; exact h⟩
structure TxtRd (mg : Str → Option Value) : Prop where
  len : mg "len" = none
  list : mg "list" = none
section
variable {P : Program} {w : World} {K : PySem.W.Frag} {mg : Str → Option Value} {base : Heap}
def spRInit (C : Addr) : Sp := fun vs H Q _ => ∃ (r l dx : Addr) (tks : List (List Nat)), vs = [.ref r, .ref l] ∧ H r = some (.ins C dx []) ∧ H l = some (.lst (strsV tks)) ∧ ∀ H', Kr r H H' → Rd C H' r tks 0 → Q .non H'
theorem sc_TokenReader_init : FnScope ["self", "tokens"] ["self", "tokens"] (defScope s_TokenReader_init) := ⟨rfl, rfl, rfl, by decide +kernel, rfl, by decide +kernel, by decide +kernel⟩
theorem ok_TokenReader_init {C f : Addr} {fd : FuncData} (F : Fun K "__init__" "TokenReader.__init__" s_TokenReader_init f fd) (W : Cl_TokenReader K mg C) (T : TxtRd mg) : FnOk P w K mg base CX0 1 f fd ["self", "tokens"] (spRInit C) := by
  refine F.ok sc_TokenReader_init (fun vs H Q E h => ?_) (fun cdv A outer s H vs Q E hr h => ?_)
  · obtain ⟨_, _, _, _, rfl, _⟩ := h
    rfl
  · obtain ⟨r, l, dx, tks, rfl, h1, h2, q⟩ := h
    refine ⟨_, (pss_cons (ps_fld (pv 0) (pe_callTy call_list_of (by rfl) T.list (by decide +kernel) (pa_cons (pv 1) pa_nil)) rfl)
    (pss_one (ps_fld (pv 0) pe_int rfl))), ?_⟩
    refine ⟨_, rfl, l, _, rfl, .inl (SqL.of h2), fun l2 n2 => ?_⟩
    have h1' : (upd H l2 (.lst (strsV tks))) r = some (.ins C dx []) := Ex.new n2 _ _ h1
    have hne : l2 ≠ r := fun z => by rw [z, h1] at n2; cases n2
    refine ⟨_, rfl, r, C, dx, [], rfl, h1', W.cl, W.n_tokens, (by decide), _, rfl, r, C, dx, _, rfl, upd_same, W.cl, W.n_at, (by show 1 < 1000; decide), ?_⟩
    refine q _ (fun b o hb h => ?_) ⟨dx, l2, ?_, ?_⟩
    · rw [upd_ne hb, upd_ne hb]; exact Ex.new n2 _ _ h
    · rw [upd_same]
      have : putF "at" (.int 0) (putF "tokens" (.ref l2) []) = rdF l2 0 := by
        show (if ("tokens" : Str) = "at" then _ else _) = _
        rw [if_neg rne]; rfl
      rw [this]
    · rw [upd_ne hne, upd_ne hne, upd_same]
def spAhead (C : Addr) : Sp := fun vs H Q _ => ∃ (r : Addr) (tks : List (List Nat)) (n : Nat), vs = [.ref r] ∧ Rd C H r tks n ∧ Q (.str (mk (ahd tks n))) H
theorem sc_TokenReader_ahead : FnScope ["self"] ["self"] (defScope s_TokenReader_ahead) := ⟨rfl, rfl, rfl, by decide +kernel, rfl, by decide +kernel, by decide +kernel⟩
theorem ok_TokenReader_ahead {C f : Addr} {fd : FuncData} (F : Fun K "ahead" "TokenReader.ahead" s_TokenReader_ahead f fd) (W : Cl_TokenReader K mg C) (T : TxtRd mg) : FnOk P w K mg base CX0 1 f fd ["self"] (spAhead C) := by
  refine F.ok sc_TokenReader_ahead (fun vs H Q E h => ?_) (fun cdv A outer s H vs Q E hr h => ?_)
  · obtain ⟨_, _, _, rfl, _⟩ := h
    rfl
  · obtain ⟨r, tks, n, rfl, ⟨dx, tl, h1, h2⟩, q⟩ := h
    refine ⟨_, (pss_one (ps_ret (pe_ifExp (pt_cmpR op_lt (pe_fld (pv 0) rfl) (pe_callB call_len_seq (by rfl) T.len (by decide +kernel) (pa_cons (pe_fld (pv 0) rfl) pa_nil)) (nomark _)) (pe_ix ix_list (pe_fld (pv 0) rfl) (pe_fld (pv 0) rfl) (fun _ _ => rfl)) pe_str))), ?_⟩
    refine ⟨_, rfl, r, C, dx, _, _, rfl, h1, W.cl, W.n_at, rdF_a _ _, _, rfl, r, C, dx, _, _, rfl, h1, W.cl, W.n_tokens, rdF_t _ _, tl, _, rfl, .inl (SqL.of h2), _, _, rfl, rfl, _, rfl, ?_⟩
    by_cases hn : n < tks.length
    · have hg : tks[n]? = some tks[n] := List.getElem?_eq_getElem hn
      rw [ahd_some hg] at q
      exact iteY (decide_eq_true (by rw [strsV_len]; omega)) ⟨_, rfl, r, C, dx, _, _, rfl, h1, W.cl, W.n_tokens, rdF_t _ _, _, rfl, r, C, dx, _, _, rfl, h1, W.cl, W.n_at, rdF_a _ _, _, _, _, _, rfl, rfl, SqL.of h2, atI_nat (strsV_at hg), q⟩
    · rw [ahd_none (List.getElem?_eq_none (by omega))] at q
      exact iteN (decide_eq_false (by rw [strsV_len]; omega)) q
def spTakeIf (C : Addr) : Sp := fun vs H Q _ => ∃ (r : Addr) (tks : List (List Nat)) (n : Nat) (U : List Nat), vs = [.ref r, .str (mk U)] ∧ Rd C H r tks n ∧ U ≠ [] ∧ (tks[n]? = some U → ∀ H', Kr r H H' → Rd C H' r tks (n + 1) → Q (.bl true) H') ∧ (tks[n]? ≠ some U → Q (.bl false) H)
theorem sc_TokenReader_take_if : FnScope ["self", "token"] ["self", "token"] (defScope s_TokenReader_take_if) := ⟨rfl, rfl, rfl, by decide +kernel, rfl, by decide +kernel, by decide +kernel⟩
theorem ok_TokenReader_take_if {C f fa : Addr} {fd da : FuncData} (F : Fun K "take_if" "TokenReader.take_if" s_TokenReader_take_if f fd) (W : Cl_TokenReader K mg C) (T : TxtRd mg) (M_TokenReader_ahead : Meth K C "ahead" fa) (G_TokenReader_ahead : FnOk P w K mg base CX0 1 fa da ["self"] (spAhead C)) (b_TokenReader_ahead : Binds K da ["self"] []) : FnOk P w K mg base CX0 2 f fd ["self", "token"] (spTakeIf C) := by
  have c_TokenReader := W.cl
  refine F.ok sc_TokenReader_take_if (fun vs H Q E h => ?_) (fun cdv A outer s H vs Q E hr h => ?_)
  · obtain ⟨_, _, _, _, rfl, _⟩ := h
    rfl
  · obtain ⟨r, tks, n, U, rfl, hR, hU, q1, q2⟩ := h
    refine ⟨_, (pss_cons (ps_if (pt_cmpR op_ne (pe_meth0 (pv 0) c_TokenReader M_TokenReader_ahead G_TokenReader_ahead (hr.mono (by omega)) b_TokenReader_ahead .nil pass0) (pv 1) (nomark _))
      (pss_one (ps_ret pe_bl))
      pss_nil)
    (pss_cons (ps_fldaug (pv 0) pe_int ip_add)
    (pss_one (ps_ret pe_bl)))), ?_⟩
    obtain ⟨dx, tl, h1, h2⟩ := hR.ob
    refine ⟨_, rfl, r, dx, _, rfl, h1, rdF_no _ _ rfl rfl, r, tks, n, rfl, hR, _, rfl, rfl, _, rfl, ?_⟩
    have e : decide (V.str (mk (ahd tks n)) = V.str (mk U)) = decide (ahd tks n = U) := decV_mk _ _
    by_cases hc : tks[n]? = some U
    · refine iteN (by rw [e, decide_eq_true ((ahd_is hU).mpr hc)]; rfl) ?_
      obtain ⟨s1, s2⟩ := Rd.step h1 h2
      refine ⟨_, rfl, r, C, dx, _, _, rfl, h1, W.cl, W.n_at, rdF_a _ _, _, _, rfl, rfl, dx, _, h1, (by show 2 < 1000; decide), ?_⟩
      have e2 : putF "at" (.int ((n : Int) + 1)) (rdF tl n) = rdF tl (n + 1) := rdF_put tl n (n + 1)
      have := q1 hc _ s2 s1
      rw [← e2] at this
      exact this
    · refine iteY (by rw [e, decide_eq_false fun z => hc ((ahd_is hU).mp z)]; rfl) ?_
      exact q2 hc
def spTake (C B : Addr) : Sp := fun vs H Q E => ∃ (r : Addr) (tks : List (List Nat)) (n : Nat) (U : List Nat), vs = [.ref r, .str (mk U)] ∧ Rd C H r tks n ∧ n ≤ 50000 ∧ U ≠ [] ∧ (tks[n]? = some U → ∀ H', Kr r H H' → Rd C H' r tks (n + 1) → Q .non H') ∧ (tks[n]? ≠ some U → ∀ d, H d = none → E (.ref B) (some d) (upd H d (.xd [("at", .int n)])))
theorem sc_TokenReader_take : FnScope ["self", "token"] ["self", "token"] (defScope s_TokenReader_take) := ⟨rfl, rfl, rfl, by decide +kernel, rfl, by decide +kernel, by decide +kernel⟩
theorem ok_TokenReader_take {B fB : Addr} {dB : FuncData} (OS : Own1 P w K mg base "BadSyntax" "at" B fB dB okAt) {C f fa : Addr} {fd da : FuncData} (F : Fun K "take" "TokenReader.take" s_TokenReader_take f fd) (W : Cl_TokenReader K mg C) (T : TxtRd mg) (M_TokenReader_ahead : Meth K C "ahead" fa) (G_TokenReader_ahead : FnOk P w K mg base CX0 1 fa da ["self"] (spAhead C)) (b_TokenReader_ahead : Binds K da ["self"] []) : FnOk P w K mg base (L2.CX P w) 3 f fd ["self", "token"] (spTake C B) := by
  have c_TokenReader := W.cl
  refine F.okX sc_TokenReader_take (fun vs H Q E h => ?_) (fun cdv A outer s H vs Q E hr h => ?_)
  · obtain ⟨_, _, _, _, rfl, _⟩ := h
    rfl
  · obtain ⟨r, tks, n, U, rfl, hR, hn, hU, q1, q2⟩ := h
    refine ⟨_, (pss_cons (ps_if (pt_cmpR op_ne (pe_meth0 (pv 0) c_TokenReader M_TokenReader_ahead G_TokenReader_ahead (hr.mono (by omega)) b_TokenReader_ahead .nil pass0) (pv 1) (nomark _))
      (pss_one (ps_raise rfl (takes_of rfl rfl rfl rfl) (pmk_own1 OS (hr.mono (by omega)) rfl (pa_cons (pe_fld (pv 0) rfl) pa_nil))))
      pss_nil)
    (pss_one (ps_fldaug (pv 0) pe_int ip_add))), ?_⟩
    obtain ⟨dx, tl, h1, h2⟩ := hR.ob
    refine ⟨_, rfl, r, dx, _, rfl, h1, rdF_no _ _ rfl rfl, r, tks, n, rfl, hR, _, rfl, rfl, _, rfl, ?_⟩
    have e : decide (V.str (mk (ahd tks n)) = V.str (mk U)) = decide (ahd tks n = U) := decV_mk _ _
    by_cases hc : tks[n]? = some U
    · refine iteN (by rw [e, decide_eq_true ((ahd_is hU).mpr hc)]; rfl) ?_
      obtain ⟨s1, s2⟩ := Rd.step h1 h2
      refine ⟨_, rfl, r, C, dx, _, _, rfl, h1, W.cl, W.n_at, rdF_a _ _, _, _, rfl, rfl, dx, _, h1, (by show 2 < 1000; decide), ?_⟩
      have e2 : putF "at" (.int ((n : Int) + 1)) (rdF tl n) = rdF tl (n + 1) := rdF_put tl n (n + 1)
      have := q1 hc _ s2 s1
      rw [← e2] at this
      exact this
    · refine iteY (by rw [e, decide_eq_false fun z => hc ((ahd_is hU).mp z)]; rfl) ?_
      exact ⟨_, rfl, r, C, dx, _, _, rfl, h1, W.cl, W.n_at, rdF_a _ _, mk1 (fun a na => ⟨n, rfl, hn⟩) fun d nd => q2 hc d nd⟩
def spTakeName (C B : Addr) : Sp := fun vs H Q E => ∃ (r : Addr) (tks : List (List Nat)) (n : Nat), vs = [.ref r] ∧ Rd C H r tks n ∧ n ≤ 50000 ∧ (∀ T ∈ tks, T ≠ [] ∧ T.length ≤ 50000) ∧ (∀ T, tks[n]? = some T → isName T = true → ∀ H', Kr r H H' → Rd C H' r tks (n + 1) → Q (.str (mk T)) H') ∧ ((∀ T, tks[n]? = some T → isName T = false) → ∀ H1 d, Ex H H1 → H1 d = none → E (.ref B) (some d) (upd H1 d (.xd [("at", .int n)])))
theorem sc_TokenReader_take_name : FnScope ["self", "token"] ["self"] (defScope s_TokenReader_take_name) := ⟨rfl, rfl, rfl, by decide +kernel, rfl, by decide +kernel, by decide +kernel⟩
theorem ok_TokenReader_take_name {B fB : Addr} {dB : FuncData} (OS : Own1 P w K mg base "BadSyntax" "at" B fB dB okAt) {C f fa : Addr} {fd da : FuncData} (F : Fun K "take_name" "TokenReader.take_name" s_TokenReader_take_name f fd) (W : Cl_TokenReader K mg C) (T : TxtRd mg) (M_TokenReader_ahead : Meth K C "ahead" fa) (G_TokenReader_ahead : FnOk P w K mg base CX0 1 fa da ["self"] (spAhead C)) (b_TokenReader_ahead : Binds K da ["self"] [])
    (C1 : Has P w K mg base 2 "is_name" ["token"] spIsName) : FnOk P w K mg base (L2.CX P w) 3 f fd ["self"] (spTakeName C B) := by
  obtain ⟨f_is_name, d_is_name, G_is_name, g_is_name, k_is_name, b_is_name⟩ := C1
  have c_TokenReader := W.cl
  refine F.okX sc_TokenReader_take_name (fun vs H Q E h => ?_) (fun cdv A outer s H vs Q E hr h => ?_)
  · obtain ⟨_, _, _, rfl, _⟩ := h
    rfl
  · obtain ⟨r, tks, n, rfl, hR, hn, hT, q1, q2⟩ := h
    refine ⟨_, (pss_cons (ps_set (i := 1) sc_TokenReader_take_name.nd rfl (.inl rfl) (pe_meth0 (pv 0) c_TokenReader M_TokenReader_ahead G_TokenReader_ahead (hr.mono (by omega)) b_TokenReader_ahead .nil pass0))
    (pss_cut (ps_if (PW.pt (pw_or (pt_cmpR op_eq (pv 1) pe_str (nomark _)) (pw_or1 (pt_not (pt_val (pe_call G_is_name (hr.mono (by omega)) (by rfl) g_is_name k_is_name b_is_name .nil pass0 (pa_cons (pv 1) pa_nil)))))))
      (pss_one (ps_raise rfl (takes_of rfl rfl rfl rfl) (pmk_own1 OS (hr.mono (by omega)) rfl (pa_cons (pe_fld (pv 0) rfl) pa_nil))))
      pss_nil)
    (pss_cons (ps_fldaug (pv 0) pe_int ip_add)
    (pss_one (ps_ret (pv 1)))))), ?_⟩
    obtain ⟨dx, tl, h1, h2⟩ := hR.ob
    refine ⟨_, rfl, r, dx, _, rfl, h1, rdF_no _ _ rfl rfl, r, tks, n, rfl, hR, ?_⟩
    refine ⟨fun σ H' => ∃ T, tks[n]? = some T ∧ isName T = true ∧ Ex H H' ∧ σ = [some (.ref r), some (.str (mk T))], ?_, ?_⟩
    · have e : decide (V.str (mk (ahd tks n)) = V.str "") = decide (ahd tks n = []) := decV_mk _ []
      cases hg : tks[n]? with
      | none =>
        refine ⟨_, rfl, rfl, _, rfl, ?_⟩
        rw [e, ahd_none hg]
        exact iteT (iteT ⟨_, rfl, r, C, dx, _, _, rfl, h1, W.cl, W.n_at, rdF_a _ _, mk1 (fun a na => ⟨n, rfl, hn⟩) fun d nd => q2 (fun T z => by rw [hg] at z; cases z) H d (Ex.refl _) nd⟩)
      | some U =>
        obtain ⟨u1, u2⟩ := hT U (List.mem_of_getElem? hg)
        refine ⟨_, rfl, rfl, _, rfl, ?_⟩
        rw [e, ahd_some hg, decide_eq_false u1]
        refine iteF ⟨_, rfl, U, rfl, u1, u2, fun H1 E1 => ⟨_, rfl, ?_⟩⟩
        cases hnm : isName U with
        | true => exact iteF ⟨U, rfl, hnm, E1, rfl⟩
        | false =>
          exact iteT ⟨_, rfl, r, C, dx, _, _, rfl, E1 _ _ h1, W.cl, W.n_at, rdF_a _ _, mk1 (fun a na => ⟨n, rfl, hn⟩) fun d nd => q2 (fun T z => by rw [hg] at z; rw [← Option.some.inj z]; exact hnm) H1 d E1 nd⟩
    · rintro σ H1 ⟨U, hg, hnm, E1, rfl⟩
      obtain ⟨s1, s2⟩ := Rd.step (E1 _ _ h1) (E1 _ _ h2)
      refine ⟨_, rfl, r, C, dx, _, _, rfl, E1 _ _ h1, W.cl, W.n_at, rdF_a _ _, _, _, rfl, rfl, dx, _, E1 _ _ h1, (by show 2 < 1000; decide), _, rfl, ?_⟩
      have e2 : putF "at" (.int ((n : Int) + 1)) (rdF tl n) = rdF tl (n + 1) := rdF_put tl n (n + 1)
      have := q1 U hg hnm _ ((Kr.of E1).trans s2) s1
      rw [← e2] at this
      exact this
def spTakeBit (C B : Addr) : Sp := fun vs H Q E => ∃ (r : Addr) (tks : List (List Nat)) (n : Nat), vs = [.ref r] ∧ Rd C H r tks n ∧ n ≤ 50000 ∧ ∃ b : Bool, tks[n]? = some (if b = true then [49] else [48]) ∧ ∀ H', Kr r H H' → Rd C H' r tks (n + 1) → Q (.bl b) H'
theorem sc_TokenReader_take_bit : FnScope ["self"] ["self"] (defScope s_TokenReader_take_bit) := ⟨rfl, rfl, rfl, by decide +kernel, rfl, by decide +kernel, by decide +kernel⟩
theorem ok_TokenReader_take_bit {B : Addr} {C f fa ft : Addr} {fd da dt : FuncData} (F : Fun K "take_bit" "TokenReader.take_bit" s_TokenReader_take_bit f fd) (W : Cl_TokenReader K mg C) (T : TxtRd mg) (M_TokenReader_take_if : Meth K C "take_if" fa) (G_TokenReader_take_if : FnOk P w K mg base CX0 2 fa da ["self", "token"] (spTakeIf C)) (b_TokenReader_take_if : Binds K da ["self", "token"] [])
    (M_TokenReader_take : Meth K C "take" ft) (G_TokenReader_take : FnOk P w K mg base (L2.CX P w) 3 ft dt ["self", "token"] (spTake C B)) (b_TokenReader_take : Binds K dt ["self", "token"] []) : FnOk P w K mg base (L2.CX P w) 4 f fd ["self"] (spTakeBit C B) := by
  have c_TokenReader := W.cl
  refine F.okX sc_TokenReader_take_bit (fun vs H Q E h => ?_) (fun cdv A outer s H vs Q E hr h => ?_)
  · obtain ⟨_, _, _, rfl, _⟩ := h
    rfl
  · obtain ⟨r, tks, n, rfl, hR, hn, b, hb, q⟩ := h
    refine ⟨_, (pss_cons (ps_if (pt_val (pe_meth (pv 0) c_TokenReader M_TokenReader_take_if G_TokenReader_take_if (hr.mono (by omega)) b_TokenReader_take_if .nil pass0 (pa_cons pe_str pa_nil)))
      (pss_one (ps_ret pe_bl))
      pss_nil)
    (pss_cons (ps_expr (pe_meth (pv 0) c_TokenReader M_TokenReader_take G_TokenReader_take (hr.mono (by omega)) b_TokenReader_take .nil (passes_call (takes_of rfl rfl rfl rfl) fun _ _ _ _ h => h) (pa_cons pe_str pa_nil)))
    (pss_one (ps_ret pe_bl)))), ?_⟩
    obtain ⟨dx, tl, h1, h2⟩ := id hR.ob
    refine ⟨_, rfl, r, dx, _, rfl, h1, rdF_no _ _ rfl rfl, r, tks, n, [48], rfl, hR, by simp, fun h0 H' k' R' => ⟨_, rfl, ?_⟩, fun h0 => ⟨_, rfl, ?_⟩⟩
    · cases b with
      | true => rw [hb] at h0; cases h0
      | false => exact iteT (q H' k' R')
    · cases b with
      | false => exact absurd hb h0
      | true =>
        refine iteF ⟨_, rfl, r, dx, _, rfl, h1, rdF_no _ _ rfl rfl, r, tks, n, [49], rfl, hR, hn, by simp, fun _ H' k' R' => q H' k' R', fun h0 => absurd hb h0⟩
end
end G
namespace G
open PySem PySem.Spec PyProof.Rows L2 Evl TL
/-! ## expressions read -/
inductive Rs where
  | ok (t : Tr) (n : Nat) | er (n : Nat)
def atomF (E : Nat → Option Rs) (tks : List (List Nat)) (n : Nat) : Option Rs :=
  match tks[n]? with
  | none => some (.er n)
  | some T =>
    if T = [40] then
      match E (n + 1) with
      | some (.ok t m) => if tks[m]? = some [41] then some (.ok t (m + 1)) else some (.er m)
      | o => o
    else if T = [48] then some (.ok (.const false) (n + 1))
    else if T = [49] then some (.ok (.const true) (n + 1))
    else if isName T = true then some (.ok (.name (mk T)) (n + 1))
    else some (.er n)
def negs : List (List Nat) → Nat
  | [] => 0
  | T :: r => if T = [33] then negs r + 1 else 0
def wrapN : Nat → Tr → Tr
  | 0, t => t
  | k + 1, t => .neg (wrapN k t)
def factorF (E : Nat → Option Rs) (tks : List (List Nat)) (n : Nat) : Option Rs :=
  match atomF E tks (n + negs (tks.drop n)) with
  | some (.ok t m) => some (.ok (wrapN (negs (tks.drop n)) t) m)
  | o => o
def loopF (nx : Nat → Option Rs) (tks : List (List Nat)) (sg : List Nat) (o : Op) : Nat → Tr → Nat → Option Rs
  | 0, _, _ => none
  | f + 1, t, n =>
    if tks[n]? = some sg then
      match nx (n + 1) with
      | some (.ok u m) => loopF nx tks sg o f (.bin o t u) m
      | x => x
    else some (.ok t n)
/-- k: the levels that are left; 0: a factor -/
def sgL : Nat → List Nat | 0 => [38] | 1 => [94] | _ => [124]
def opL : Nat → Op | 0 => .and | 1 => .xor | _ => .or
def exprF (E : Nat → Option Rs) (tks : List (List Nat)) : Nat → Nat → Option Rs
  | 0, n => factorF E tks n
  | k + 1, n =>
    match exprF E tks k n with
    | some (.ok t m) => loopF (exprF E tks k) tks (sgL k) (opL k) (tks.length + 1) t m
    | x => x
def parseF (tks : List (List Nat)) : Nat → Nat → Option Rs
  | 0, _ => none
  | d + 1, n => exprF (parseF tks d) tks 3 n
/-- what is read ends behind its begin, within the tokens -/
def Bdd (tks : List (List Nat)) (n : Nat) : Rs → Prop
  | .ok _ m => n < m ∧ m ≤ tks.length
  | .er m => m ≤ tks.length
def BdF (tks : List (List Nat)) (f : Nat → Option Rs) : Prop := ∀ n r, n ≤ tks.length → f n = some r → Bdd tks n r
theorem some_lt {α : Type} {l : List α} {n : Nat} {x : α} (h : l[n]? = some x) : n < l.length := (List.getElem?_eq_some_iff.mp h).1
theorem negs_le : ∀ l : List (List Nat), negs l ≤ l.length
  | [] => Nat.zero_le _
  | T :: r => by
    have := negs_le r
    show (if T = [33] then negs r + 1 else 0) ≤ r.length + 1
    split <;> omega
theorem atom_bd {E : Nat → Option Rs} {tks : List (List Nat)} (h : BdF tks E) : BdF tks (atomF E tks) := by
  intro n r hn e
  unfold atomF at e
  cases hg : tks[n]? with
  | none => rw [hg] at e; cases e; exact hn
  | some T =>
    have hlt := some_lt hg
    rw [hg] at e
    dsimp only at e
    split at e
    · split at e
      · rename_i t m em
        have b := h _ _ (by omega) em
        have b' : n + 1 < m ∧ m ≤ tks.length := b
        split at e
        · rename_i h41
          cases e
          exact ⟨by omega, some_lt h41⟩
        · cases e; exact b'.2
      · rename_i o ho
        cases r with
        | er m =>
          have b := h _ _ (by omega) e
          exact b
        | ok t m => exact absurd e (ho t m)
    · split at e
      · cases e; exact ⟨by omega, hlt⟩
      · split at e
        · cases e; exact ⟨by omega, hlt⟩
        · split at e
          · cases e; exact ⟨by omega, hlt⟩
          · cases e; exact hn
theorem factor_bd {E : Nat → Option Rs} {tks : List (List Nat)} (h : BdF tks E) : BdF tks (factorF E tks) := by
  intro n r hn e
  have hl : n + negs (tks.drop n) ≤ tks.length := by
    have := negs_le (tks.drop n)
    rw [List.length_drop] at this
    omega
  unfold factorF at e
  split at e
  · rename_i t m em
    cases e
    have b : n + negs (tks.drop n) < m ∧ m ≤ tks.length := atom_bd h _ _ hl em
    exact ⟨by omega, b.2⟩
  · rename_i o ho
    cases r with
    | er m => exact atom_bd h (n + negs (tks.drop n)) _ hl e
    | ok t m => exact absurd e (ho t m)
theorem loop_bd {nx : Nat → Option Rs} {tks : List (List Nat)} {sg : List Nat} {o : Op} (h : BdF tks nx) : ∀ (f : Nat) (t : Tr) (n : Nat) (r : Rs), n ≤ tks.length → loopF nx tks sg o f t n = some r → (∀ u m, r = .ok u m → n ≤ m) ∧ (match r with | .ok _ m => m ≤ tks.length | .er m => m ≤ tks.length)
  | 0, _, _, _, _, e => by cases e
  | f + 1, t, n, r, hn, e => by
    unfold loopF at e
    split at e
    · rename_i hs
      have hlt := some_lt hs
      split at e
      · rename_i u m em
        have b : n + 1 < m ∧ m ≤ tks.length := h _ _ (by omega) em
        obtain ⟨c1, c2⟩ := loop_bd h f _ m r b.2 e
        exact ⟨fun u' m' z => by have := c1 u' m' z; omega, c2⟩
      · rename_i x hx
        cases r with
        | er m => exact ⟨fun _ _ z => (by cases z), h (n + 1) _ (by omega) e⟩
        | ok t' m => exact absurd e (hx t' m)
    · cases e
      exact ⟨fun u m z => (by cases z; exact Nat.le_refl _), hn⟩
theorem expr_bd {E : Nat → Option Rs} {tks : List (List Nat)} (h : BdF tks E) : ∀ k, BdF tks (exprF E tks k)
  | 0 => factor_bd h
  | k + 1 => by
    intro n r hn e
    unfold exprF at e
    split at e
    · rename_i t m em
      have b : n < m ∧ m ≤ tks.length := expr_bd h k _ _ hn em
      obtain ⟨c1, c2⟩ := loop_bd (expr_bd h k) _ _ _ _ b.2 e
      cases r with
      | er m' => exact c2
      | ok t' m' => exact ⟨by have := c1 t' m' rfl; omega, c2⟩
    · rename_i x hx
      cases r with
      | er m => exact expr_bd h k _ _ hn e
      | ok t' m => exact absurd e (hx t' m)
theorem parse_bd (tks : List (List Nat)) : ∀ d, BdF tks (parseF tks d)
  | 0 => fun _ _ _ e => by cases e
  | d + 1 => expr_bd (parse_bd tks d) 3
/-! ## trees beside a reader that moves -/
theorem TreeH.kr {C : Addr} {H H' : Hp} {r dx : Addr} {fs : List (Str × V)} (k : Kr r H H') (hr : H r = some (.ins C dx fs)) {v : V} {t : Tr} (h : TreeH H v t) : TreeH H' v t :=
  h.te fun b xs e => k b _ (fun z => by rw [z, hr] at e; cases e) e
/-- the tokens that are asked for -/
def TksOk (tks : List (List Nat)) : Prop := tks.length ≤ 50000 ∧ ∀ T ∈ tks, T ≠ [] ∧ T.length ≤ 50000
/-- a def that reads at the reader as f says -/
def Reads (K : PySem.W.Frag) (C B : Addr) (f : List (List Nat) → Nat → Option Rs) (r : Addr) (H : Hp) (Q : VK) (E : XK) : Prop :=
  ∃ (tks : List (List Nat)) (n : Nat) (res : Rs), Rd C H r tks n ∧ n ≤ tks.length ∧ TksOk tks ∧ f tks n = some res ∧
    (∀ t m v H', res = .ok t m → Kr r H H' → Rd C H' r tks m → TreeH H' v t → Q v H') ∧ (∀ m H1 d, res = .er m → Kr r H H1 → H1 d = none → E (.ref B) (some d) (upd H1 d (.xd [("at", .int m)])))
def spAtom (K : PySem.W.Frag) (C B : Addr) (f : List (List Nat) → Nat → Option Rs) : Sp := fun vs H Q E => ∃ r : Addr, vs = [.ref r] ∧ Reads K C B f r H Q E
def spExpr (K : PySem.W.Frag) (C B : Addr) (k : Nat) (f : List (List Nat) → Nat → Option Rs) : Sp := fun vs H Q E => ∃ r : Addr, vs = [.ref r, .int ((3 - k : Nat) : Int)] ∧ Reads K C B f r H Q E
end G
namespace G
open PySem PySem.Spec PyProof.Rows L2 Evl TL
/-- the reader's methods, as they may be called -/
structure Rdr (P : Program) (w : World) (K : PySem.W.Frag) (mg : Str → Option Value) (base : Heap) (C B : Addr) : Prop where
  cl : Cls K C
  ahead : ∃ f fd, Meth K C "ahead" f ∧ FnOk P w K mg base CX0 1 f fd ["self"] (spAhead C) ∧ Binds K fd ["self"] []
  take_if : ∃ f fd, Meth K C "take_if" f ∧ FnOk P w K mg base CX0 2 f fd ["self", "token"] (spTakeIf C) ∧ Binds K fd ["self", "token"] []
  take : ∃ f fd, Meth K C "take" f ∧ FnOk P w K mg base (L2.CX P w) 3 f fd ["self", "token"] (spTake C B) ∧ Binds K fd ["self", "token"] []
  take_name : ∃ f fd, Meth K C "take_name" f ∧ FnOk P w K mg base (L2.CX P w) 3 f fd ["self"] (spTakeName C B) ∧ Binds K fd ["self"] []
  take_bit : ∃ f fd, Meth K C "take_bit" f ∧ FnOk P w K mg base (L2.CX P w) 4 f fd ["self"] (spTakeBit C B) ∧ Binds K fd ["self"] []
section
variable {P : Program} {w : World} {K : PySem.W.Frag} {mg : Str → Option Value} {base : Heap}
/-- _expression by its address -/
structure ExprC (P : Program) (w : World) (K : PySem.W.Frag) (mg : Str → Option Value) (base : Heap) (C B f : Addr) (fd : FuncData) : Prop where
  g : mg "_expression" = some (.ref f)
  k : PySem.W.keepIn K (.ref f) = true
  b : Binds K fd ["reader", "level"] []
  bd : ∃ ds, Vals [.int 0] ds ∧ Binds K fd ["reader", "level"] ds
theorem sc_atom : FnScope ["reader", "tree", "token"] ["reader"] (defScope s_atom) := ⟨rfl, rfl, rfl, by decide +kernel, rfl, by decide +kernel, by decide +kernel⟩
theorem ok_atom {C B fx : Addr} {dx0 : FuncData} {x : Nat} {g : List (List Nat) → Nat → Option Rs} (hg : ∀ tks, BdF tks (g tks)) (hx5 : 5 ≤ x) (D : Dfd K mg "_atom" s_atom ["reader"]) (R : Rdr P w K mg base C B) (X : ExprC P w K mg base C B fx dx0) (G_expression : FnOk P w K mg base (L2.CX P w) x fx dx0 ["reader", "level"] (spExpr K C B 3 g)) :
    HasX P w K mg base (x + 1) "_atom" ["reader"] (spAtom K C B fun tks => atomF (g tks) tks) := by
  obtain ⟨f1, d1, M_TokenReader_ahead, G_TokenReader_ahead, b_TokenReader_ahead⟩ := R.ahead
  obtain ⟨f2, d2, M_TokenReader_take_if, G_TokenReader_take_if, b_TokenReader_take_if⟩ := R.take_if
  obtain ⟨f3, d3, M_TokenReader_take, G_TokenReader_take, b_TokenReader_take⟩ := R.take
  obtain ⟨f4, d4, M_TokenReader_take_name, G_TokenReader_take_name, b_TokenReader_take_name⟩ := R.take_name
  obtain ⟨f5, d5, M_TokenReader_take_bit, G_TokenReader_take_bit, b_TokenReader_take_bit⟩ := R.take_bit
  have c_TokenReader := R.cl
  have g_expression := X.g
  have k_expression := X.k
  obtain ⟨ds, dv_expression, bd_expression⟩ := X.bd
  obtain ⟨f, fd, F, gf, bf⟩ := D
  refine ⟨f, fd, F.okX sc_atom (fun vs H Q E h => ?_) (fun cdv A outer s H vs Q E hr h => ?_), gf, F.kp, bf⟩
  · obtain ⟨r, rfl, _⟩ := h
    rfl
  · obtain ⟨r, rfl, tks, n, res, hR, hn, hok, hres, q1, q2⟩ := h
    refine ⟨_, (pss_cons (ps_if (pt_val (pe_meth (pv 0) c_TokenReader M_TokenReader_take_if G_TokenReader_take_if (hr.mono (by omega)) b_TokenReader_take_if .nil pass0 (pa_cons pe_str pa_nil)))
      (pss_cons (ps_set (i := 1) sc_atom.nd rfl (.inl rfl) (pe_call G_expression (hr.mono (by omega)) (by rfl) g_expression k_expression bd_expression dv_expression (passes_call (takes_of rfl rfl rfl rfl) fun _ _ _ _ h => h) (pa_cons (pv 0) pa_nil)))
      (pss_cons (ps_expr (pe_meth (pv 0) c_TokenReader M_TokenReader_take G_TokenReader_take (hr.mono (by omega)) b_TokenReader_take .nil (passes_call (takes_of rfl rfl rfl rfl) fun _ _ _ _ h => h) (pa_cons pe_str pa_nil)))
      (pss_one (ps_ret (pv 1)))))
      pss_nil)
    (pss_cons (ps_set (i := 2) sc_atom.nd rfl (.inl rfl) (pe_meth0 (pv 0) c_TokenReader M_TokenReader_ahead G_TokenReader_ahead (hr.mono (by omega)) b_TokenReader_ahead .nil pass0))
    (pss_cut (ps_if (PW.pt (pw_or (pt_cmpR op_eq (pv 2) pe_str (nomark _)) (pw_or1 (pt_cmpR op_eq (pv 2) pe_str (nomark _)))))
      (pss_one (ps_ret (pe_tup (pa_cons pe_str (pa_cons (pe_meth0 (pv 0) c_TokenReader M_TokenReader_take_bit G_TokenReader_take_bit (hr.mono (by omega)) b_TokenReader_take_bit .nil (passes_call (takes_of rfl rfl rfl rfl) fun _ _ _ _ h => h)) pa_nil)))))
      pss_nil)
    (pss_one (ps_ret (pe_tup (pa_cons pe_str (pa_cons (pe_meth0 (pv 0) c_TokenReader M_TokenReader_take_name G_TokenReader_take_name (hr.mono (by omega)) b_TokenReader_take_name .nil (passes_call (takes_of rfl rfl rfl rfl) fun _ _ _ _ h => h)) pa_nil)))))))), ?_⟩
    obtain ⟨dx, tl, h1, h2⟩ := id hR.ob
    have hl5 := hok.1
    have hres : atomF (g tks) tks n = some res := hres
    unfold atomF at hres
    refine ⟨_, rfl, r, dx, _, rfl, h1, rdF_no _ _ rfl rfl, r, tks, n, [40], rfl, hR, by simp, fun h0 H' k' R' => ⟨_, rfl, iteT ?_⟩, fun h0 => ⟨_, rfl, iteF ?_⟩⟩
    · rw [h0] at hres
      dsimp only at hres
      rw [if_pos rfl] at hres
      have hlt := some_lt h0
      cases hgx : g tks (n + 1) with
      | none => rw [hgx] at hres; cases hres
      | some r1 =>
        rw [hgx] at hres
        have bd1 := hg tks _ _ (by omega) hgx
        refine ⟨_, rfl, r, rfl, tks, n + 1, r1, R', by omega, hok, hgx, fun t m v H2 e k2 R2 T2 => ?_, fun m H1 d e k2 nd => ?_⟩
        · subst e
          have bd1' : n + 1 < m ∧ m ≤ tks.length := bd1
          dsimp only at hres
          obtain ⟨dx2, tl2, g1, g2⟩ := id R2.ob
          refine ⟨_, rfl, r, dx2, _, rfl, g1, rdF_no _ _ rfl rfl, r, tks, m, [41], rfl, R2, by omega, by simp, fun h41 H3 k3 R3 => ?_, fun h41 d nd => ?_⟩
          · rw [if_pos h41] at hres
            exact ⟨_, rfl, q1 t (m + 1) v H3 (Option.some.inj hres).symm ((k'.trans k2).trans k3) R3 (T2.kr k3 g1)⟩
          · rw [if_neg h41] at hres
            exact q2 m H2 d (Option.some.inj hres).symm (k'.trans k2) nd
        · subst e
          exact q2 m H1 d (Option.some.inj hres).symm (k'.trans k2) nd
    · refine ⟨_, rfl, r, dx, _, rfl, h1, rdF_no _ _ rfl rfl, r, tks, n, rfl, hR, fun σ H' => H' = H ∧ tks[n]? ≠ some [48] ∧ tks[n]? ≠ some [49] ∧ σ = [some (.ref r), none, some (.str (mk (ahd tks n)))], ?_, ?_⟩
      · have e1 : decide (V.str (mk (ahd tks n)) = V.str "0") = decide (ahd tks n = [48]) := decV_mk _ [48]
        have e2 : decide (V.str (mk (ahd tks n)) = V.str "1") = decide (ahd tks n = [49]) := decV_mk _ [49]
        have bit : ∀ b : Bool, tks[n]? = some (if b = true then [49] else [48]) → ∀ a H', Kr r H H' → Rd C H' r tks (n + 1) → H' a = none → Q (.ref a) (upd H' a (.tup [.str "const", .bl b])) := fun b hb a H' k' R' na => by
          have hr1 : res = .ok (.const b) (n + 1) := by
            rw [hb] at hres
            cases b <;> exact (Option.some.inj hres).symm
          exact q1 _ _ _ _ hr1 (k'.trans (Kr.of (Ex.new na))) (R'.ex (Ex.new na)) ⟨a, rfl, upd_same⟩
        refine ⟨_, rfl, rfl, _, rfl, ?_⟩
        rw [e1]
        by_cases c0 : tks[n]? = some [48]
        · rw [decide_eq_true ((ahd_is (by simp)).mpr c0)]
          exact iteT (iteT ⟨_, rfl, r, dx, _, rfl, h1, rdF_no _ _ rfl rfl, r, tks, n, rfl, hR, by omega, false, c0, fun H' k' R' => ⟨(by show 2 ≤ sizeLine; decide), fun a na => bit false c0 a H' k' R' na⟩⟩)
        · rw [decide_eq_false fun z => c0 ((ahd_is (by simp)).mp z)]
          refine iteF ⟨_, rfl, rfl, _, rfl, ?_⟩
          rw [e2]
          by_cases c1 : tks[n]? = some [49]
          · rw [decide_eq_true ((ahd_is (by simp)).mpr c1)]
            exact iteT ⟨_, rfl, r, dx, _, rfl, h1, rdF_no _ _ rfl rfl, r, tks, n, rfl, hR, by omega, true, c1, fun H' k' R' => ⟨(by show 2 ≤ sizeLine; decide), fun a na => bit true c1 a H' k' R' na⟩⟩
          · rw [decide_eq_false fun z => c1 ((ahd_is (by simp)).mp z)]
            exact iteF ⟨rfl, c0, c1, rfl⟩
      · rintro σ H' ⟨rfl, c0, c1, rfl⟩
        refine ⟨_, rfl, r, dx, _, rfl, h1, rdF_no _ _ rfl rfl, r, tks, n, rfl, hR, by omega, hok.2, fun T hT hnm H2 k2 R2 => ⟨(by show 2 ≤ sizeLine; decide), fun a na => ?_⟩, fun hno H1 d E1 nd => ?_⟩
        · rw [hT] at hres c0 c1 h0
          dsimp only at hres
          rw [if_neg (fun z => h0 (congrArg some z)), if_neg (fun z => c0 (congrArg some z)), if_neg (fun z => c1 (congrArg some z)), if_pos hnm] at hres
          exact q1 _ _ _ _ (Option.some.inj hres).symm (k2.trans (Kr.of (Ex.new na))) (R2.ex (Ex.new na)) ⟨a, rfl, upd_same⟩
        · refine q2 n H1 d ?_ (Kr.of E1) nd
          cases hT : tks[n]? with
          | none => rw [hT] at hres; exact (Option.some.inj hres).symm
          | some T =>
            rw [hT] at hres c0 c1 h0
            dsimp only at hres
            rw [if_neg (fun z => h0 (congrArg some z)), if_neg (fun z => c0 (congrArg some z)), if_neg (fun z => c1 (congrArg some z)), if_neg (by rw [hno T hT]; decide)] at hres
            exact (Option.some.inj hres).symm
end
end G
namespace G
open PySem PySem.Spec PyProof.Rows L2 Evl TL
theorem negs_hit {tks : List (List Nat)} {n : Nat} (h : tks[n]? = some [33]) : negs (tks.drop n) = negs (tks.drop (n + 1)) + 1 := by
  obtain ⟨hn, e⟩ := List.getElem?_eq_some_iff.mp h
  rw [List.drop_eq_getElem_cons hn, e]
  show (if ([33] : List Nat) = [33] then _ else 0) = _
  rw [if_pos rfl]
theorem negs_miss {tks : List (List Nat)} {n : Nat} (h : tks[n]? ≠ some [33]) : negs (tks.drop n) = 0 := by
  by_cases hn : n < tks.length
  · rw [List.drop_eq_getElem_cons hn]
    show (if tks[n] = [33] then _ else 0) = 0
    rw [if_neg fun z => h (by rw [List.getElem?_eq_getElem hn, z])]
  · rw [List.drop_eq_nil_of_le (by omega)]; rfl
section
variable {P : Program} {w : World} {K : PySem.W.Frag} {mg : Str → Option Value} {base : Heap}
structure TxtPz (mg : Str → Option Value) : Prop where
  range : mg "range" = none
  len : mg "len" = none
theorem sc_factor : FnScope ["reader", "negations", "tree", "_"] ["reader"] (defScope s_factor) := ⟨rfl, rfl, rfl, by decide +kernel, rfl, by decide +kernel, by decide +kernel⟩
theorem ok_factor {C B : Addr} {y : Nat} {g : List (List Nat) → Nat → Option Rs} (hg : ∀ tks, BdF tks (g tks)) (hy : 5 ≤ y) (T : TxtPz mg) (D : Dfd K mg "_factor" s_factor ["reader"]) (R : Rdr P w K mg base C B) (C1 : HasX P w K mg base y "_atom" ["reader"] (spAtom K C B fun tks => atomF (g tks) tks)) :
    HasX P w K mg base (y + 1) "_factor" ["reader"] (spAtom K C B fun tks => factorF (g tks) tks) := by
  obtain ⟨f2, d2, M_TokenReader_take_if, G_TokenReader_take_if, b_TokenReader_take_if⟩ := R.take_if
  have c_TokenReader := R.cl
  obtain ⟨f_atom, d_atom, G_atom, g_atom, k_atom, b_atom⟩ := C1
  obtain ⟨f, fd, F, gf, bf⟩ := D
  refine ⟨f, fd, F.okX sc_factor (fun vs H Q E h => ?_) (fun cdv A outer s H vs Q E hr h => ?_), gf, F.kp, bf⟩
  · obtain ⟨r, rfl, _⟩ := h
    rfl
  · obtain ⟨r, rfl, tks, n, res, hR, hn, hok, hres, q1, q2⟩ := h
    refine ⟨_, (pss_cons (ps_set (i := 1) sc_factor.nd rfl (.inl rfl) pe_int)
    (pss_cons (ps_while (passes_of rfl) (pt_val (pe_meth (pv 0) c_TokenReader M_TokenReader_take_if G_TokenReader_take_if (hr.mono (by omega)) b_TokenReader_take_if .nil pass0 (pa_cons pe_str pa_nil)))
      (pss_one (ps_aug (i := 1) sc_factor.nd rfl (.inl rfl) pe_int ip_add)))
    (pss_cons (ps_set (i := 2) sc_factor.nd rfl (.inl rfl) (pe_call G_atom (hr.mono (by omega)) (by rfl) g_atom k_atom b_atom .nil (passes_call (takes_of rfl rfl rfl rfl) fun _ _ _ _ h => h) (pa_cons (pv 0) pa_nil)))
    (pss_cons (ps_for (passes_of rfl) rfl (pi_range1 rfl T.range (pa_cons (pv 1) pa_nil)) (pg_name (i := 3) sc_factor.nd rfl (.inl rfl))
      (pss_one (ps_set (i := 2) sc_factor.nd rfl (.inl rfl) (pe_tup (pa_cons pe_str (pa_cons (pv 2) pa_nil))))))
    (pss_one (ps_ret (pv 2))))))), ?_⟩
    have hl5 := hok.1
    have hres : factorF (g tks) tks n = some res := hres
    unfold factorF at hres
    refine ⟨fun m σ H' => ∃ j : Nat, Kr r H H' ∧ Rd C H' r tks (n + j) ∧ negs (tks.drop n) = j + negs (tks.drop (n + j)) ∧ n + j ≤ tks.length ∧ m = tks.length - (n + j) ∧ σ = [some (.ref r), some (.int (j : Nat)), none, none], ⟨_, 0, Kr.refl, hR, by rw [Nat.zero_add]; rfl, hn, rfl, rfl⟩, ?_⟩
    rintro m σ H1 ⟨j, k1, R1, hj, hjn, rfl, rfl⟩
    obtain ⟨dx, tl, h1, h2⟩ := id R1.ob
    refine ⟨_, rfl, r, dx, _, rfl, h1, rdF_no _ _ rfl rfl, r, tks, n + j, [33], rfl, R1, by simp, fun h0 H2 k2 R2 => ⟨_, rfl, iteT ?_⟩, fun h0 => ⟨_, rfl, iteF ?_⟩⟩
    · have hlt := some_lt h0
      refine ⟨fun σ' H'' => H'' = H2 ∧ σ' = [some (.ref r), some (.int ((j + 1 : Nat) : Int)), none, none], ?_, ?_⟩
      · rintro σ' H'' ⟨rfl, rfl⟩
        exact ⟨_, by omega, j + 1, k1.trans k2, R2, by rw [hj, negs_hit h0, show n + (j + 1) = n + j + 1 by omega]; omega, by omega, rfl, rfl⟩
      · exact ⟨_, rfl, _, _, rfl, rfl, rfl, rfl⟩
    · rw [negs_miss h0, Nat.add_zero] at hj
      rw [hj] at hres
      cases hat : atomF (g tks) tks (n + j) with
      | none => rw [hat] at hres; cases hres
      | some r1 =>
        rw [hat] at hres
        refine ⟨_, rfl, r, rfl, tks, n + j, r1, R1, hjn, hok, hat, fun t m v H2 e k2 R2 T2 => ?_, fun m H2 d e k2 nd => ?_⟩
        · subst e
          have hr1 : res = .ok (wrapN j t) m := (Option.some.inj hres).symm
          refine ⟨_, rfl, _, rfl, by omega, by omega, for_range (n := ((j : Nat) : Int).toNat) (fun i σ H' => Kr r H H' ∧ Rd C H' r tks m ∧ ∃ (v' : V) (z : Option V), TreeH H' v' (wrapN i t) ∧ σ = [some (.ref r), some (.int (j : Nat)), some v', z]) ⟨k1.trans k2, R2, v, _, T2, rfl⟩ ?_ ?_⟩
          · rintro i σ H3 hi ⟨k3, R3, v', z, T3, rfl⟩
            refine ⟨_, rfl, (by show 2 ≤ sizeLine; decide), fun a na => ⟨k3.trans (Kr.of (Ex.new na)), R3.ex (Ex.new na), .ref a, _, ⟨a, v', rfl, upd_same, T3.ex (Ex.new na)⟩, rfl⟩⟩
          · rintro σ H3 ⟨k3, R3, v', z, T3, rfl⟩
            rw [Int.toNat_natCast] at T3
            exact ⟨_, rfl, q1 _ _ _ _ hr1 k3 R3 T3⟩
        · subst e
          exact q2 m H2 d (Option.some.inj hres).symm (k1.trans k2) nd
end
end G
namespace G
open PySem PySem.Spec PyProof.Rows L2 Evl TL
/-- the binary operators, as they stand at the top -/
structure BinT (K : PySem.W.Frag) (mg : Str → Option Value) : Prop where
  ex : ∃ (a b0 b1 b2 : Addr), mg "BINARY" = some (.ref a) ∧ ∀ H, SqT K H a [.ref b0, .ref b1, .ref b2] ∧ SqT K H b0 [.str "|", .str "or"] ∧ SqT K H b1 [.str "^", .str "xor"] ∧ SqT K H b2 [.str "&", .str "and"]
theorem binT_at {K : PySem.W.Frag} {b0 b1 b2 : Addr} {H : Hp} (h0 : SqT K H b0 [.str "|", .str "or"]) (h1 : SqT K H b1 [.str "^", .str "xor"]) (h2 : SqT K H b2 [.str "&", .str "and"]) {k : Nat} (hk : k ≤ 2) :
    ∃ b, ([.ref b0, .ref b1, .ref b2] : List V)[3 - (k + 1)]? = some (.ref b) ∧ SqT K H b [.str (mk (sgL k)), .str (opL k).s] := by
  match k, hk with
  | 0, _ => exact ⟨b2, rfl, h2⟩
  | 1, _ => exact ⟨b1, rfl, h1⟩
  | 2, _ => exact ⟨b0, rfl, h0⟩
  | k + 3, h => omega
theorem sgL_ne (k : Nat) : sgL k ≠ [] := by
  unfold sgL
  split <;> simp
section
variable {P : Program} {w : World} {K : PySem.W.Frag} {mg : Str → Option Value} {base : Heap}
theorem fn_false {f : Addr} {fd : FuncData} {ps : List Str} {k : Nat} : FnOk P w K mg base (L2.CX P w) k f fd ps (fun _ _ _ _ => False) := ⟨fun _ _ _ _ h => h.elim, fun _ _ _ _ _ _ _ _ _ _ _ _ _ h => h.elim⟩
theorem sc_expression : FnScope ["reader", "level", "sign", "kind", "tree"] ["reader", "level"] (defScope s_expression) := ⟨rfl, rfl, rfl, by decide +kernel, rfl, by decide +kernel, by decide +kernel⟩
theorem ok_expr0 {C B fx : Addr} {dx0 : FuncData} {z : Nat} {g : List (List Nat) → Nat → Option Rs} (hz : 5 ≤ z) (T : TxtPz mg) (BT : BinT K mg) (F : FunD K "_expression" "_expression" (defArgs s_expression) (defBody s_expression) (defScope s_expression) [.int 0] [] fx dx0) (R : Rdr P w K mg base C B) (X : ExprC P w K mg base C B fx dx0) (C1 : HasX P w K mg base z "_factor" ["reader"] (spAtom K C B g)) :
    FnOk P w K mg base (L2.CX P w) (z + 1) fx dx0 ["reader", "level"] (spExpr K C B 0 g) := by
  obtain ⟨f2, d2, M_TokenReader_take_if, G_TokenReader_take_if, b_TokenReader_take_if⟩ := R.take_if
  have c_TokenReader := R.cl
  obtain ⟨f_factor, d_factor, G_factor, g_factor, k_factor, b_factor⟩ := C1
  have g_expression := X.g
  have k_expression := X.k
  have b_expression := X.b
  have G_expression : FnOk P w K mg base (L2.CX P w) z fx dx0 ["reader", "level"] (fun _ _ _ _ => False) := fn_false
  obtain ⟨aB, b0, b1, b2, g_BINARY, hB⟩ := BT.ex
  refine F.ok (CX := L2.CX P w) sc_expression (fun vs H Q E h => ?_) (fun cdv A outer s H vs Q E hr h => ?_)
  · obtain ⟨r, rfl, _⟩ := h
    rfl
  · obtain ⟨r, rfl, tks, n, res, hR, hn, hok, hres, q1, q2⟩ := h
    refine ⟨_, (pss_cons (ps_if (pt_cmpR op_eq (pv 1) (pe_callB call_len_seq (by rfl) T.len (by decide +kernel) (pa_cons (gRef rfl g_BINARY) pa_nil)) (nomark _))
      (pss_one (ps_ret (pe_call G_factor (hr.mono (by omega)) (by rfl) g_factor k_factor b_factor .nil (passes_call (takes_of rfl rfl rfl rfl) fun _ _ _ _ h => h) (pa_cons (pv 0) pa_nil))))
      pss_nil)
    (pss_cons (ps_asg (pe_ix ix_tup (gRef rfl g_BINARY) (pv 1) (fun _ _ => rfl)) (pg_tup rfl (pgs_cons (pg_name (i := 2) sc_expression.nd rfl (.inl rfl)) (pgs_cons (pg_name (i := 3) sc_expression.nd rfl (.inl rfl)) pgs_nil))))
    (pss_cons (ps_set (i := 4) sc_expression.nd rfl (.inl rfl) (pe_call G_expression (hr.mono (by omega)) (by rfl) g_expression k_expression b_expression .nil (passes_call (takes_of rfl rfl rfl rfl) fun _ _ _ _ h => h) (pa_cons (pv 0) (pa_cons (pe_op op_add (pv 1) pe_int) pa_nil))))
    (pss_cons (ps_while (passes_of rfl) (pt_val (pe_meth (pv 0) c_TokenReader M_TokenReader_take_if G_TokenReader_take_if (hr.mono (by omega)) b_TokenReader_take_if .nil pass0 (pa_cons (pv 2) pa_nil)))
      (pss_one (ps_set (i := 4) sc_expression.nd rfl (.inl rfl) (pe_tup (pa_cons (pv 3) (pa_cons (pv 4) (pa_cons (pe_call G_expression (hr.mono (by omega)) (by rfl) g_expression k_expression b_expression .nil (passes_call (takes_of rfl rfl rfl rfl) fun _ _ _ _ h => h) (pa_cons (pv 0) (pa_cons (pe_op op_add (pv 1) pe_int) pa_nil))) pa_nil)))))))
    (pss_one (ps_ret (pv 4))))))), ?_⟩
    refine ⟨_, rfl, aB, _, rfl, .inr (hB H).1, rfl, _, rfl, iteT ?_⟩
    exact ⟨_, rfl, r, rfl, tks, n, res, hR, hn, hok, hres, q1, q2⟩
theorem ok_exprS {C B fx : Addr} {dx0 : FuncData} {x k : Nat} {g0 g : List (List Nat) → Nat → Option Rs} (hk : k ≤ 2) (hx : 5 ≤ x) (hg : ∀ tks, BdF tks (g tks)) (T : TxtPz mg) (BT : BinT K mg) (F : FunD K "_expression" "_expression" (defArgs s_expression) (defBody s_expression) (defScope s_expression) [.int 0] [] fx dx0) (R : Rdr P w K mg base C B) (X : ExprC P w K mg base C B fx dx0)
    (C1 : HasX P w K mg base x "_factor" ["reader"] (spAtom K C B g0)) (G_expression : FnOk P w K mg base (L2.CX P w) x fx dx0 ["reader", "level"] (spExpr K C B k g)) :
    FnOk P w K mg base (L2.CX P w) (x + 1) fx dx0 ["reader", "level"] (spExpr K C B (k + 1) fun tks n => match g tks n with
      | some (.ok t m) => loopF (g tks) tks (sgL k) (opL k) (tks.length + 1) t m
      | r => r) := by
  obtain ⟨f2, d2, M_TokenReader_take_if, G_TokenReader_take_if, b_TokenReader_take_if⟩ := R.take_if
  have c_TokenReader := R.cl
  obtain ⟨f_factor, d_factor, G_factor, g_factor, k_factor, b_factor⟩ := C1
  have g_expression := X.g
  have k_expression := X.k
  have b_expression := X.b
  obtain ⟨aB, b0, b1, b2, g_BINARY, hB⟩ := BT.ex
  refine F.ok (CX := L2.CX P w) sc_expression (fun vs H Q E h => ?_) (fun cdv A outer s H vs Q E hr h => ?_)
  · obtain ⟨r, rfl, _⟩ := h
    rfl
  · obtain ⟨r, rfl, tks, n, res, hR, hn, hok, hres, q1, q2⟩ := h
    refine ⟨_, (pss_cons (ps_if (pt_cmpR op_eq (pv 1) (pe_callB call_len_seq (by rfl) T.len (by decide +kernel) (pa_cons (gRef rfl g_BINARY) pa_nil)) (nomark _))
      (pss_one (ps_ret (pe_call G_factor (hr.mono (by omega)) (by rfl) g_factor k_factor b_factor .nil (passes_call (takes_of rfl rfl rfl rfl) fun _ _ _ _ h => h) (pa_cons (pv 0) pa_nil))))
      pss_nil)
    (pss_cons (ps_asg (pe_ix ix_tup (gRef rfl g_BINARY) (pv 1) (fun _ _ => rfl)) (pg_tup rfl (pgs_cons (pg_name (i := 2) sc_expression.nd rfl (.inl rfl)) (pgs_cons (pg_name (i := 3) sc_expression.nd rfl (.inl rfl)) pgs_nil))))
    (pss_cons (ps_set (i := 4) sc_expression.nd rfl (.inl rfl) (pe_call G_expression (hr.mono (by omega)) (by rfl) g_expression k_expression b_expression .nil (passes_call (takes_of rfl rfl rfl rfl) fun _ _ _ _ h => h) (pa_cons (pv 0) (pa_cons (pe_op op_add (pv 1) pe_int) pa_nil))))
    (pss_cons (ps_while (passes_of rfl) (pt_val (pe_meth (pv 0) c_TokenReader M_TokenReader_take_if G_TokenReader_take_if (hr.mono (by omega)) b_TokenReader_take_if .nil pass0 (pa_cons (pv 2) pa_nil)))
      (pss_one (ps_set (i := 4) sc_expression.nd rfl (.inl rfl) (pe_tup (pa_cons (pv 3) (pa_cons (pv 4) (pa_cons (pe_call G_expression (hr.mono (by omega)) (by rfl) g_expression k_expression b_expression .nil (passes_call (takes_of rfl rfl rfl rfl) fun _ _ _ _ h => h) (pa_cons (pv 0) (pa_cons (pe_op op_add (pv 1) pe_int) pa_nil))) pa_nil)))))))
    (pss_one (ps_ret (pv 4))))))), ?_⟩
    have hl5 := hok.1
    have elv : ((3 - (k + 1) : Nat) : Int) + 1 = ((3 - k : Nat) : Int) := by omega
    obtain ⟨bb, hbi, hbs⟩ := binT_at (hB H).2.1 (hB H).2.2.1 (hB H).2.2.2 hk
    refine ⟨_, rfl, aB, _, rfl, .inr (hB H).1, rfl, _, rfl, iteN (decide_eq_false fun z => ?_) ?_⟩
    · have := V.int.inj z
      have : ((3 - (k + 1) : Nat) : Int) = 3 := this
      omega
    refine ⟨_, rfl, _, _, _, _, rfl, rfl, (hB H).1, atI_nat hbi, bb, _, rfl, hbs, rfl, _, _, rfl, _, _, rfl, rfl, ?_⟩
    have hres : (match g tks n with
      | some (.ok t m) => loopF (g tks) tks (sgL k) (opL k) (tks.length + 1) t m
      | r => r) = some res := hres
    have elr : ([.ref r, .int (((3 - (k + 1) : Nat) : Int) + 1)] : List V) ++ [] = [.ref r, .int ((3 - k : Nat) : Int)] := by rw [elv]; rfl
    cases hgx : g tks n with
    | none => rw [hgx] at hres; cases hres
    | some r1 =>
      rw [hgx] at hres
      have bd1 := hg tks _ _ hn hgx
      refine ⟨_, rfl, _, rfl, _, _, rfl, rfl, r, elr, tks, n, r1, hR, hn, hok, hgx, fun t m v H1 e k1 R1 T1 => ?_, fun m H1 d e k1 nd => ?_⟩
      · subst e
        have bd1' : n < m ∧ m ≤ tks.length := bd1
        have hres : loopF (g tks) tks (sgL k) (opL k) (tks.length + 1) t m = some res := hres
        refine ⟨fun μ σ H' => ∃ (t' : Tr) (m' fu : Nat) (v' : V), Kr r H H' ∧ Rd C H' r tks m' ∧ TreeH H' v' t' ∧ m' ≤ tks.length ∧ loopF (g tks) tks (sgL k) (opL k) fu t' m' = some res ∧ μ = tks.length - m' ∧
          σ = [some (.ref r), some (.int ((3 - (k + 1) : Nat) : Int)), some (.str (mk (sgL k))), some (.str (opL k).s), some v'], ⟨_, t, m, _, v, k1, R1, T1, bd1'.2, hres, rfl, rfl⟩, ?_⟩
        rintro μ σ H2 ⟨t', m', fu, v', k2, R2, T2, hm2, hlp, rfl, rfl⟩
        obtain ⟨dx, tl, h1, h2⟩ := id R2.ob
        cases fu with
        | zero => cases hlp
        | succ fu =>
          unfold loopF at hlp
          refine ⟨_, rfl, r, dx, _, rfl, h1, rdF_no _ _ rfl rfl, _, rfl, r, tks, m', sgL k, rfl, R2, sgL_ne k, fun h0 H3 k3 R3 => ⟨_, rfl, iteT ?_⟩, fun h0 => ⟨_, rfl, iteF ?_⟩⟩
          · rw [if_pos h0] at hlp
            have hlt := some_lt h0
            obtain ⟨dx3, tl3, h13, h23⟩ := id R3.ob
            have T3 := T2.kr k3 h1
            cases hg2 : g tks (m' + 1) with
            | none => rw [hg2] at hlp; cases hlp
            | some r2 =>
              rw [hg2] at hlp
              have bd2 := hg tks _ _ (by omega) hg2
              refine ⟨fun σ' H'' => ∃ (u : Tr) (m2 : Nat) (v2 : V), r2 = .ok u m2 ∧ Kr r H H'' ∧ Rd C H'' r tks m2 ∧ TreeH H'' v2 (.bin (opL k) t' u) ∧ σ' = [some (.ref r), some (.int ((3 - (k + 1) : Nat) : Int)), some (.str (mk (sgL k))), some (.str (opL k).s), some v2], ?_, ?_⟩
              · rintro σ' H'' ⟨u, m2, v2, e2, k4, R4, T4, rfl⟩
                subst e2
                have bd2' : m' + 1 < m2 ∧ m2 ≤ tks.length := bd2
                exact ⟨_, by omega, .bin (opL k) t' u, m2, fu, v2, k4, R4, T4, bd2'.2, hlp, rfl, rfl⟩
              · refine ⟨_, rfl, _, rfl, _, rfl, _, rfl, _, _, rfl, rfl, r, elr, tks, m' + 1, r2, R3, by omega, hok, hg2, fun u m2 v2 H4 e2 k4 R4 T4 => ⟨(by show 3 ≤ sizeLine; decide), fun a na => ?_⟩, fun m2 H4 d e2 k4 nd => ?_⟩
                · exact ⟨u, m2, .ref a, e2, ((k2.trans k3).trans k4).trans (Kr.of (Ex.new na)), R4.ex (Ex.new na), ⟨a, v', v2, rfl, upd_same, (T3.kr k4 h13).ex (Ex.new na), T4.ex (Ex.new na)⟩, rfl⟩
                · subst e2
                  exact q2 m2 H4 d (Option.some.inj hlp).symm ((k2.trans k3).trans k4) nd
          · rw [if_neg h0] at hlp
            exact ⟨_, rfl, q1 t' m' v' H2 (Option.some.inj hlp).symm k2 R2 T2⟩
      · subst e
        exact q2 m H1 d (Option.some.inj hres).symm k1 nd
end
end G
namespace G
open PySem PySem.Spec PyProof.Rows L2 Evl TL
section
variable {P : Program} {w : World} {K : PySem.W.Frag} {mg : Str → Option Value} {base : Heap}
theorem HasX.mono {j k : Nat} {x : Str} {ps : List Str} {sp : Sp} (C : HasX P w K mg base j x ps sp) (h : j ≤ k) : HasX P w K mg base k x ps sp := by
  obtain ⟨f, fd, F, r⟩ := C
  exact ⟨f, fd, F.mono h, r⟩
/-- _expression, to a depth of brackets -/
theorem ok_parse {C B fx : Addr} {dx0 : FuncData} (T : TxtPz mg) (BT : BinT K mg) (F : FunD K "_expression" "_expression" (defArgs s_expression) (defBody s_expression) (defScope s_expression) [.int 0] [] fx dx0) (R : Rdr P w K mg base C B) (X : ExprC P w K mg base C B fx dx0) (DA : Dfd K mg "_atom" s_atom ["reader"]) (DF : Dfd K mg "_factor" s_factor ["reader"]) :
    ∀ d, FnOk P w K mg base (L2.CX P w) (5 + 6 * d) fx dx0 ["reader", "level"] (spExpr K C B 3 fun tks => parseF tks d)
  | 0 => fn_false.imp fun vs H Q E h => by
    obtain ⟨r, rfl, tks, n, res, hR, hn, hok, hres, q1, q2⟩ := h
    cases hres
  | d + 1 => by
    have ih := ok_parse T BT F R X DA DF d
    have hg := fun tks => parse_bd tks d
    have ha := ok_atom (x := 5 + 6 * d) hg (by omega) DA R X ih
    have hf := ok_factor (y := 5 + 6 * d + 1) hg (by omega) T DF R ha
    have e0 := ok_expr0 (z := 5 + 6 * d + 2) (by omega) T BT F R X hf
    have e1 := ok_exprS (x := 5 + 6 * d + 3) (k := 0) (by omega) (by omega) (fun tks => factor_bd (hg tks)) T BT F R X (hf.mono (by omega)) e0
    have e2 := ok_exprS (x := 5 + 6 * d + 4) (k := 1) (g := fun tks => exprF (parseF tks d) tks 1) (by omega) (by omega) (fun tks => expr_bd (hg tks) 1) T BT F R X (hf.mono (by omega)) e1
    have e3 := ok_exprS (x := 5 + 6 * d + 5) (k := 2) (g := fun tks => exprF (parseF tks d) tks 2) (by omega) (by omega) (fun tks => expr_bd (hg tks) 2) T BT F R X (hf.mono (by omega)) e2
    have e : 5 + 6 * (d + 1) = 5 + 6 * d + 5 + 1 := by omega
    rw [e]
    exact e3
end
end G
namespace G
open PySem PySem.Spec PyProof.Rows L2 Evl TL
/-- whether brackets and negations stay within their limits: o brackets are open, n negations stand right ahead -/
def brkF : List (List Nat) → Int → Nat → Bool
  | [], _, _ => true
  | T :: r, o, n =>
    let o' := if T = [40] then o + 1 else if T = [41] then o - 1 else o
    let n' := if T = [33] then n + 1 else 0
    if 20 < o' ∨ 20 < n' then false else brkF r o' n'
structure TxtBk (mg : Str → Option Value) : Prop where
  br : ∃ t, mg "MOST_BRACKETS" = some (.int 20 t)
  ng : ∃ t, mg "MOST_NEGATIONS" = some (.int 20 t)
section
variable {P : Program} {w : World} {K : PySem.W.Frag} {mg : Str → Option Value} {base : Heap}
def spBrk (D : Addr) : Sp := fun vs H Q E => ∃ (l : Addr) (tks : List (List Nat)), vs = [.ref l] ∧ H l = some (.lst (strsV tks)) ∧ (brkF tks 0 0 = true → Q .non H) ∧ (brkF tks 0 0 = false → E (.ref D) none H)
theorem sc_check_brackets : FnScope ["tokens", "opened", "negations", "token"] ["tokens"] (defScope s_check_brackets) := ⟨rfl, rfl, rfl, by decide +kernel, rfl, by decide +kernel, by decide +kernel⟩
theorem ok_check_brackets {D0 : Addr} (D : Dfd K mg "_check_brackets" s_check_brackets ["tokens"]) (UD : ExcT K mg "TooDeep" D0) (T : TxtBk mg) : HasX P w K mg base 1 "_check_brackets" ["tokens"] (spBrk D0) := by
  obtain ⟨t1, g_MOST_BRACKETS⟩ := T.br
  obtain ⟨t2, g_MOST_NEGATIONS⟩ := T.ng
  obtain ⟨f, fd, F, gf, bf⟩ := D
  refine ⟨f, fd, F.okX sc_check_brackets (fun vs H Q E h => ?_) (fun cdv A outer s H vs Q E hr h => ?_), gf, F.kp, bf⟩
  · obtain ⟨_, _, rfl, _⟩ := h
    rfl
  · obtain ⟨l, tks, rfl, hl, q1, q2⟩ := h
    refine ⟨_, (pss_cons (ps_set (i := 1) sc_check_brackets.nd rfl (.inl rfl) pe_int)
    (pss_cons (ps_set (i := 2) sc_check_brackets.nd rfl (.inl rfl) pe_int)
    (pss_one (ps_for (passes_of rfl) rfl (pi_list (pv 0)) (pg_name (i := 3) sc_check_brackets.nd rfl (.inl rfl))
      (pss_cut (ps_if (pt_cmpR op_eq (pv 3) pe_str (nomark _))
        (pss_one (ps_aug (i := 1) sc_check_brackets.nd rfl (.inl rfl) pe_int ip_add))
        (pss_one (ps_if (pt_cmpR op_eq (pv 3) pe_str (nomark _))
          (pss_one (ps_aug (i := 1) sc_check_brackets.nd rfl (.inl rfl) pe_int ip_sub))
          pss_nil)))
      (pss_cons (ps_set (i := 2) sc_check_brackets.nd rfl (.inl rfl) (pe_ifExp (pt_cmpR op_eq (pv 3) pe_str (nomark _)) (pe_op op_add (pv 2) pe_int) pe_int))
      (pss_one (ps_if (PW.pt (pw_or (pt_cmpR op_gt (pv 1) (gInt rfl g_MOST_BRACKETS) (nomark _)) (pw_or1 (pt_cmpR op_gt (pv 2) (gInt rfl g_MOST_NEGATIONS) (nomark _)))))
        (pss_one (ps_raise rfl (takes_of rfl rfl rfl rfl) (pmk_ownA PySem.F.excBase_ValueError UD.xP UD.gC UD.kC (raises_own UD.bC UD.tC) rfl (pa_cons pe_str pa_nil))))
        pss_nil)))))))), ?_⟩
    refine ⟨_, rfl, l, rfl, ⟨_, SqL.of hl⟩, for_list (K := K) (a := l) (xs := strsV tks)
      (fun i σ H' => H' = H ∧ ∃ (o : Int) (n : Nat) (z : Option V), brkF tks 0 0 = brkF (tks.drop i) o n ∧ σ = [some (.ref l), some (.int o), some (.int (n : Nat)), z]) ⟨rfl, 0, 0, _, rfl, rfl⟩ (fun j σ H' _ g => by rw [g.1]; exact SqL.of hl) ?_ ?_⟩
    · rintro i y σ H' hy ⟨rfl, o, n, z, hb, rfl⟩
      unfold strsV at hy
      rw [List.getElem?_map] at hy
      obtain ⟨U, hU, rfl⟩ := Option.map_eq_some_iff.mp hy
      obtain ⟨hi, eU⟩ := List.getElem?_eq_some_iff.mp hU
      rw [List.drop_eq_getElem_cons hi, eU] at hb
      have dec : ∀ c : Nat, decide (V.str (mk U) = V.str (mk [c])) = decide (U = [c]) := fun c => decV_mk U [c]
      refine ⟨fun σ H'' => H'' = H' ∧ σ = [some (.ref l), some (.int (if U = [40] then o + 1 else if U = [41] then o - 1 else o)), some (.int (n : Nat)), some (.str (mk U))], ?_, ?_⟩
      · refine ⟨_, rfl, rfl, _, rfl, ?_⟩
        have d1 : decide (V.str (mk U) = V.str "(") = decide (U = [40]) := dec 40
        rw [d1]
        by_cases c1 : U = [40]
        · rw [decide_eq_true c1, if_pos c1]
          exact iteT ⟨_, rfl, _, _, rfl, rfl, rfl, rfl⟩
        · rw [decide_eq_false c1, if_neg c1]
          refine iteF ⟨_, rfl, rfl, _, rfl, ?_⟩
          have d2 : decide (V.str (mk U) = V.str ")") = decide (U = [41]) := dec 41
          rw [d2]
          by_cases c2 : U = [41]
          · rw [decide_eq_true c2, if_pos c2]
            exact iteT ⟨_, rfl, _, _, rfl, rfl, rfl, rfl⟩
          · rw [decide_eq_false c2, if_neg c2]
            exact iteF ⟨rfl, rfl⟩
      · rintro σ H'' ⟨rfl, rfl⟩
        have hb : brkF tks 0 0 = (if 20 < (if U = [40] then o + 1 else if U = [41] then o - 1 else o) ∨ 20 < (if U = [33] then n + 1 else 0) then false else brkF (tks.drop (i + 1)) (if U = [40] then o + 1 else if U = [41] then o - 1 else o) (if U = [33] then n + 1 else 0)) := hb
        generalize (if U = [40] then o + 1 else if U = [41] then o - 1 else o) = o' at *
        have d3 : decide (V.str (mk U) = V.str "!") = decide (U = [33]) := dec 33
        refine ⟨_, rfl, rfl, _, rfl, ?_⟩
        rw [d3]
        by_cases c3 : U = [33]
        · rw [decide_eq_true c3]
          rw [if_pos c3] at hb
          refine iteY rfl ⟨_, rfl, _, _, rfl, rfl, ?_⟩
          refine ⟨_, rfl, _, _, rfl, rfl, _, rfl, ite2 (fun c4 => ?_) (fun c4 => ?_)⟩
          · rw [if_pos (.inl (of_decide_eq_true c4))] at hb
            exact iteT ⟨(by show 1 ≤ sizeLine; decide), q2 hb⟩
          refine ⟨_, rfl, _, _, rfl, rfl, _, rfl, ite2 (fun c5 => ?_) (fun c5 => ?_)⟩
          · have : (20 : Int) < (n : Int) + 1 := of_decide_eq_true c5
            rw [if_pos (.inr (by omega))] at hb
            exact ⟨(by show 1 ≤ sizeLine; decide), q2 hb⟩
          · have h4 : ¬ (20 : Int) < o' := fun z => c4 (decide_eq_true z)
            have h5 : ¬ (20 : Int) < (n : Int) + 1 := fun z => c5 (decide_eq_true z)
            rw [if_neg (by omega)] at hb
            exact ⟨rfl, o', n + 1, _, hb, rfl⟩
        · rw [decide_eq_false c3]
          rw [if_neg c3] at hb
          refine iteN rfl ?_
          refine ⟨_, rfl, _, _, rfl, rfl, _, rfl, ite2 (fun c4 => ?_) (fun c4 => ?_)⟩
          · rw [if_pos (.inl (of_decide_eq_true c4))] at hb
            exact iteT ⟨(by show 1 ≤ sizeLine; decide), q2 hb⟩
          refine ⟨_, rfl, _, _, rfl, rfl, _, rfl, ite2 (fun c5 => ?_) (fun c5 => ?_)⟩
          · have : (20 : Int) < 0 := of_decide_eq_true c5
            omega
          · have h4 : ¬ (20 : Int) < o' := fun z => c4 (decide_eq_true z)
            rw [if_neg (by omega)] at hb
            exact ⟨rfl, o', 0, _, hb, rfl⟩
    · rintro σ H' ⟨rfl, o, n, z, hb, rfl⟩
      rw [strsV_len, List.drop_length] at hb
      exact q1 hb
end
end G
namespace G
open PySem PySem.Spec PyProof.Rows L2 Evl TL
/-! ## a text parsed -/
inductive Out where
  | tree (t : Tr) | syn (n : Nat) | deep
def outF (d : Nat) (tks : List (List Nat)) : Option Out :=
  if brkF tks 0 0 = true then
    match parseF tks d 0 with
    | none => none
    | some (.er n) => some (.syn n)
    | some (.ok t m) => if m < tks.length then some (.syn m) else if 20 < t.ht then some .deep else some (.tree t)
  else some .deep
theorem lx_toks {S : List Nat} {ts : List (List Nat)} (h : Lx S ts) : ts.length ≤ S.length ∧ ∀ T ∈ ts, T ≠ [] ∧ T.length ≤ S.length := by
  induction h with
  | nil => exact ⟨Nat.le_refl _, fun T h => by cases h⟩
  | sp _ _ ih => exact ⟨by rw [List.length_cons]; omega, fun T hT => ⟨(ih.2 T hT).1, by have := (ih.2 T hT).2; rw [List.length_cons]; omega⟩⟩
  | com _ _ _ ih => exact ⟨by rw [List.length_append, List.length_cons]; omega, fun T hT => ⟨(ih.2 T hT).1, by have := (ih.2 T hT).2; rw [List.length_append]; omega⟩⟩
  | @run U S ts h _ _ ih =>
    have h1 : 0 < U.length := List.length_pos_iff.mpr h.1
    refine ⟨by rw [List.length_append, List.length_cons]; omega, fun T hT => ?_⟩
    rcases List.mem_cons.mp hT with rfl | hT
    · exact ⟨h.1, by rw [List.length_append]; omega⟩
    · exact ⟨(ih.2 T hT).1, by have := (ih.2 T hT).2; rw [List.length_append]; omega⟩
  | @sgn U S ts h _ ih =>
    have h0 := (sgn_of h).1
    have h1 : 0 < U.length := List.length_pos_iff.mpr h0
    refine ⟨by rw [List.length_append, List.length_cons]; omega, fun T hT => ?_⟩
    rcases List.mem_cons.mp hT with rfl | hT
    · exact ⟨h0, by rw [List.length_append]; omega⟩
    · exact ⟨(ih.2 T hT).1, by have := (ih.2 T hT).2; rw [List.length_append]; omega⟩
section
variable {P : Program} {w : World} {K : PySem.W.Frag} {mg : Str → Option Value} {base : Heap}
def spReader (C D : Addr) : Sp := fun vs H Q E => ∃ (x : Str) (tks : List (List Nat)), vs = [.str x] ∧ x.length ≤ 50000 ∧ Lx (tl x) tks ∧ (brkF tks 0 0 = true → ∀ r H', Ex H H' → H r = none → Rd C H' r tks 0 → Q (.ref r) H') ∧ (brkF tks 0 0 = false → ∀ H', Ex H H' → E (.ref D) none H')
theorem sc_reader : FnScope ["text", "tokens"] ["text"] (defScope s_reader) := ⟨rfl, rfl, rfl, by decide +kernel, rfl, by decide +kernel, by decide +kernel⟩
theorem ok_reader {C D0 : Addr} (D : Dfd K mg "_reader" s_reader ["text"]) (C1 : Has P w K mg base 3 "tokenize" ["text"] spTokenize) (C2 : HasX P w K mg base 1 "_check_brackets" ["tokens"] (spBrk D0)) (g_TokenReader : mg "TokenReader" = some (.ref C)) {fi : Addr} {di : FuncData} (Mk_TokenReader : Mk K C fi)
    (G_TokenReader_init : FnOk P w K mg base CX0 1 fi di ["self", "tokens"] (spRInit C)) (b_TokenReader_init : Binds K di ["self", "tokens"] []) : HasX P w K mg base 4 "_reader" ["text"] (spReader C D0) := by
  obtain ⟨f_tokenize, d_tokenize, G_tokenize, g_tokenize, k_tokenize, b_tokenize⟩ := C1
  obtain ⟨f_check_brackets, d_check_brackets, G_check_brackets, g_check_brackets, k_check_brackets, b_check_brackets⟩ := C2
  obtain ⟨f, fd, F, gf, bf⟩ := D
  refine ⟨f, fd, F.okX sc_reader (fun vs H Q E h => ?_) (fun cdv A outer s H vs Q E hr h => ?_), gf, F.kp, bf⟩
  · obtain ⟨_, _, rfl, _⟩ := h
    rfl
  · obtain ⟨x, tks, rfl, hl, hx, q1, q2⟩ := h
    refine ⟨_, (pss_cons (ps_set (i := 1) sc_reader.nd rfl (.inl rfl) (pe_call G_tokenize (hr.mono (by omega)) (by rfl) g_tokenize k_tokenize b_tokenize .nil pass0 (pa_cons (pv 0) pa_nil)))
    (pss_cons (ps_expr (pe_call G_check_brackets (hr.mono (by omega)) (by rfl) g_check_brackets k_check_brackets b_check_brackets .nil (passes_call (takes_of rfl rfl rfl rfl) fun _ _ _ _ h => h) (pa_cons (pv 1) pa_nil)))
    (pss_one (ps_ret (pe_make Mk_TokenReader G_TokenReader_init (hr.mono (by omega)) (by rfl) g_TokenReader b_TokenReader_init .nil pass0 (pa_cons (pv 1) pa_nil)))))), ?_⟩
    refine ⟨_, rfl, x, tks, rfl, hl, hx, fun p H1 np E1 h1 => ⟨_, rfl, p, tks, rfl, h1, fun hb => ?_, fun hb => q2 hb H1 E1⟩⟩
    refine ⟨_, rfl, fun r dx nr nd hne => ?_⟩
    have ep : p ≠ r := fun z => by rw [z, nr] at h1; cases h1
    have ed : p ≠ dx := fun z => by rw [z, nd] at h1; cases h1
    refine ⟨r, p, dx, tks, rfl, upd_same, by rw [upd_ne ep, upd_ne ed]; exact h1, fun H2 k2 R2 => ⟨rfl, ?_⟩⟩
    refine q1 hb r H2 (E1.trans fun b o h => ?_) ?_ R2
    · have b1 : b ≠ r := fun z => by rw [z, nr] at h; cases h
      have b2 : b ≠ dx := fun z => by rw [z, nd] at h; cases h
      exact k2 b o b1 (by rw [upd_ne b1, upd_ne b2]; exact h)
    · cases hq : H r with
      | none => rfl
      | some o => rw [E1 _ _ hq] at nr; cases nr
def spChkH (D : Addr) : Sp := fun vs H Q E => ∃ (v : V) (t : Tr), vs = [v] ∧ TreeAt K H v t ∧ t.post.length ≤ 10000 ∧ (t.ht ≤ 20 → ∀ H', Ex H H' → Q .non H') ∧ (20 < t.ht → ∀ H', Ex H H' → E (.ref D) none H')
end
end G
namespace G
open PySem PySem.Spec PyProof.Rows L2 Evl TL
/-! ## how high a tree is -/
def hts (S : List Tr) : List Int := S.map fun u => (u.ht : Int)
theorem hts_app (S T : List Tr) : hts (S ++ T) = hts S ++ hts T := List.map_append
theorem hts_len (S : List Tr) : ((hts S).map V.int).length = S.length := by unfold hts; rw [List.length_map, List.length_map]
theorem ht_mx (τ : Tr) : ∃ m : Int, m + 1 = (τ.ht : Int) ∧ (hts τ.parts = [] → m = 0) ∧ ∀ n r, hts τ.parts = n :: r → r.foldl max n = m := by
  cases τ with
  | name x => exact ⟨0, rfl, fun _ => rfl, fun n r h => (by cases h)⟩
  | const b => exact ⟨0, rfl, fun _ => rfl, fun n r h => (by cases h)⟩
  | neg t => exact ⟨(t.ht : Int), rfl, (fun h => by cases h), (fun n r h => by cases h; rfl)⟩
  | bin o a b =>
    refine ⟨((max a.ht b.ht : Nat) : Int), rfl, (fun h => by cases h), fun n r h => ?_⟩
    have h : [(a.ht : Int), (b.ht : Int)] = n :: r := h
    injection h with h1 h2
    subst h1 h2
    show max (a.ht : Int) (b.ht : Int) = _
    omega
theorem rMaxDf_of {K : PySem.W.Frag} {H : Hp} {Q : VK} {a : Addr} {ns : List Int} {m d : Int} (hs : SqL K H a (ns.map V.int)) (h0 : ns = [] → m = d) (h1 : ∀ n r, ns = n :: r → r.foldl max n = m) (q : Q (.int m) H) : rMaxDf K [.ref a] [.int d] H Q :=
  ⟨a, ns, d, rfl, rfl, hs, fun e => by rw [← h0 e]; exact q, fun n r e => by rw [h1 n r e]; exact q⟩
structure TxtHt (mg : Str → Option Value) : Prop where
  len : mg "len" = none
  max : mg "max" = none
section
variable {P : Program} {w : World} {K : PySem.W.Frag} {mg : Str → Option Value} {base : Heap}
def spHt : Sp := fun vs H Q _ => ∃ (v : V) (t : Tr), vs = [v] ∧ TreeAt K H v t ∧ t.post.length ≤ 10000 ∧ ∀ H', Ex H H' → Q (.int (t.ht : Nat)) H'
theorem sc_height : FnScope ["tree", "heights", "part", "many", "tallest"] ["tree"] (defScope s_height) := ⟨rfl, rfl, rfl, by decide +kernel, rfl, by decide +kernel, by decide +kernel⟩
theorem ok_height (D : Dfd K mg "height" s_height ["tree"]) (T : TxtHt mg) (C1 : Has P w K mg base 1 "operands" ["tree"] (spOps (K := K))) (C2 : Has P w K mg base 2 "postorder" ["tree"] (spPost (K := K))) : Has P w K mg base 3 "height" ["tree"] (spHt (K := K)) := by
  obtain ⟨f_operands, d_operands, G_operands, g_operands, k_operands, b_operands⟩ := C1
  obtain ⟨f_postorder, d_postorder, G_postorder, g_postorder, k_postorder, b_postorder⟩ := C2
  refine D.has fun f fd F => F.ok sc_height (fun vs H Q E h => ?_) (fun cdv A outer s H vs Q E hr h => ?_)
  · obtain ⟨v, t, rfl, _⟩ := h
    rfl
  · obtain ⟨v, t, rfl, ht, htl, q⟩ := h
    refine ⟨_, (pss_cons (ps_set (i := 1) sc_height.nd rfl (.inl rfl) (pe_lst pa_nil))
    (pss_cons (ps_for PassesOwn.never rfl (pi_list (pe_call G_postorder (hr.mono (by omega)) (by rfl) g_postorder k_postorder b_postorder .nil pass0 (pa_cons (pv 0) pa_nil))) (pg_name (i := 2) sc_height.nd rfl (.inl rfl))
      (pss_cons (ps_set (i := 3) sc_height.nd rfl (.inl rfl) (pe_callB call_len_seq (by rfl) T.len (by decide +kernel) (pa_cons (pe_call G_operands (hr.mono (by omega)) (by rfl) g_operands k_operands b_operands .nil pass0 (pa_cons (pv 2) pa_nil)) pa_nil)))
      (pss_cons (ps_set (i := 4) sc_height.nd rfl (.inl rfl) (pe_callBK (cr_maxDf rfl (Nat.lt_of_le_of_lt (Nat.add_le_add_right (Nat.le_add_right _ _) _) hr.un)) (by rfl) T.max (by decide +kernel) (pa_cons (pe_slice sl_list (pv 1) (po_some (pe_op op_sub (pe_callB call_len_seq (by rfl) T.len (by decide +kernel) (pa_cons (pv 1) pa_nil)) (pv 3))) po_none) pa_nil) (pk_cons pe_int pk_nil)))
      (pss_cons (ps_delSl (pv 1) (po_some (pe_op op_sub (pe_callB call_len_seq (by rfl) T.len (by decide +kernel) (pa_cons (pv 1) pa_nil)) (pv 3))))
      (pss_one (ps_expr (pe_bm PySem.F.plainAttrs_list PySem.F.slot_list_append PySem.F.type_list_append mt_append (pv 1) (pa_cons (pe_op op_add (pv 4) pe_int) pa_nil))))))))
    (pss_one (ps_ret (pe_ix ix_list (pv 1) pe_int (fun _ _ => rfl)))))), ?_⟩
    refine ⟨(by show 0 ≤ sizeLine; decide), fun M nM => ⟨_, rfl, v, t, H, rfl, Ex.new nM, ht, htl, fun L zs H2 E2 nL hL aZ => ⟨_, rfl, ⟨_, SqL.of hL⟩, ?_⟩⟩⟩
    have E3 : Ex H H2 := (Ex.new nM).trans E2
    have hM2 : H2 M = some (.lst []) := E2 _ _ upd_same
    have hML : M ≠ L := fun z => by rw [← z, upd_same] at nL; cases nL
    refine for_list (K := K) (a := L) (xs := zs)
      (fun j σ H' => Ex H H' ∧ ∃ (S : List Tr) (y2 y3 y4 : Option V), Good t S (t.post.drop j) ∧ H' L = some (.lst zs) ∧ H' M = some (.lst ((hts S).map V.int)) ∧ S.length ≤ j ∧ σ = [some v, some (.ref M), y2, y3, y4])
      ⟨E3, [], _, _, _, good_all t, hL, hM2, Nat.le_refl _, rfl⟩ (fun j σ H' _ g => let ⟨_, _, _, _, _, _, h, _⟩ := g; SqL.of h) ?_ ?_
    · rintro j z σ H3 hz ⟨E4, S, y2, y3, y4, hG, hL3, hM3, hSl, rfl⟩
      have hj : j < t.post.length := by rw [← aZ.1]; exact (List.getElem?_eq_some_iff.mp hz).1
      obtain ⟨τ, hτ⟩ : ∃ τ, t.post[j]? = some τ := ⟨_, List.getElem?_eq_getElem hj⟩
      have hdr : t.post.drop j = τ :: t.post.drop (j + 1) := by
        rw [List.drop_eq_getElem_cons hj]
        rw [List.getElem?_eq_getElem hj] at hτ
        rw [Option.some.inj hτ]
      rw [hdr] at hG
      obtain ⟨S', rfl, hG'⟩ := hG
      have hTz := aZ.2 j z τ hz hτ
      obtain ⟨m, hm1, hm2, hm3⟩ := ht_mx τ
      have hpl : (S' ++ τ.parts).length = S'.length + τ.parts.length := List.length_append
      refine ⟨_, rfl, z, τ, H, rfl, E4, hTz, fun p zs' H4 E5 hs hA => ⟨p, _, rfl, .inr hs, ?_⟩⟩
      have hzl : zs'.length = τ.parts.length := hA.1
      have hM4 := E5 _ _ hM3
      have hL4 := E5 _ _ hL3
      have hsub : (((hts (S' ++ τ.parts)).map V.int).length : Int) - (zs'.length : Int) = ((S'.length : Nat) : Int) := by rw [hts_len, hpl, hzl]; omega
      have ecut : cutV ((hts (S' ++ τ.parts)).map V.int) (some ((((hts (S' ++ τ.parts)).map V.int).length : Int) - (zs'.length : Int))) none = (hts τ.parts).map V.int := by
        rw [hsub, cutV_tail (by rw [hts_len, hpl]; omega), hts_app, List.map_append]
        exact List.drop_left' (by rw [hts_len])
      refine ⟨_, rfl, _, rfl, M, _, rfl, .inl (SqL.of hM4), _, rfl, _, _, rfl, rfl, _, rfl, M, _, rfl, SqL.of hM4, fun Sl nSl => ?_⟩
      rw [ecut]
      have hM5 : (upd H4 Sl (.lst ((hts τ.parts).map V.int))) M = some (.lst ((hts (S' ++ τ.parts)).map V.int)) := Ex.new nSl _ _ hM4
      have hL5 : (upd H4 Sl (.lst ((hts τ.parts).map V.int))) L = some (.lst zs) := Ex.new nSl _ _ hL4
      have E6 : Ex H (upd H4 Sl (.lst ((hts τ.parts).map V.int))) := (E4.trans E5).trans (Ex.new nSl)
      have hSl5 : (upd H4 Sl (.lst ((hts τ.parts).map V.int))) Sl = some (.lst ((hts τ.parts).map V.int)) := upd_same
      generalize upd H4 Sl (.lst ((hts τ.parts).map V.int)) = H5 at *
      have etk : ((hts (S' ++ τ.parts)).map V.int).take S'.length = (hts S').map V.int := by
        rw [hts_app, List.map_append]
        exact List.take_left' (hts_len S')
      refine ⟨Sl, hts τ.parts, 0, rfl, rfl, SqL.of hSl5, fun h0 => ?_, fun n r h => ?_⟩
      · obtain rfl := hm2 h0
        refine ⟨_, rfl, _, rfl, M, _, rfl, .inl (SqL.of hM5), _, rfl, _, _, rfl, rfl, _, rfl, M, _, S'.length, rfl, congrArg some hsub, hM5, by rw [hts_len, hpl]; omega, ?_⟩
        rw [etk]
        have hM6 : (upd H5 M (.lst ((hts S').map V.int))) M = some (.lst ((hts S').map V.int)) := upd_same
        refine ⟨_, rfl, .inl ⟨rfl, _, SqL.of hM6⟩, _, rfl, _, _, rfl, rfl, M, _, _, rfl, rfl, hM6, ?_, ?_⟩
        · rw [hpl] at hSl
          exact sz_lt (by rw [hts_len]; omega)
        · refine ⟨?_, S' ++ [τ], _, _, _, hG', ?_, ?_, ?_, rfl⟩
          · exact (E6.mut nM).mut nM
          · rw [upd_ne (fun z => hML z.symm), upd_ne (fun z => hML z.symm)]; exact hL5
          · rw [upd_same, hts_app, List.map_append]; exact congrArg (fun q => some (HO.lst ((hts S').map V.int ++ [q]))) (congrArg V.int hm1)
          · rw [List.length_append]; rw [hpl] at hSl; show _ + 1 ≤ _; omega
      · have := hm3 n r h
        subst this
        refine ⟨_, rfl, _, rfl, M, _, rfl, .inl (SqL.of hM5), _, rfl, _, _, rfl, rfl, _, rfl, M, _, S'.length, rfl, congrArg some hsub, hM5, by rw [hts_len, hpl]; omega, ?_⟩
        rw [etk]
        have hM6 : (upd H5 M (.lst ((hts S').map V.int))) M = some (.lst ((hts S').map V.int)) := upd_same
        refine ⟨_, rfl, .inl ⟨rfl, _, SqL.of hM6⟩, _, rfl, _, _, rfl, rfl, M, _, _, rfl, rfl, hM6, ?_, ?_⟩
        · rw [hpl] at hSl
          exact sz_lt (by rw [hts_len]; omega)
        · refine ⟨?_, S' ++ [τ], _, _, _, hG', ?_, ?_, ?_, rfl⟩
          · exact (E6.mut nM).mut nM
          · rw [upd_ne (fun z => hML z.symm), upd_ne (fun z => hML z.symm)]; exact hL5
          · rw [upd_same, hts_app, List.map_append]; exact congrArg (fun q => some (HO.lst ((hts S').map V.int ++ [q]))) (congrArg V.int hm1)
          · rw [List.length_append]; rw [hpl] at hSl; show _ + 1 ≤ _; omega
    · rintro σ H3 ⟨E4, S, y2, y3, y4, hG, hL3, hM3, hSl, rfl⟩
      rw [aZ.1, List.drop_length] at hG
      obtain rfl : S = [t] := hG
      refine ⟨_, rfl, _, _, _, _, rfl, rfl, SqL.of hM3, atI_nat (j := 0) rfl, q H3 E4⟩
end
end G
namespace G
open PySem PySem.Spec PyProof.Rows L2 Evl TL
section
variable {P : Program} {w : World} {K : PySem.W.Frag} {mg : Str → Option Value} {base : Heap}
theorem sc_check_height : FnScope ["tree"] ["tree"] (defScope s_check_height) := ⟨rfl, rfl, rfl, by decide +kernel, rfl, by decide +kernel, by decide +kernel⟩
theorem ok_check_height {D0 : Addr} (D : Dfd K mg "_check_height" s_check_height ["tree"]) (UD : ExcT K mg "TooDeep" D0) (TM : ∃ t, mg "MOST_HEIGHT" = some (.int 20 t)) (C1 : Has P w K mg base 3 "height" ["tree"] (spHt (K := K))) : HasX P w K mg base 4 "_check_height" ["tree"] (spChkH (K := K) D0) := by
  obtain ⟨f_height, d_height, G_height, g_height, k_height, b_height⟩ := C1
  obtain ⟨tm, g_MOST_HEIGHT⟩ := TM
  obtain ⟨f, fd, F, gf, bf⟩ := D
  refine ⟨f, fd, F.okX sc_check_height (fun vs H Q E h => ?_) (fun cdv A outer s H vs Q E hr h => ?_), gf, F.kp, bf⟩
  · obtain ⟨_, _, rfl, _⟩ := h
    rfl
  · obtain ⟨v, t, rfl, ht, hl, q1, q2⟩ := h
    refine ⟨_, (pss_one (ps_if (pt_cmpR op_gt (pe_call G_height (hr.mono (by omega)) (by rfl) g_height k_height b_height .nil pass0 (pa_cons (pv 0) pa_nil)) (gInt rfl g_MOST_HEIGHT) (nomark _))
      (pss_one (ps_raise rfl (takes_of rfl rfl rfl rfl) (pmk_ownA PySem.F.excBase_ValueError UD.xP UD.gC UD.kC (raises_own UD.bC UD.tC) rfl (pa_cons pe_str pa_nil))))
      pss_nil)), ?_⟩
    refine ⟨_, rfl, v, t, rfl, ht, hl, fun H1 E1 => ⟨_, _, rfl, rfl, _, rfl, ite2 (fun c => ?_) (fun c => ?_)⟩⟩
    · have : (20 : Int) < (t.ht : Int) := of_decide_eq_true c
      exact ⟨(by show 1 ≤ sizeLine; decide), q2 (by omega) H1 E1⟩
    · have : ¬ (20 : Int) < (t.ht : Int) := fun z => c (decide_eq_true z)
      exact q1 (by omega) H1 E1
end
end G
namespace G
open PySem PySem.Spec PyProof.Rows L2 Evl TL
/-! ## what is written is read -/
/-- d: how deep brackets go; 0: an atom; k + 1: with k levels of operators -/
inductive Wr : Nat → Nat → Tr → List (List Nat) → Prop where
  | name {d : Nat} {x : List Nat} (h : isName x = true) : Wr d 0 (.name (mk x)) [x]
  | const {d : Nat} (b : Bool) : Wr d 0 (.const b) [if b = true then [49] else [48]]
  | box {d : Nat} {t : Tr} {ts : List (List Nat)} (h : Wr d 4 t ts) : Wr (d + 1) 0 t ([40] :: (ts ++ [[41]]))
  | neg {d : Nat} {t : Tr} {ts : List (List Nat)} (h : Wr d 1 t ts) : Wr d 1 (.neg t) ([33] :: ts)
  | up {d lv : Nat} {t : Tr} {ts : List (List Nat)} (h : Wr d lv t ts) : Wr d (lv + 1) t ts
  | bin {d k : Nat} {l r : Tr} {a b : List (List Nat)} (hk : k ≤ 2) (hl : Wr d (k + 2) l a) (hr : Wr d (k + 1) r b) : Wr d (k + 2) (.bin (opL k) l r) (a ++ sgL k :: b)
/-- no sign of a lower level stands ahead -/
def Stop (k : Nat) (rest : List (List Nat)) : Prop := ∀ j, j < k → rest.head? ≠ some (sgL j)
theorem sgL_apart {k j : Nat} (hk : k ≤ 2) (h : j < k) : sgL k ≠ sgL j := by
  match k, hk, j, h with
  | 1, _, 0, _ => decide
  | 2, _, 0, _ => decide
  | 2, _, 1, _ => decide
theorem sgL_names : ∀ j, j < 3 → isName (sgL j) = false ∧ sgL j ≠ [41] := by
  intro j hj
  match j, hj with
  | 0, _ => decide +kernel
  | 1, _ => decide +kernel
  | 2, _ => decide +kernel
theorem name_not : isName [40] = false ∧ isName [48] = false ∧ isName [49] = false ∧ isName [33] = false := by decide +kernel
theorem drop_at {α : Type} {l r : List α} {n : Nat} {x : α} (h : l.drop n = x :: r) : l[n]? = some x := by
  have := List.getElem?_drop (xs := l) (i := n) (j := 0)
  rw [h, Nat.add_zero] at this
  rw [← this]; rfl
theorem drop_more {α : Type} {l a b : List α} {n : Nat} (h : l.drop n = a ++ b) : l.drop (n + a.length) = b := by
  rw [← List.drop_drop, h, List.drop_left' rfl]
structure Cl (tks : List (List Nat)) (d lv : Nat) (t : Tr) (ts : List (List Nat)) : Prop where
  atom : lv = 0 → ∀ n rest, tks.drop n = ts ++ rest → atomF (parseF tks d) tks n = some (.ok t (n + ts.length)) ∧ tks[n]? ≠ some [33]
  expr : ∀ k, lv = k + 1 → ∀ n rest, tks.drop n = ts ++ rest → Stop k rest → exprF (parseF tks d) tks k n = some (.ok t (n + ts.length))
  chain : ∀ k, lv = k + 2 → ∀ n rest, tks.drop n = ts ++ rest → Stop k rest → ∃ t0 m0 c, exprF (parseF tks d) tks k n = some (.ok t0 m0) ∧ c ≤ ts.length ∧
    ∀ f, loopF (exprF (parseF tks d) tks k) tks (sgL k) (opL k) (f + c) t0 m0 = loopF (exprF (parseF tks d) tks k) tks (sgL k) (opL k) f t (n + ts.length)
theorem expr_of_chain {tks : List (List Nat)} {d k : Nat} {t : Tr} {ts : List (List Nat)}
    (h : ∀ n rest, tks.drop n = ts ++ rest → Stop k rest → ∃ t0 m0 c, exprF (parseF tks d) tks k n = some (.ok t0 m0) ∧ c ≤ ts.length ∧
      ∀ f, loopF (exprF (parseF tks d) tks k) tks (sgL k) (opL k) (f + c) t0 m0 = loopF (exprF (parseF tks d) tks k) tks (sgL k) (opL k) f t (n + ts.length)) :
    ∀ n rest, tks.drop n = ts ++ rest → Stop (k + 1) rest → exprF (parseF tks d) tks (k + 1) n = some (.ok t (n + ts.length)) := by
  intro n rest hd hs
  obtain ⟨t0, m0, c, e0, hc, hl⟩ := h n rest hd fun j hj => hs j (by omega)
  have hlen : ts.length ≤ tks.length := by
    have := congrArg List.length hd
    rw [List.length_drop, List.length_append] at this
    omega
  show (match exprF (parseF tks d) tks k n with
    | some (.ok t m) => loopF (exprF (parseF tks d) tks k) tks (sgL k) (opL k) (tks.length + 1) t m
    | x => x) = _
  rw [e0]
  show loopF (exprF (parseF tks d) tks k) tks (sgL k) (opL k) (tks.length + 1) t0 m0 = _
  have ef : tks.length + 1 = (tks.length - c + 1) + c := by omega
  rw [ef, hl]
  have hn : ¬ tks[n + ts.length]? = some (sgL k) := fun z => by
    have hr := drop_more hd
    cases rest with
    | nil =>
      have : tks.length ≤ n + ts.length := by
        have := congrArg List.length hr
        rw [List.length_drop] at this
        have : tks.length - (n + ts.length) = 0 := this
        omega
      rw [List.getElem?_eq_none this] at z; cases z
    | cons x r =>
      rw [drop_at hr] at z
      exact hs k (by omega) z
  show (if tks[n + ts.length]? = some (sgL k) then _ else some (Rs.ok t (n + ts.length))) = _
  rw [if_neg hn]
theorem wr_cl (tks : List (List Nat)) {d lv : Nat} {t : Tr} {ts : List (List Nat)} (h : Wr d lv t ts) : Cl tks d lv t ts := by
  induction h with
  | @name d x hx =>
    refine ⟨fun _ n rest hd => ?_, (fun k e => by cases e), (fun k e => by cases e)⟩
    have hg := drop_at (x := x) (r := rest) hd
    have n1 : x ≠ [40] := fun z => by rw [z, name_not.1] at hx; cases hx
    have n2 : x ≠ [48] := fun z => by rw [z, name_not.2.1] at hx; cases hx
    have n3 : x ≠ [49] := fun z => by rw [z, name_not.2.2.1] at hx; cases hx
    have n4 : x ≠ [33] := fun z => by rw [z, name_not.2.2.2] at hx; cases hx
    refine ⟨?_, by rw [hg]; exact fun z => n4 (Option.some.inj z)⟩
    unfold atomF
    rw [hg]
    dsimp only
    rw [if_neg n1, if_neg n2, if_neg n3, if_pos hx]
    rfl
  | @const d b =>
    refine ⟨fun _ n rest hd => ?_, (fun k e => by cases e), (fun k e => by cases e)⟩
    have hg := drop_at (r := rest) hd
    cases b with
    | true =>
      refine ⟨?_, by rw [hg]; exact fun z => by cases z⟩
      unfold atomF
      rw [hg]; rfl
    | false =>
      refine ⟨?_, by rw [hg]; exact fun z => by cases z⟩
      unfold atomF
      rw [hg]; rfl
  | @box d t ts h ih =>
    refine ⟨fun _ n rest hd => ?_, (fun k e => by cases e), (fun k e => by cases e)⟩
    have hd0 : tks.drop n = [40] :: (ts ++ ([41] :: rest)) := by rw [hd]; simp
    have hg := drop_at hd0
    have hd1 : tks.drop (n + 1) = ts ++ ([41] :: rest) := by rw [← List.drop_drop, hd0]; rfl
    have he := ih.expr 3 rfl (n + 1) _ hd1 (fun j hj z => (sgL_names j hj).2 (Option.some.inj z).symm)
    have hg2 := drop_at (drop_more hd1)
    refine ⟨?_, by rw [hg]; exact fun z => by cases z⟩
    have he' : parseF tks (d + 1) (n + 1) = some (.ok t (n + 1 + ts.length)) := he
    unfold atomF
    rw [hg]
    dsimp only
    rw [if_pos rfl, he']
    dsimp only
    rw [if_pos hg2]
    have : n + 1 + ts.length + 1 = n + ([40] :: (ts ++ [[41]])).length := by rw [List.length_cons, List.length_append]; show _ = n + (ts.length + 1 + 1); omega
    rw [this]
  | @neg d t ts h ih =>
    refine ⟨(fun e => by cases e), fun k e n rest hd hs => ?_, (fun k e => by cases e)⟩
    obtain rfl : k = 0 := by omega
    have hg := drop_at (x := [33]) (r := ts ++ rest) hd
    have hd1 : tks.drop (n + 1) = ts ++ rest := by rw [← List.drop_drop, hd]; rfl
    have he : factorF (parseF tks d) tks (n + 1) = some (.ok t (n + 1 + ts.length)) := ih.expr 0 rfl (n + 1) rest hd1 hs
    show factorF (parseF tks d) tks n = _
    unfold factorF at he ⊢
    rw [negs_hit hg]
    rw [show n + (negs (tks.drop (n + 1)) + 1) = n + 1 + negs (tks.drop (n + 1)) by omega]
    cases ha : atomF (parseF tks d) tks (n + 1 + negs (tks.drop (n + 1))) with
    | none => rw [ha] at he; cases he
    | some r =>
      rw [ha] at he
      cases r with
      | er m => cases he
      | ok u m =>
        have he := Option.some.inj he
        injection he with h1 h2
        show some (Rs.ok (.neg (wrapN (negs (tks.drop (n + 1))) u)) m) = _
        rw [h1, h2, List.length_cons, show n + 1 + ts.length = n + (ts.length + 1) by omega]
  | @up d lv t ts h ih =>
    refine ⟨(fun e => by cases e), fun k e n rest hd hs => ?_, fun k e n rest hd hs => ?_⟩
    · obtain rfl : lv = k := by omega
      cases lv with
      | zero =>
        obtain ⟨h1, h2⟩ := ih.atom rfl n rest hd
        show factorF (parseF tks d) tks n = _
        unfold factorF
        rw [negs_miss h2, Nat.add_zero, h1]; rfl
      | succ k =>
        refine expr_of_chain (fun n rest hd hs => ?_) n rest hd hs
        exact ⟨t, _, 0, ih.expr k rfl n rest hd hs, Nat.zero_le _, fun f => rfl⟩
    · obtain rfl : lv = k + 1 := by omega
      exact ⟨t, _, 0, ih.expr k rfl n rest hd hs, Nat.zero_le _, fun f => rfl⟩
  | @bin d k l r a b hk hl hr ihl ihr =>
    have ch : ∀ n rest, tks.drop n = (a ++ sgL k :: b) ++ rest → Stop k rest → ∃ t0 m0 c, exprF (parseF tks d) tks k n = some (.ok t0 m0) ∧ c ≤ (a ++ sgL k :: b).length ∧
        ∀ f, loopF (exprF (parseF tks d) tks k) tks (sgL k) (opL k) (f + c) t0 m0 = loopF (exprF (parseF tks d) tks k) tks (sgL k) (opL k) f (.bin (opL k) l r) (n + (a ++ sgL k :: b).length) := by
      intro n rest hd hs
      have hd0 : tks.drop n = a ++ (sgL k :: (b ++ rest)) := by rw [hd]; simp
      obtain ⟨t0, m0, c, e0, hc, hl0⟩ := ihl.chain k rfl n _ hd0 (fun j hj z => sgL_apart hk hj (Option.some.inj z))
      have hdm := drop_more hd0
      have hg := drop_at hdm
      have hd1 : tks.drop (n + a.length + 1) = b ++ rest := by rw [← List.drop_drop, hdm]; rfl
      have her := ihr.expr k rfl _ rest hd1 hs
      refine ⟨t0, m0, c + 1, e0, by rw [List.length_append, List.length_cons]; omega, fun f => ?_⟩
      rw [show f + (c + 1) = (f + 1) + c by omega, hl0]
      show (if tks[n + a.length]? = some (sgL k) then (match exprF (parseF tks d) tks k (n + a.length + 1) with
        | some (.ok u m) => loopF (exprF (parseF tks d) tks k) tks (sgL k) (opL k) f (.bin (opL k) l u) m
        | x => x) else some (Rs.ok l (n + a.length))) = _
      rw [if_pos hg, her]
      show loopF _ tks (sgL k) (opL k) f (.bin (opL k) l r) (n + a.length + 1 + b.length) = _
      rw [List.length_append, List.length_cons, show n + a.length + 1 + b.length = n + (a.length + (b.length + 1)) by omega]
    refine ⟨(fun e => by cases e), fun k' e n rest hd hs => ?_, fun k' e n rest hd hs => ?_⟩
    · obtain rfl : k' = k + 1 := by omega
      exact expr_of_chain ch n rest hd hs
    · obtain rfl : k' = k := by omega
      exact ch n rest hd hs
/-- the whole text -/
theorem parse_wr {d : Nat} {t : Tr} {ts : List (List Nat)} (h : Wr d 4 t ts) : parseF ts (d + 1) 0 = some (.ok t ts.length) := by
  have := (wr_cl ts h).expr 3 rfl 0 [] (by simp) (fun j _ z => by cases z)
  rw [Nat.zero_add] at this
  exact this
end G
namespace G
open PySem PySem.Spec PyProof.Rows L2 Evl TL
theorem brk_step {T : List Nat} {r : List (List Nat)} {o : Int} {n : Nat} (h1 : T ≠ [40]) (h2 : T ≠ [41]) (h3 : T ≠ [33]) (ho : o ≤ 20) : brkF (T :: r) o n = brkF r o 0 := by
  show (if 20 < (if T = [40] then o + 1 else if T = [41] then o - 1 else o) ∨ 20 < (if T = [33] then n + 1 else 0) then false else brkF r (if T = [40] then o + 1 else if T = [41] then o - 1 else o) (if T = [33] then n + 1 else 0)) = _
  rw [if_neg h1, if_neg h2, if_neg h3, if_neg (by omega)]
theorem brk_open {r : List (List Nat)} {o : Int} {n : Nat} (ho : o + 1 ≤ 20) : brkF ([40] :: r) o n = brkF r (o + 1) 0 := by
  show (if 20 < o + 1 ∨ 20 < 0 then false else brkF r (o + 1) 0) = _
  rw [if_neg (by omega)]
theorem brk_shut {r : List (List Nat)} {o : Int} {n : Nat} (ho : o ≤ 20) : brkF ([41] :: r) o n = brkF r (o - 1) 0 := by
  show (if 20 < o - 1 ∨ 20 < 0 then false else brkF r (o - 1) 0) = _
  rw [if_neg (by omega)]
theorem brk_neg {r : List (List Nat)} {o : Int} {n : Nat} (ho : o ≤ 20) (hn : n + 1 ≤ 20) : brkF ([33] :: r) o n = brkF r o (n + 1) := by
  show (if 20 < o ∨ 20 < n + 1 then false else brkF r o (n + 1)) = _
  rw [if_neg (by omega)]
theorem ht_pos (t : Tr) : 1 ≤ t.ht := by
  cases t <;> simp [Tr.ht]
theorem sgL_plain {k : Nat} (hk : k ≤ 2) : sgL k ≠ [40] ∧ sgL k ≠ [41] ∧ sgL k ≠ [33] := by
  match k, hk with
  | 0, _ => decide
  | 1, _ => decide
  | 2, _ => decide
theorem par_not : isName [41] = false := by decide +kernel
/-- what is written keeps within the limits of brackets and negations -/
theorem brk_wr {d lv : Nat} {t : Tr} {ts : List (List Nat)} (h : Wr d lv t ts) : ∀ (rest : List (List Nat)) (o : Int) (n : Nat), o + d ≤ 20 → n + t.ht ≤ 20 → brkF (ts ++ rest) o n = brkF rest o 0 := by
  induction h with
  | @name d x hx =>
    intro rest o n ho hn
    refine brk_step (fun z => ?_) (fun z => ?_) (fun z => ?_) (by omega)
    · rw [z, name_not.1] at hx; cases hx
    · rw [z, par_not] at hx; cases hx
    · rw [z, name_not.2.2.2] at hx; cases hx
  | @const d b =>
    intro rest o n ho hn
    cases b
    · exact brk_step (by decide) (by decide) (by decide) (by omega)
    · exact brk_step (by decide) (by decide) (by decide) (by omega)
  | @box d t ts h ih =>
    intro rest o n ho hn
    have hp := ht_pos t
    have e : ([40] :: (ts ++ [[41]])) ++ rest = [40] :: (ts ++ ([41] :: rest)) := by simp
    rw [e, brk_open (by omega), ih _ _ _ (by omega) (by omega), brk_shut (by omega), show o + 1 - 1 = o by omega]
  | @neg d t ts h ih =>
    intro rest o n ho hn
    have hh : (Tr.neg t).ht = t.ht + 1 := rfl
    rw [hh] at hn
    rw [List.cons_append, brk_neg (by omega) (by omega)]
    exact ih _ _ _ ho (by omega)
  | up h ih => exact ih
  | @bin d k l r a b hk hl hr ihl ihr =>
    intro rest o n ho hn
    have hh : (Tr.bin (opL k) l r).ht = max l.ht r.ht + 1 := rfl
    rw [hh] at hn
    obtain ⟨s1, s2, s3⟩ := sgL_plain hk
    have e : (a ++ sgL k :: b) ++ rest = a ++ (sgL k :: (b ++ rest)) := by simp
    rw [e, ihl _ _ _ ho (by omega), brk_step s1 s2 s3 (by omega), ihr _ _ _ ho (by omega)]
/-- what is written is read, and no limit is met -/
theorem out_wr {d : Nat} {t : Tr} {ts : List (List Nat)} (h : Wr d 4 t ts) (hd : d ≤ 20) (ht : t.ht ≤ 20) : outF (d + 1) ts = some (.tree t) := by
  have hb : brkF ts 0 0 = true := by
    have := brk_wr h [] 0 0 (by omega) (by omega)
    rw [List.append_nil] at this
    rw [this]; rfl
  unfold outF
  rw [if_pos hb, parse_wr h]
  dsimp only
  rw [if_neg (by omega), if_neg (by omega)]
end G
namespace G
open PySem PySem.Spec PyProof.Rows L2 Evl TL
/-! ## trees written with as few brackets as may be -/
def lvO : Op → Nat | .or => 1 | .xor => 2 | .and => 3
def sgO : Op → List Nat | .or => [124] | .xor => [94] | .and => [38]
def lvT : Tr → Nat
  | .name _ => 5
  | .const _ => 5
  | .neg _ => 4
  | .bin o _ _ => lvO o
def wrapP (least : Nat) (t : Tr) (ts : List (List Nat)) : List (List Nat) := if lvT t < least then [40] :: (ts ++ [[41]]) else ts
def tokF : Tr → List (List Nat)
  | .name x => [tl x]
  | .const b => [if b = true then [49] else [48]]
  | .neg t => [33] :: wrapP 4 t (tokF t)
  | .bin o a b => wrapP (lvO o) a (tokF a) ++ sgO o :: wrapP (lvO o + 1) b (tokF b)
theorem lvT_pos (t : Tr) : 1 ≤ lvT t ∧ lvT t ≤ 5 := by
  cases t with
  | bin o a b => cases o <;> simp [lvT, lvO]
  | _ => simp [lvT]
theorem Wr.ups {d lv : Nat} {t : Tr} {ts : List (List Nat)} (h : Wr d lv t ts) : ∀ k, Wr d (lv + k) t ts
  | 0 => h
  | k + 1 => .up (h.ups k)
theorem Wr.deep {d lv : Nat} {t : Tr} {ts : List (List Nat)} (h : Wr d lv t ts) : ∀ {e}, d ≤ e → Wr e lv t ts := by
  induction h with
  | name h => exact fun _ => .name h
  | const b => exact fun _ => .const b
  | @box d t ts h ih =>
    intro e he
    obtain ⟨e', rfl⟩ : ∃ e', e = e' + 1 := ⟨e - 1, by omega⟩
    exact .box (ih (by omega))
  | neg h ih => exact fun he => .neg (ih he)
  | up h ih => exact fun he => .up (ih he)
  | bin hk hl hr ihl ihr => exact fun he => .bin hk (ihl he) (ihr he)
theorem opL_of (o : Op) : ∃ k, k ≤ 2 ∧ opL k = o ∧ sgL k = sgO o ∧ lvO o = 3 - k := by
  cases o with
  | and => exact ⟨0, by decide, rfl, rfl, rfl⟩
  | xor => exact ⟨1, by decide, rfl, rfl, rfl⟩
  | or => exact ⟨2, by decide, rfl, rfl, rfl⟩
/-- the names in a tree are names -/
def NamesOk (t : Tr) : Prop := ∀ x, Tr.name x ∈ t.post → isName (tl x) = true
theorem wrap_wr {d least : Nat} {t : Tr} {ts : List (List Nat)} (h : Wr d (5 - lvT t) t ts) (hl : 1 ≤ least) (hl5 : least ≤ 5) : Wr (d + 1) (5 - least) t (wrapP least t ts) := by
  have hp := lvT_pos t
  unfold wrapP
  by_cases c : lvT t < least
  · rw [if_pos c]
    have h4 : Wr d 4 t ts := by
      have := h.ups (lvT t - 1)
      rwa [show 5 - lvT t + (lvT t - 1) = 4 by omega] at this
    have := (Wr.box h4).ups (5 - least)
    rwa [Nat.zero_add] at this
  · rw [if_neg c]
    have := (h.deep (Nat.le_succ d)).ups (lvT t - least)
    rwa [show 5 - lvT t + (lvT t - least) = 5 - least by omega] at this
theorem tokF_wr : ∀ t : Tr, NamesOk t → Wr t.ht (5 - lvT t) t (tokF t)
  | .name x, h => by
    have hx := h x (by simp [Tr.post])
    have := Wr.name (d := 1) hx
    rwa [mk_tlS] at this
  | .const b, _ => .const b
  | .neg t, h => by
    have ih := tokF_wr t fun x hx => h x (by simp [Tr.post, hx])
    have := wrap_wr ih (least := 4) (by decide) (by decide)
    exact .neg this
  | .bin o a b, h => by
    have iha := tokF_wr a fun x hx => h x (by simp [Tr.post, hx])
    have ihb := tokF_wr b fun x hx => h x (by simp [Tr.post, hx])
    obtain ⟨k, hk, e1, e2, e3⟩ := opL_of o
    have wa := (wrap_wr iha (least := lvO o) (by omega) (by omega)).deep (e := max a.ht b.ht + 1) (by omega)
    have wb := (wrap_wr ihb (least := lvO o + 1) (by omega) (by omega)).deep (e := max a.ht b.ht + 1) (by omega)
    show Wr (max a.ht b.ht + 1) (5 - lvO o) (.bin o a b) (wrapP (lvO o) a (tokF a) ++ sgO o :: wrapP (lvO o + 1) b (tokF b))
    rw [← e1, ← e2] at *
    rw [show 5 - lvO (opL k) = k + 2 by omega] at *
    rw [show 5 - (lvO (opL k) + 1) = k + 1 by omega] at wb
    exact .bin hk wa wb
theorem tokF_wr4 {t : Tr} (h : NamesOk t) : Wr t.ht 4 t (tokF t) := by
  have hp := lvT_pos t
  have := (tokF_wr t h).ups (lvT t - 1)
  rwa [show 5 - lvT t + (lvT t - 1) = 4 by omega] at this
end G
namespace G
open PySem PySem.Spec PyProof.Rows L2 Evl TL
/-! ## decks as data -/
structure CellD where
  name : List Nat
  pins : List (List Nat)
  tree : Tr
  rngs : List (List Nat × Nat × Nat)
inductive ItemD where
  | gate (n c : List Nat) (ps : List (List Nat))
  | part (n : List Nat) (os : List (List Nat)) (m : List Nat) (ps : List (List Nat))
  | reg (n w : List Nat) (e o : Nat × Nat) (s h : Nat) (b : Bool)
structure ModD where
  name : List Nat
  ins : List (List Nat)
  outs : List (List Nat)
  items : List ItemD
structure DeckD where
  cells : List CellD
  mods : List ModD
def sD (T : List Nat) : D := .str (mk T)
def nsD (l : List (List Nat)) : D := .tup (l.map sD)
def pD (p : Nat × Nat) : D := .tup [.int (p.1 : Nat), .int (p.2 : Nat)]
def rgD (x : List Nat × Nat × Nat) : D := .tup [sD x.1, .int (x.2.1 : Nat), .int (x.2.2 : Nat)]
def CellD.dat (c : CellD) : D := .tup [sD c.name, nsD c.pins, c.tree.dat, .tup (c.rngs.map rgD)]
def ItemD.dat : ItemD → D
  | .gate n c ps => .tup [.str "gate", sD n, sD c, nsD ps]
  | .part n os m ps => .tup [.str "part", sD n, nsD os, sD m, nsD ps]
  | .reg n w e o s h b => .tup [.str "reg", sD n, sD w, pD e, pD o, .int (s : Nat), .int (h : Nat), .bl b]
def ModD.dat (m : ModD) : D := .tup [sD m.name, nsD m.ins, nsD m.outs, .tup (m.items.map ItemD.dat)]
def DeckD.dat (d : DeckD) : D := .tup [.tup (d.cells.map CellD.dat), .tup (d.mods.map ModD.dat)]
/-! ## what stands in the heap -/
def Reps (H : Hp) (xs : List V) (ds : List D) : Prop := xs.length = ds.length ∧ ∀ (i : Nat) (x : V) (d : D), xs[i]? = some x → ds[i]? = some d → Rep H x d
theorem Reps.nil {H : Hp} : Reps H [] [] := ⟨rfl, fun i x d h => by cases h⟩
theorem Reps.cons {H : Hp} {x : V} {d : D} {xs : List V} {ds : List D} (h : Rep H x d) (t : Reps H xs ds) : Reps H (x :: xs) (d :: ds) := ⟨by rw [List.length_cons, List.length_cons, t.1], fun i y e hy he => by
  cases i with
  | zero => cases hy; cases he; exact h
  | succ i => exact t.2 i y e hy he⟩
theorem Reps.snoc {H : Hp} {x : V} {d : D} {xs : List V} {ds : List D} (t : Reps H xs ds) (h : Rep H x d) : Reps H (xs ++ [x]) (ds ++ [d]) := ⟨by rw [List.length_append, List.length_append, t.1]; rfl, fun i y e hy he => by
  by_cases hi : i < xs.length
  · rw [List.getElem?_append_left hi] at hy
    rw [List.getElem?_append_left (by rw [← t.1]; exact hi)] at he
    exact t.2 i y e hy he
  · rw [List.getElem?_append_right (by omega)] at hy
    rw [List.getElem?_append_right (by rw [← t.1]; omega), ← t.1] at he
    have hi' : i - xs.length = 0 := by
      have := (List.getElem?_eq_some_iff.mp hy).1
      rw [List.length_singleton] at this; omega
    rw [hi'] at hy he
    cases hy; cases he
    exact h⟩
theorem Reps.tup {H : Hp} {a : Addr} {xs : List V} {ds : List D} (t : Reps H xs ds) (h : H a = some (.tup xs)) : Rep H (.ref a) (.tup ds) := .tup h t.1 t.2
theorem rep_tup {H : Hp} {v : V} {ds : List D} (h : Rep H v (.tup ds)) : ∃ a xs, v = .ref a ∧ H a = some (.tup xs) ∧ Reps H xs ds := by
  cases h with
  | tup h hl hr => exact ⟨_, _, rfl, h, hl, hr⟩
theorem rep_str {H : Hp} {v : V} {s : Str} (h : Rep H v (.str s)) : v = .str s := by cases h; rfl
theorem rep_int {H : Hp} {v : V} {s : Int} (h : Rep H v (.int s)) : v = .int s := by cases h; rfl
theorem rep_bl {H : Hp} {v : V} {s : Bool} (h : Rep H v (.bl s)) : v = .bl s := by cases h; rfl
theorem Reps.un {H : Hp} {xs : List V} {d : D} {ds : List D} (t : Reps H xs (d :: ds)) : ∃ x ys, xs = x :: ys ∧ Rep H x d ∧ Reps H ys ds := by
  cases xs with
  | nil => exact absurd t.1 (by simp)
  | cons x ys => exact ⟨x, ys, rfl, t.2 0 x d rfl rfl, by have := t.1; rw [List.length_cons, List.length_cons] at this; omega, fun i y e hy he => t.2 (i + 1) y e hy he⟩
theorem Reps.un0 {H : Hp} {xs : List V} (t : Reps H xs []) : xs = [] := List.length_eq_zero_iff.mp t.1
theorem Rep.to {H H' : Hp} (e : ∀ b o, (∀ dx C fs, o ≠ .ins C dx fs) → H b = some o → H' b = some o) {x : V} {d : D} (r : Rep H x d) : Rep H' x d := by
  induction r with
  | non => exact .non
  | bl b => exact .bl b
  | int i => exact .int i
  | str s => exact .str s
  | tup h hl _ ih => exact .tup (e _ _ (fun _ _ _ z => by cases z) h) hl ih
  | lst h hl _ ih => exact .lst (e _ _ (fun _ _ _ z => by cases z) h) hl ih
theorem Rep.kr {C : Addr} {H H' : Hp} {r dx : Addr} {fs : List (Str × V)} (k : Kr r H H') (hr : H r = some (.ins C dx fs)) {x : V} {d : D} (h : Rep H x d) : Rep H' x d :=
  h.to fun b o ho hb => k b o (fun z => by rw [z, hr] at hb; exact ho _ _ _ (Option.some.inj hb).symm) hb
theorem Reps.kr {C : Addr} {H H' : Hp} {r dx : Addr} {fs : List (Str × V)} (k : Kr r H H') (hr : H r = some (.ins C dx fs)) {xs : List V} {ds : List D} (h : Reps H xs ds) : Reps H' xs ds := ⟨h.1, fun i x d hx hd => (h.2 i x d hx hd).kr k hr⟩
theorem Reps.ex {H H' : Hp} (e : Ex H H') {xs : List V} {ds : List D} (h : Reps H xs ds) : Reps H' xs ds := ⟨h.1, fun i x d hx hd => (h.2 i x d hx hd).ex e⟩
theorem tree_rep {H : Hp} : ∀ {t : Tr} {v : V}, Rep H v t.dat → TreeH H v t
  | .name x, v, h => by
    obtain ⟨a, xs, rfl, ha, hr⟩ := rep_tup h
    obtain ⟨x1, r1, rfl, h1, hr1⟩ := hr.un
    obtain ⟨x2, r2, rfl, h2, hr2⟩ := hr1.un
    rw [hr2.un0, rep_str h1, rep_str h2] at ha
    exact ⟨a, rfl, ha⟩
  | .const b, v, h => by
    obtain ⟨a, xs, rfl, ha, hr⟩ := rep_tup h
    obtain ⟨x1, r1, rfl, h1, hr1⟩ := hr.un
    obtain ⟨x2, r2, rfl, h2, hr2⟩ := hr1.un
    rw [hr2.un0, rep_str h1, rep_bl h2] at ha
    exact ⟨a, rfl, ha⟩
  | .neg t, v, h => by
    obtain ⟨a, xs, rfl, ha, hr⟩ := rep_tup h
    obtain ⟨x1, r1, rfl, h1, hr1⟩ := hr.un
    obtain ⟨x2, r2, rfl, h2, hr2⟩ := hr1.un
    rw [hr2.un0, rep_str h1] at ha
    exact ⟨a, x2, rfl, ha, tree_rep h2⟩
  | .bin o l r, v, h => by
    obtain ⟨a, xs, rfl, ha, hr⟩ := rep_tup h
    obtain ⟨x1, r1, rfl, h1, hr1⟩ := hr.un
    obtain ⟨x2, r2, rfl, h2, hr2⟩ := hr1.un
    obtain ⟨x3, r3, rfl, h3, hr3⟩ := hr2.un
    rw [hr3.un0, rep_str h1] at ha
    exact ⟨a, x2, x3, rfl, ha, tree_rep h2, tree_rep h3⟩
/-! ## the parser as a function -/
inductive RG (α : Type) where
  | ok (a : α) (n : Nat) | er (n : Nat) | no
def RG.bind {α β : Type} : RG α → (α → Nat → RG β) → RG β
  | .ok a n, f => f a n
  | .er n, _ => .er n
  | .no, _ => .no
abbrev Pf (α : Type) := List (List Nat) → Nat → RG α
def takeF (U : List Nat) : Pf Unit := fun tks n => if tks[n]? = some U then .ok () (n + 1) else .er n
def nameF : Pf (List Nat) := fun tks n => match tks[n]? with
  | some T => if isName T = true then .ok T (n + 1) else .er n
  | none => .er n
def numF : Pf Nat := fun tks n => match tks[n]? with
  | some T => if isNum T = true then .ok (NumText.digitsVal T) (n + 1) else .er n
  | none => .er n
def bitF : Pf Bool := fun tks n => if tks[n]? = some [48] then .ok false (n + 1) else if tks[n]? = some [49] then .ok true (n + 1) else .er n
def moreF (tks : List (List Nat)) : Nat → List (List Nat) → Nat → RG (List (List Nat))
  | 0, _, _ => .no
  | f + 1, acc, n => if tks[n]? = some [44] then (nameF tks (n + 1)).bind fun T m => moreF tks f (acc ++ [T]) m else (takeF [41] tks n).bind fun _ m => .ok acc m
def namesF : Pf (List (List Nat)) := fun tks n => (takeF [40] tks n).bind fun _ n1 => if tks[n1]? = some [41] then .ok [] (n1 + 1) else (nameF tks n1).bind fun T n2 => moreF tks (tks.length + 1) [T] n2
def rangeF : Pf (Nat × Nat) := fun tks n => (numF tks n).bind fun a n1 => (takeF [46, 46] tks n1).bind fun _ n2 => (numF tks n2).bind fun b n3 => .ok (a, b) n3
def gateF : Pf ItemD := fun tks n => (nameF tks n).bind fun x n1 => (takeF [61] tks n1).bind fun _ n2 => (nameF tks n2).bind fun c n3 => (namesF tks n3).bind fun ps n4 => .ok (.gate x c ps) n4
def partF : Pf ItemD := fun tks n => (nameF tks n).bind fun x n1 => (takeF [58] tks n1).bind fun _ n2 => (namesF tks n2).bind fun os n3 => (takeF [61] tks n3).bind fun _ n4 => (nameF tks n4).bind fun m n5 => (namesF tks n5).bind fun ps n6 => .ok (.part x os m ps) n6
def wEdge : List Nat := tl ("edge" : Str)
def wOut : List Nat := tl ("out" : Str)
def wSetup : List Nat := tl ("setup" : Str)
def wHold : List Nat := tl ("hold" : Str)
def wStart : List Nat := tl ("start" : Str)
def wGate : List Nat := tl ("gate" : Str)
def wPart : List Nat := tl ("part" : Str)
def wReg : List Nat := tl ("reg" : Str)
def wPin : List Nat := tl ("pin" : Str)
def wCell : List Nat := tl ("cell" : Str)
def wModule : List Nat := tl ("module" : Str)
def regF : Pf ItemD := fun tks n => (nameF tks n).bind fun x n1 => (takeF [61] tks n1).bind fun _ n2 => (nameF tks n2).bind fun w n3 => (takeF wEdge tks n3).bind fun _ n4 => (rangeF tks n4).bind fun e n5 => (takeF wOut tks n5).bind fun _ n6 => (rangeF tks n6).bind fun o n7 =>
  (takeF wSetup tks n7).bind fun _ n8 => (numF tks n8).bind fun s n9 => (takeF wHold tks n9).bind fun _ n10 => (numF tks n10).bind fun h n11 => (takeF wStart tks n11).bind fun _ n12 => (bitF tks n12).bind fun b n13 => .ok (.reg x w e o s h b) n13
def itemF : Pf ItemD := fun tks n => if tks[n]? = some wGate then gateF tks (n + 1) else if tks[n]? = some wPart then partF tks (n + 1) else (takeF wReg tks n).bind fun _ n1 => regF tks n1
def exprG (d : Nat) : Pf Tr := fun tks n => match parseF tks d n with
  | none => .no
  | some (.ok t m) => .ok t m
  | some (.er m) => .er m
def pinsF (tks : List (List Nat)) : Nat → List (List Nat × Nat × Nat) → Nat → RG (List (List Nat × Nat × Nat))
  | 0, _, _ => .no
  | f + 1, acc, n => if tks[n]? = some wPin then (nameF tks (n + 1)).bind fun x n1 => (rangeF tks n1).bind fun p n2 => (takeF [59] tks n2).bind fun _ n3 => pinsF tks f (acc ++ [(x, p.1, p.2)]) n3 else (takeF [125] tks n).bind fun _ m => .ok acc m
def cellF (d : Nat) : Pf CellD := fun tks n => (nameF tks n).bind fun x n1 => (namesF tks n1).bind fun ps n2 => (takeF [61] tks n2).bind fun _ n3 => (exprG d tks n3).bind fun t n4 => (takeF [123] tks n4).bind fun _ n5 => (pinsF tks (tks.length + 1) [] n5).bind fun rs n6 => .ok ⟨x, ps, t, rs⟩ n6
def itemsF (tks : List (List Nat)) : Nat → List ItemD → Nat → RG (List ItemD)
  | 0, _, _ => .no
  | f + 1, acc, n => if tks[n]? = some [125] then .ok acc (n + 1) else (itemF tks n).bind fun i n1 => (takeF [59] tks n1).bind fun _ n2 => itemsF tks f (acc ++ [i]) n2
def modF : Pf ModD := fun tks n => (nameF tks n).bind fun x n1 => (namesF tks n1).bind fun is n2 => (takeF [45, 62] tks n2).bind fun _ n3 => (namesF tks n3).bind fun os n4 => (takeF [123] tks n4).bind fun _ n5 => (itemsF tks (tks.length + 1) [] n5).bind fun its n6 => .ok ⟨x, is, os, its⟩ n6
def unitsF (d : Nat) (tks : List (List Nat)) : Nat → List CellD → List ModD → Nat → RG DeckD
  | 0, _, _, _ => .no
  | f + 1, cs, ms, n => if tks.length ≤ n then .ok ⟨cs, ms⟩ n else if tks[n]? = some wCell then (cellF d tks (n + 1)).bind fun c m => unitsF d tks f (cs ++ [c]) ms m else (takeF wModule tks n).bind fun _ n1 => (modF tks n1).bind fun x m => unitsF d tks f cs (ms ++ [x]) m
/-! ## within bounds -/
def BG {α : Type} (tks : List (List Nat)) (n : Nat) (r : RG α) : Prop := (∀ a m, r = .ok a m → n ≤ m ∧ m ≤ tks.length) ∧ ∀ m, r = .er m → m ≤ tks.length
theorem BG.bind {α β : Type} {tks : List (List Nat)} {n : Nat} {r : RG α} {f : α → Nat → RG β} (h : BG tks n r) (hf : ∀ a m, r = .ok a m → m ≤ tks.length → BG tks m (f a m)) : BG tks n (r.bind f) := by
  cases r with
  | ok a m =>
    obtain ⟨h1, h2⟩ := h.1 a m rfl
    have := hf a m rfl h2
    exact ⟨fun b k e => ⟨by have := (this.1 b k e).1; omega, (this.1 b k e).2⟩, this.2⟩
  | er m => exact ⟨(fun a k e => by cases e), (fun k e => by cases e; exact h.2 m rfl)⟩
  | no => exact ⟨(fun a k e => by cases e), (fun k e => by cases e)⟩
theorem BG.ok {α : Type} {tks : List (List Nat)} {n m : Nat} {a : α} (h : n ≤ m) (h2 : m ≤ tks.length) : BG tks n (.ok a m) := ⟨(fun b k e => by cases e; exact ⟨h, h2⟩), (fun k e => by cases e)⟩
theorem BG.er {α : Type} {tks : List (List Nat)} {n m : Nat} (h : m ≤ tks.length) : BG (α := α) tks n (.er m) := ⟨(fun b k e => by cases e), (fun k e => by cases e; exact h)⟩
theorem BG.no {α : Type} {tks : List (List Nat)} {n : Nat} : BG (α := α) tks n .no := ⟨(fun b k e => by cases e), (fun k e => by cases e)⟩
theorem take_bg {tks : List (List Nat)} {U : List Nat} {n : Nat} (h : n ≤ tks.length) : BG tks n (takeF U tks n) := by
  unfold takeF
  split
  · rename_i e
    have := some_lt e
    exact .ok (by omega) (by omega)
  · exact .er h
theorem name_bg {tks : List (List Nat)} {n : Nat} (h : n ≤ tks.length) : BG tks n (nameF tks n) := by
  unfold nameF
  split
  · rename_i T e
    have := some_lt e
    split
    · exact .ok (by omega) (by omega)
    · exact .er h
  · exact .er h
theorem num_bg {tks : List (List Nat)} {n : Nat} (h : n ≤ tks.length) : BG tks n (numF tks n) := by
  unfold numF
  split
  · rename_i T e
    have := some_lt e
    split
    · exact .ok (by omega) (by omega)
    · exact .er h
  · exact .er h
theorem bit_bg {tks : List (List Nat)} {n : Nat} (h : n ≤ tks.length) : BG tks n (bitF tks n) := by
  unfold bitF
  split
  · rename_i e
    have := some_lt e
    exact .ok (by omega) (by omega)
  · split
    · rename_i e
      have := some_lt e
      exact .ok (by omega) (by omega)
    · exact .er h
theorem more_bg {tks : List (List Nat)} : ∀ (f : Nat) (acc : List (List Nat)) (n : Nat), n ≤ tks.length → BG tks n (moreF tks f acc n)
  | 0, _, _, _ => .no
  | f + 1, acc, n, h => by
    unfold moreF
    split
    · rename_i e
      have := some_lt e
      have hb : BG tks n ((nameF tks (n + 1)).bind fun T m => moreF tks f (acc ++ [T]) m) := by
        have h1 := BG.bind (name_bg (n := n + 1) (by omega)) (f := fun T m => moreF tks f (acc ++ [T]) m) fun T m _ hm => more_bg f _ m hm
        exact ⟨fun a m e => ⟨by have := (h1.1 a m e).1; omega, (h1.1 a m e).2⟩, h1.2⟩
      exact hb
    · exact (take_bg h).bind fun _ m _ hm => .ok (Nat.le_refl _) hm
theorem names_bg {tks : List (List Nat)} {n : Nat} (h : n ≤ tks.length) : BG tks n (namesF tks n) := by
  unfold namesF
  refine (take_bg h).bind fun _ n1 _ h1 => ?_
  split
  · rename_i e
    have := some_lt e
    exact .ok (by omega) (by omega)
  · exact (name_bg h1).bind fun T n2 _ h2 => more_bg _ _ _ h2
theorem range_bg {tks : List (List Nat)} {n : Nat} (h : n ≤ tks.length) : BG tks n (rangeF tks n) :=
  (num_bg h).bind fun _ _ _ h1 => (take_bg h1).bind fun _ _ _ h2 => (num_bg h2).bind fun _ _ _ h3 => .ok (Nat.le_refl _) h3
theorem gate_bg {tks : List (List Nat)} {n : Nat} (h : n ≤ tks.length) : BG tks n (gateF tks n) :=
  (name_bg h).bind fun _ _ _ h1 => (take_bg h1).bind fun _ _ _ h2 => (name_bg h2).bind fun _ _ _ h3 => (names_bg h3).bind fun _ _ _ h4 => .ok (Nat.le_refl _) h4
theorem part_bg {tks : List (List Nat)} {n : Nat} (h : n ≤ tks.length) : BG tks n (partF tks n) :=
  (name_bg h).bind fun _ _ _ h1 => (take_bg h1).bind fun _ _ _ h2 => (names_bg h2).bind fun _ _ _ h3 => (take_bg h3).bind fun _ _ _ h4 => (name_bg h4).bind fun _ _ _ h5 => (names_bg h5).bind fun _ _ _ h6 => .ok (Nat.le_refl _) h6
theorem reg_bg {tks : List (List Nat)} {n : Nat} (h : n ≤ tks.length) : BG tks n (regF tks n) :=
  (name_bg h).bind fun _ _ _ h1 => (take_bg h1).bind fun _ _ _ h2 => (name_bg h2).bind fun _ _ _ h3 => (take_bg h3).bind fun _ _ _ h4 => (range_bg h4).bind fun _ _ _ h5 => (take_bg h5).bind fun _ _ _ h6 => (range_bg h6).bind fun _ _ _ h7 => (take_bg h7).bind fun _ _ _ h8 =>
    (num_bg h8).bind fun _ _ _ h9 => (take_bg h9).bind fun _ _ _ h10 => (num_bg h10).bind fun _ _ _ h11 => (take_bg h11).bind fun _ _ _ h12 => (bit_bg h12).bind fun _ _ _ h13 => .ok (Nat.le_refl _) h13
theorem BG.le {α : Type} {tks : List (List Nat)} {n m : Nat} {r : RG α} (h : BG tks m r) (hnm : n ≤ m) : BG tks n r := ⟨fun a k e => ⟨by have := (h.1 a k e).1; omega, (h.1 a k e).2⟩, h.2⟩
theorem item_bg {tks : List (List Nat)} {n : Nat} (h : n ≤ tks.length) : BG tks n (itemF tks n) := by
  unfold itemF
  split
  · rename_i e
    have := some_lt e
    exact (gate_bg (n := n + 1) (by omega)).le (by omega)
  · split
    · rename_i e
      have := some_lt e
      exact (part_bg (n := n + 1) (by omega)).le (by omega)
    · exact (take_bg h).bind fun _ _ _ h1 => reg_bg h1
theorem expr_bg {tks : List (List Nat)} {d n : Nat} (h : n ≤ tks.length) : BG tks n (exprG d tks n) := by
  unfold exprG
  split
  · exact .no
  · rename_i t m e
    have := parse_bd tks d n _ h e
    have h2 : n < m ∧ m ≤ tks.length := this
    exact .ok (by omega) h2.2
  · rename_i m e
    have := parse_bd tks d n _ h e
    exact .er this
theorem pins_bg {tks : List (List Nat)} : ∀ (f : Nat) (acc : List (List Nat × Nat × Nat)) (n : Nat), n ≤ tks.length → BG tks n (pinsF tks f acc n)
  | 0, _, _, _ => .no
  | f + 1, acc, n, h => by
    unfold pinsF
    split
    · rename_i e
      have := some_lt e
      exact BG.le ((name_bg (n := n + 1) (by omega)).bind fun x n1 _ h1 => (range_bg h1).bind fun p n2 _ h2 => (take_bg h2).bind fun _ n3 _ h3 => pins_bg f _ n3 h3) (by omega)
    · exact (take_bg h).bind fun _ m _ hm => .ok (Nat.le_refl _) hm
theorem cell_bg {tks : List (List Nat)} {d n : Nat} (h : n ≤ tks.length) : BG tks n (cellF d tks n) :=
  (name_bg h).bind fun _ _ _ h1 => (names_bg h1).bind fun _ _ _ h2 => (take_bg h2).bind fun _ _ _ h3 => (expr_bg h3).bind fun _ _ _ h4 => (take_bg h4).bind fun _ _ _ h5 => (pins_bg _ _ _ h5).bind fun _ _ _ h6 => .ok (Nat.le_refl _) h6
theorem items_bg {tks : List (List Nat)} : ∀ (f : Nat) (acc : List ItemD) (n : Nat), n ≤ tks.length → BG tks n (itemsF tks f acc n)
  | 0, _, _, _ => .no
  | f + 1, acc, n, h => by
    unfold itemsF
    split
    · rename_i e
      have := some_lt e
      exact .ok (by omega) (by omega)
    · exact (item_bg h).bind fun i n1 _ h1 => (take_bg h1).bind fun _ n2 _ h2 => items_bg f _ n2 h2
theorem mod_bg {tks : List (List Nat)} {n : Nat} (h : n ≤ tks.length) : BG tks n (modF tks n) :=
  (name_bg h).bind fun _ _ _ h1 => (names_bg h1).bind fun _ _ _ h2 => (take_bg h2).bind fun _ _ _ h3 => (names_bg h3).bind fun _ _ _ h4 => (take_bg h4).bind fun _ _ _ h5 => (items_bg _ _ _ h5).bind fun _ _ _ h6 => .ok (Nat.le_refl _) h6
end G
namespace G
open PySem PySem.Spec PyProof.Rows L2 Evl TL
/-! ## the reader's methods, one form for all -/
structure TxtLvI (mg : Str → Option Value) : Prop where
  int : mg "int" = none
theorem isNum_facts {T : List Nat} (h : isNum T = true) : T ≠ [] ∧ T.length ≤ 9 ∧ ∀ c ∈ T, 48 ≤ c ∧ c ≤ 57 := by
  cases T with
  | nil => cases h
  | cons c r =>
    have h' : (decide ((c :: r).length ≤ 9) && !(decide (c = 48) && !decide (c :: r = [48])) && (c :: r).all fun d => decide (d ∈ tl sDIG)) = true := h
    rw [Bool.and_eq_true, Bool.and_eq_true, List.all_eq_true] at h'
    refine ⟨List.cons_ne_nil _ _, of_decide_eq_true h'.1.1, fun d hd => ?_⟩
    have := of_decide_eq_true (h'.2 d hd)
    have all : ∀ d ∈ tl sDIG, 48 ≤ d ∧ d ≤ 57 := by decide +kernel
    exact all d this
theorem num_text {T : List Nat} (h : isNum T = true) : PySem.intText? (mk T) = some ((NumText.digitsVal T : Nat) : Int) := by
  obtain ⟨h1, h2, h3⟩ := isNum_facts h
  exact PySem.intText_digits (x := mk T) h3 h1 (by rw [mk_len]; omega)
section
variable {P : Program} {w : World} {K : PySem.W.Frag} {mg : Str → Option Value} {base : Heap}
def spTk (C B : Addr) : Sp := fun vs H Q E => ∃ (r : Addr) (U : List Nat) (tks : List (List Nat)) (n : Nat), vs = [.ref r, .str (mk U)] ∧ U ≠ [] ∧ Rd C H r tks n ∧ n ≤ tks.length ∧ TksOk tks ∧ (∀ m H', takeF U tks n = .ok () m → Kr r H H' → Rd C H' r tks m → Q .non H') ∧
  (∀ m H1 d, takeF U tks n = .er m → Kr r H H1 → H1 d = none → E (.ref B) (some d) (upd H1 d (.xd [("at", .int m)])))
def spM {α : Type} (C B : Addr) (g : Pf α) (val : α → V) : Sp := fun vs H Q E => ∃ (r : Addr) (tks : List (List Nat)) (n : Nat), vs = [.ref r] ∧ Rd C H r tks n ∧ n ≤ tks.length ∧ TksOk tks ∧ (∀ a m H', g tks n = .ok a m → Kr r H H' → Rd C H' r tks m → Q (val a) H') ∧
  (∀ m H1 d, g tks n = .er m → Kr r H H1 → H1 d = none → E (.ref B) (some d) (upd H1 d (.xd [("at", .int m)])))
def spC {α : Type} (C B : Addr) (g : Pf α) (dat : α → D) : Sp := fun vs H Q E => ∃ (r : Addr) (tks : List (List Nat)) (n : Nat), vs = [.ref r] ∧ Rd C H r tks n ∧ n ≤ tks.length ∧ TksOk tks ∧ g tks n ≠ .no ∧ (∀ a m v H', g tks n = .ok a m → Kr r H H' → Rd C H' r tks m → Rep H' v (dat a) → Q v H') ∧
  (∀ m H1 d, g tks n = .er m → Kr r H H1 → H1 d = none → E (.ref B) (some d) (upd H1 d (.xd [("at", .int m)])))
theorem takeF_ok {U : List Nat} {tks : List (List Nat)} {n : Nat} (h : tks[n]? = some U) : takeF U tks n = .ok () (n + 1) := by unfold takeF; rw [if_pos h]
theorem takeF_er {U : List Nat} {tks : List (List Nat)} {n : Nat} (h : tks[n]? ≠ some U) : takeF U tks n = .er n := by unfold takeF; rw [if_neg h]
theorem nameF_ok {T : List Nat} {tks : List (List Nat)} {n : Nat} (h : tks[n]? = some T) (hn : isName T = true) : nameF tks n = .ok T (n + 1) := by unfold nameF; rw [h]; exact if_pos hn
theorem nameF_er {tks : List (List Nat)} {n : Nat} (h : ∀ T, tks[n]? = some T → isName T = false) : nameF tks n = .er n := by
  unfold nameF
  cases e : tks[n]? with
  | none => rfl
  | some T => dsimp only; rw [if_neg (by rw [h T e]; decide)]
theorem numF_ok {T : List Nat} {tks : List (List Nat)} {n : Nat} (h : tks[n]? = some T) (hn : isNum T = true) : numF tks n = .ok (NumText.digitsVal T) (n + 1) := by unfold numF; rw [h]; exact if_pos hn
theorem numF_er {tks : List (List Nat)} {n : Nat} (h : ∀ T, tks[n]? = some T → isNum T = false) : numF tks n = .er n := by
  unfold numF
  cases e : tks[n]? with
  | none => rfl
  | some T => dsimp only; rw [if_neg (by rw [h T e]; decide)]
theorem fn_tk {C B f : Addr} {fd : FuncData} (F : FnOk P w K mg base (L2.CX P w) 3 f fd ["self", "token"] (spTake C B)) : FnOk P w K mg base (L2.CX P w) 3 f fd ["self", "token"] (spTk C B) := F.imp fun vs H Q E h => by
  obtain ⟨r, U, tks, n, rfl, hU, hR, hn, hok, q1, q2⟩ := h
  have := hok.1
  exact ⟨r, tks, n, U, rfl, hR, by omega, hU, fun h0 H' k R => q1 _ H' (takeF_ok h0) k R, fun h0 d nd => q2 n H d (takeF_er h0) Kr.refl nd⟩
theorem fn_tn {C B f : Addr} {fd : FuncData} (F : FnOk P w K mg base (L2.CX P w) 3 f fd ["self"] (spTakeName C B)) : FnOk P w K mg base (L2.CX P w) 3 f fd ["self"] (spM C B nameF fun T => .str (mk T)) := F.imp fun vs H Q E h => by
  obtain ⟨r, tks, n, rfl, hR, hn, hok, q1, q2⟩ := h
  have := hok.1
  exact ⟨r, tks, n, rfl, hR, by omega, hok.2, fun T hT hnm H' k R => q1 T _ H' (nameF_ok hT hnm) k R, fun hno H1 d e nd => q2 n H1 d (nameF_er hno) (Kr.of e) nd⟩
theorem sc_TokenReader_take_numeral : FnScope ["self", "token"] ["self"] (defScope s_TokenReader_take_numeral) := ⟨rfl, rfl, rfl, by decide +kernel, rfl, by decide +kernel, by decide +kernel⟩
theorem ok_TokenReader_take_numeral {B fB : Addr} {dB : FuncData} (OS : Own1 P w K mg base "BadSyntax" "at" B fB dB okAt) {C f fa : Addr} {fd da : FuncData} (F : Fun K "take_numeral" "TokenReader.take_numeral" s_TokenReader_take_numeral f fd) (W : Cl_TokenReader K mg C) (T : TxtLvI mg) (M_TokenReader_ahead : Meth K C "ahead" fa) (G_TokenReader_ahead : FnOk P w K mg base CX0 1 fa da ["self"] (spAhead C)) (b_TokenReader_ahead : Binds K da ["self"] [])
    (C1 : Has P w K mg base 1 "is_numeral" ["token"] spIsNum) : FnOk P w K mg base (L2.CX P w) 3 f fd ["self"] (spM C B numF fun n => .int (n : Nat)) := by
  obtain ⟨f_is_numeral, d_is_numeral, G_is_numeral, g_is_numeral, k_is_numeral, b_is_numeral⟩ := C1
  have c_TokenReader := W.cl
  refine F.okX sc_TokenReader_take_numeral (fun vs H Q E h => ?_) (fun cdv A outer s H vs Q E hr h => ?_)
  · obtain ⟨_, _, _, rfl, _⟩ := h
    rfl
  · obtain ⟨r, tks, n, rfl, hR, hn, hok, q1, q2⟩ := h
    refine ⟨_, (pss_cons (ps_set (i := 1) sc_TokenReader_take_numeral.nd rfl (.inl rfl) (pe_meth0 (pv 0) c_TokenReader M_TokenReader_ahead G_TokenReader_ahead (hr.mono (by omega)) b_TokenReader_ahead .nil pass0))
    (pss_cut (ps_if (PW.pt (pw_or (pt_cmpR op_eq (pv 1) pe_str (nomark _)) (pw_or1 (pt_not (pt_val (pe_call G_is_numeral (hr.mono (by omega)) (by rfl) g_is_numeral k_is_numeral b_is_numeral .nil pass0 (pa_cons (pv 1) pa_nil)))))))
      (pss_one (ps_raise rfl (takes_of rfl rfl rfl rfl) (pmk_own1 OS (hr.mono (by omega)) rfl (pa_cons (pe_fld (pv 0) rfl) pa_nil))))
      pss_nil)
    (pss_cons (ps_fldaug (pv 0) pe_int ip_add)
    (pss_one (ps_ret (pe_callTy call_int_str (by rfl) T.int (by decide +kernel) (pa_cons (pv 1) pa_nil))))))), ?_⟩
    obtain ⟨dx, tl, h1, h2⟩ := hR.ob
    have hn5 : n ≤ 50000 := by have := hok.1; omega
    have hT := hok.2
    refine ⟨_, rfl, r, dx, _, rfl, h1, rdF_no _ _ rfl rfl, r, tks, n, rfl, hR, ?_⟩
    refine ⟨fun σ H' => ∃ T, tks[n]? = some T ∧ isNum T = true ∧ Ex H H' ∧ σ = [some (.ref r), some (.str (mk T))], ?_, ?_⟩
    · have e : decide (V.str (mk (ahd tks n)) = V.str "") = decide (ahd tks n = []) := decV_mk _ []
      cases hg : tks[n]? with
      | none =>
        refine ⟨_, rfl, rfl, _, rfl, ?_⟩
        rw [e, ahd_none hg]
        exact iteT (iteT ⟨_, rfl, r, C, dx, _, _, rfl, h1, W.cl, W.n_at, rdF_a _ _, mk1 (fun a na => ⟨n, rfl, hn5⟩) fun d nd => q2 n H d (numF_er fun T z => by rw [hg] at z; cases z) Kr.refl nd⟩)
      | some U =>
        obtain ⟨u1, u2⟩ := hT U (List.mem_of_getElem? hg)
        refine ⟨_, rfl, rfl, _, rfl, ?_⟩
        rw [e, ahd_some hg, decide_eq_false u1]
        refine iteF ⟨_, rfl, U, rfl, u1, u2, fun H1 E1 => ⟨_, rfl, ?_⟩⟩
        cases hnm : isNum U with
        | true => exact iteF ⟨U, rfl, hnm, E1, rfl⟩
        | false =>
          exact iteT ⟨_, rfl, r, C, dx, _, _, rfl, E1 _ _ h1, W.cl, W.n_at, rdF_a _ _, mk1 (fun a na => ⟨n, rfl, hn5⟩) fun d nd => q2 n H1 d (numF_er fun T z => by rw [hg] at z; rw [← Option.some.inj z]; exact hnm) (Kr.of E1) nd⟩
    · rintro σ H1 ⟨U, hg, hnm, E1, rfl⟩
      obtain ⟨s1, s2⟩ := Rd.step (E1 _ _ h1) (E1 _ _ h2)
      obtain ⟨f1, f2, f3⟩ := isNum_facts hnm
      refine ⟨_, rfl, r, C, dx, _, _, rfl, E1 _ _ h1, W.cl, W.n_at, rdF_a _ _, _, _, rfl, rfl, dx, _, E1 _ _ h1, (by show 2 < 1000; decide), _, rfl, _, _, rfl, num_text hnm, by rw [mk_len]; omega, ?_⟩
      have e2 : putF "at" (.int ((n : Int) + 1)) (rdF tl n) = rdF tl (n + 1) := rdF_put tl n (n + 1)
      have := q1 _ _ _ (numF_ok hg hnm) ((Kr.of E1).trans s2) s1
      rw [← e2] at this
      exact this
theorem ok_TokenReader_take_bit2 {B : Addr} {C f fa ft : Addr} {fd da dt : FuncData} (F : Fun K "take_bit" "TokenReader.take_bit" s_TokenReader_take_bit f fd) (W : Cl_TokenReader K mg C) (T : TxtRd mg) (M_TokenReader_take_if : Meth K C "take_if" fa) (G_TokenReader_take_if : FnOk P w K mg base CX0 2 fa da ["self", "token"] (spTakeIf C)) (b_TokenReader_take_if : Binds K da ["self", "token"] [])
    (M_TokenReader_take : Meth K C "take" ft) (G_TokenReader_take : FnOk P w K mg base (L2.CX P w) 3 ft dt ["self", "token"] (spTake C B)) (b_TokenReader_take : Binds K dt ["self", "token"] []) : FnOk P w K mg base (L2.CX P w) 4 f fd ["self"] (spM C B bitF .bl) := by
  have c_TokenReader := W.cl
  refine F.okX sc_TokenReader_take_bit (fun vs H Q E h => ?_) (fun cdv A outer s H vs Q E hr h => ?_)
  · obtain ⟨_, _, _, rfl, _⟩ := h
    rfl
  · obtain ⟨r, tks, n, rfl, hR, hn, hok, q1, q2⟩ := h
    refine ⟨_, (pss_cons (ps_if (pt_val (pe_meth (pv 0) c_TokenReader M_TokenReader_take_if G_TokenReader_take_if (hr.mono (by omega)) b_TokenReader_take_if .nil pass0 (pa_cons pe_str pa_nil)))
      (pss_one (ps_ret pe_bl))
      pss_nil)
    (pss_cons (ps_expr (pe_meth (pv 0) c_TokenReader M_TokenReader_take G_TokenReader_take (hr.mono (by omega)) b_TokenReader_take .nil (passes_call (takes_of rfl rfl rfl rfl) fun _ _ _ _ h => h) (pa_cons pe_str pa_nil)))
    (pss_one (ps_ret pe_bl)))), ?_⟩
    have hn5 : n ≤ 50000 := by have := hok.1; omega
    obtain ⟨dx, tl, h1, h2⟩ := id hR.ob
    refine ⟨_, rfl, r, dx, _, rfl, h1, rdF_no _ _ rfl rfl, r, tks, n, [48], rfl, hR, by simp, fun h0 H' k' R' => ⟨_, rfl, ?_⟩, fun h0 => ⟨_, rfl, ?_⟩⟩
    · exact iteT (q1 false (n + 1) H' (by unfold bitF; rw [if_pos h0]) k' R')
    · refine iteF ⟨_, rfl, r, dx, _, rfl, h1, rdF_no _ _ rfl rfl, r, tks, n, [49], rfl, hR, hn5, by simp, fun h1 H' k' R' => q1 true (n + 1) H' (by unfold bitF; rw [if_neg h0, if_pos h1]) k' R', fun h1 d nd => q2 n H d (by unfold bitF; rw [if_neg h0, if_neg h1]) Kr.refl nd⟩
/-- the reader's methods -/
structure Rdr2 (P : Program) (w : World) (K : PySem.W.Frag) (mg : Str → Option Value) (base : Heap) (C B : Addr) : Prop where
  cl : Cls K C
  ahead : ∃ f fd, Meth K C "ahead" f ∧ FnOk P w K mg base CX0 1 f fd ["self"] (spAhead C) ∧ Binds K fd ["self"] []
  take_if : ∃ f fd, Meth K C "take_if" f ∧ FnOk P w K mg base CX0 2 f fd ["self", "token"] (spTakeIf C) ∧ Binds K fd ["self", "token"] []
  take : ∃ f fd, Meth K C "take" f ∧ FnOk P w K mg base (L2.CX P w) 3 f fd ["self", "token"] (spTk C B) ∧ Binds K fd ["self", "token"] []
  take_name : ∃ f fd, Meth K C "take_name" f ∧ FnOk P w K mg base (L2.CX P w) 3 f fd ["self"] (spM C B nameF fun T => .str (mk T)) ∧ Binds K fd ["self"] []
  take_numeral : ∃ f fd, Meth K C "take_numeral" f ∧ FnOk P w K mg base (L2.CX P w) 3 f fd ["self"] (spM C B numF fun n => .int (n : Nat)) ∧ Binds K fd ["self"] []
  take_bit : ∃ f fd, Meth K C "take_bit" f ∧ FnOk P w K mg base (L2.CX P w) 4 f fd ["self"] (spM C B bitF .bl) ∧ Binds K fd ["self"] []
end
end G
namespace G
open PySem PySem.Spec PyProof.Rows L2 Evl TL
section
variable {P : Program} {w : World} {K : PySem.W.Frag} {mg : Str → Option Value} {base : Heap}
theorem sc_range_parser : FnScope ["reader", "low"] ["reader"] (defScope s_range_parser) := ⟨rfl, rfl, rfl, by decide +kernel, rfl, by decide +kernel, by decide +kernel⟩
theorem ok_range {C B : Addr} (D : DfdA K mg "range_parser" "_range" s_range_parser ["reader"]) (R : Rdr2 P w K mg base C B) : HasX P w K mg base 4 "range_parser" ["reader"] (spC C B rangeF pD) := by
  obtain ⟨f_tk, d_tk, M_TokenReader_take, G_TokenReader_take, b_TokenReader_take⟩ := R.take
  obtain ⟨f_tm, d_tm, M_TokenReader_take_numeral, G_TokenReader_take_numeral, b_TokenReader_take_numeral⟩ := R.take_numeral
  have c_TokenReader := R.cl
  obtain ⟨f, fd, Fx, gf, bf⟩ := D
  refine ⟨f, fd, Fx.okX sc_range_parser (fun vs H Q E h => ?_) (fun cdv A outer s H vs Q E hr h => ?_), gf, Fx.kp, bf⟩
  · obtain ⟨_, _, _, rfl, _⟩ := h
    rfl
  · obtain ⟨r, tks, n, rfl, R0, hn0, hok, hne, q1, q2⟩ := h
    refine ⟨_, (pss_cons (ps_set (i := 1) sc_range_parser.nd rfl (.inl rfl) (pe_meth0 (pv 0) c_TokenReader M_TokenReader_take_numeral G_TokenReader_take_numeral (hr.mono (by omega)) b_TokenReader_take_numeral .nil (passes_call (takes_of rfl rfl rfl rfl) fun _ _ _ _ h => h)))
    (pss_cons (ps_expr (pe_meth (pv 0) c_TokenReader M_TokenReader_take G_TokenReader_take (hr.mono (by omega)) b_TokenReader_take .nil (passes_call (takes_of rfl rfl rfl rfl) fun _ _ _ _ h => h) (pa_cons pe_str pa_nil)))
    (pss_one (ps_ret (pe_tup (pa_cons (pv 1) (pa_cons (pe_meth0 (pv 0) c_TokenReader M_TokenReader_take_numeral G_TokenReader_take_numeral (hr.mono (by omega)) b_TokenReader_take_numeral .nil (passes_call (takes_of rfl rfl rfl rfl) fun _ _ _ _ h => h)) pa_nil))))))), ?_⟩
    have k0 : Kr r H H := Kr.refl
    have hf : rangeF tks n = rangeF tks n := rfl
    conv at hf => rhs; unfold rangeF
    obtain ⟨dx0, tl0, h10, h20⟩ := id R0.ob
    refine ⟨_, rfl, r, dx0, _, rfl, h10, rdF_no _ _ rfl rfl, r, tks, n, rfl, R0, hn0, hok, fun a m1 H1 e1 kk1 R1 => ?_, fun m Hz d e kz nd => q2 m Hz d (hf.trans (by rw [e]; first | done | rfl)) (k0.trans kz) nd⟩
    rw [e1] at hf
    dsimp only [RG.bind] at hf
    have hn1 := ((num_bg hn0).1 _ _ e1).2
    have k1 := k0.trans kk1
    obtain ⟨dx1, tl1, h11, h21⟩ := id R1.ob
    refine ⟨_, rfl, r, dx1, _, rfl, h11, rdF_no _ _ rfl rfl, r, [46, 46], tks, m1, rfl, by simp, R1, hn1, hok, fun m2 H2 e2 kk2 R2 => ?_, fun m Hz d e kz nd => q2 m Hz d (hf.trans (by rw [e]; first | done | rfl)) (k1.trans kz) nd⟩
    rw [e2] at hf
    dsimp only [RG.bind] at hf
    have hn2 := ((take_bg hn1).1 _ _ e2).2
    have k2 := k1.trans kk2
    obtain ⟨dx2, tl2, h12, h22⟩ := id R2.ob
    refine ⟨_, rfl, _, rfl, r, dx2, _, rfl, h12, rdF_no _ _ rfl rfl, r, tks, m2, rfl, R2, hn2, hok, fun b m3 H3 e3 kk3 R3 => ?_, fun m Hz d e kz nd => q2 m Hz d (hf.trans (by rw [e]; first | done | rfl)) (k2.trans kz) nd⟩
    rw [e3] at hf
    dsimp only [RG.bind] at hf
    have hn3 := ((num_bg hn2).1 _ _ e3).2
    have k3 := k2.trans kk3
    obtain ⟨dx3, tl3, h13, h23⟩ := id R3.ob
    refine ⟨(by show 2 ≤ sizeLine; decide), fun x nx => ?_⟩
    refine q1 (a, b) _ _ _ hf (k3.trans (Kr.of (Ex.new nx))) (R3.ex (Ex.new nx)) ?_
    exact Reps.tup (.cons (.int _) (.cons (.int _) .nil)) upd_same
theorem sc_gate : FnScope ["reader", "name", "cell"] ["reader"] (defScope s_gate) := ⟨rfl, rfl, rfl, by decide +kernel, rfl, by decide +kernel, by decide +kernel⟩
theorem ok_gate {C B : Addr} (D : Dfd K mg "_gate" s_gate ["reader"]) (R : Rdr2 P w K mg base C B) (C1 : HasX P w K mg base 4 "names_parser" ["reader"] (spC C B namesF nsD)) : HasX P w K mg base 5 "_gate" ["reader"] (spC C B gateF ItemD.dat) := by
  obtain ⟨f_tk, d_tk, M_TokenReader_take, G_TokenReader_take, b_TokenReader_take⟩ := R.take
  obtain ⟨f_tn, d_tn, M_TokenReader_take_name, G_TokenReader_take_name, b_TokenReader_take_name⟩ := R.take_name
  have c_TokenReader := R.cl
  obtain ⟨f_names_parser, d_names_parser, G_names_parser, g_names_parser, k_names_parser, b_names_parser⟩ := C1
  obtain ⟨f, fd, Fx, gf, bf⟩ := D
  refine ⟨f, fd, Fx.okX sc_gate (fun vs H Q E h => ?_) (fun cdv A outer s H vs Q E hr h => ?_), gf, Fx.kp, bf⟩
  · obtain ⟨_, _, _, rfl, _⟩ := h
    rfl
  · obtain ⟨r, tks, n, rfl, R0, hn0, hok, hne, q1, q2⟩ := h
    refine ⟨_, (pss_cons (ps_set (i := 1) sc_gate.nd rfl (.inl rfl) (pe_meth0 (pv 0) c_TokenReader M_TokenReader_take_name G_TokenReader_take_name (hr.mono (by omega)) b_TokenReader_take_name .nil (passes_call (takes_of rfl rfl rfl rfl) fun _ _ _ _ h => h)))
    (pss_cons (ps_expr (pe_meth (pv 0) c_TokenReader M_TokenReader_take G_TokenReader_take (hr.mono (by omega)) b_TokenReader_take .nil (passes_call (takes_of rfl rfl rfl rfl) fun _ _ _ _ h => h) (pa_cons pe_str pa_nil)))
    (pss_cons (ps_set (i := 2) sc_gate.nd rfl (.inl rfl) (pe_meth0 (pv 0) c_TokenReader M_TokenReader_take_name G_TokenReader_take_name (hr.mono (by omega)) b_TokenReader_take_name .nil (passes_call (takes_of rfl rfl rfl rfl) fun _ _ _ _ h => h)))
    (pss_one (ps_ret (pe_tup (pa_cons pe_str (pa_cons (pv 1) (pa_cons (pv 2) (pa_cons (pe_call G_names_parser (hr.mono (by omega)) (by rfl) g_names_parser k_names_parser b_names_parser .nil (passes_call (takes_of rfl rfl rfl rfl) fun _ _ _ _ h => h) (pa_cons (pv 0) pa_nil)) pa_nil)))))))))), ?_⟩
    have k0 : Kr r H H := Kr.refl
    have hf : gateF tks n = gateF tks n := rfl
    conv at hf => rhs; unfold gateF
    obtain ⟨dx0, tl0, h10, h20⟩ := id R0.ob
    refine ⟨_, rfl, r, dx0, _, rfl, h10, rdF_no _ _ rfl rfl, r, tks, n, rfl, R0, hn0, hok, fun x m1 H1 e1 kk1 R1 => ?_, fun m Hz d e kz nd => q2 m Hz d (hf.trans (by rw [e]; first | done | rfl)) (k0.trans kz) nd⟩
    rw [e1] at hf
    dsimp only [RG.bind] at hf
    have hn1 := ((name_bg hn0).1 _ _ e1).2
    have k1 := k0.trans kk1
    obtain ⟨dx1, tl1, h11, h21⟩ := id R1.ob
    refine ⟨_, rfl, r, dx1, _, rfl, h11, rdF_no _ _ rfl rfl, r, [61], tks, m1, rfl, by simp, R1, hn1, hok, fun m2 H2 e2 kk2 R2 => ?_, fun m Hz d e kz nd => q2 m Hz d (hf.trans (by rw [e]; first | done | rfl)) (k1.trans kz) nd⟩
    rw [e2] at hf
    dsimp only [RG.bind] at hf
    have hn2 := ((take_bg hn1).1 _ _ e2).2
    have k2 := k1.trans kk2
    obtain ⟨dx2, tl2, h12, h22⟩ := id R2.ob
    refine ⟨_, rfl, r, dx2, _, rfl, h12, rdF_no _ _ rfl rfl, r, tks, m2, rfl, R2, hn2, hok, fun c m3 H3 e3 kk3 R3 => ?_, fun m Hz d e kz nd => q2 m Hz d (hf.trans (by rw [e]; first | done | rfl)) (k2.trans kz) nd⟩
    rw [e3] at hf
    dsimp only [RG.bind] at hf
    have hn3 := ((name_bg hn2).1 _ _ e3).2
    have k3 := k2.trans kk3
    obtain ⟨dx3, tl3, h13, h23⟩ := id R3.ob
    refine ⟨_, rfl, _, rfl, _, rfl, r, tks, m3, rfl, R3, hn3, hok, fun z => hne (hf.trans (by rw [z]; first | done | rfl)), fun ps m4 vps H4 e4 kk4 R4 rpps => ?_, fun m Hz d e kz nd => q2 m Hz d (hf.trans (by rw [e]; first | done | rfl)) (k3.trans kz) nd⟩
    rw [e4] at hf
    dsimp only [RG.bind] at hf
    have hn4 := ((names_bg hn3).1 _ _ e4).2
    have k4 := k3.trans kk4
    obtain ⟨dx4, tl4, h14, h24⟩ := id R4.ob
    refine ⟨(by show 4 ≤ sizeLine; decide), fun y ny => ?_⟩
    refine q1 (.gate x c ps) _ _ _ hf (k4.trans (Kr.of (Ex.new ny))) (R4.ex (Ex.new ny)) ?_
    exact Reps.tup (.cons (.str _) (.cons (.str _) (.cons (.str _) (.cons (rpps.ex (Ex.new ny)) .nil)))) upd_same
theorem sc_part : FnScope ["reader", "name", "outputs", "module"] ["reader"] (defScope s_part) := ⟨rfl, rfl, rfl, by decide +kernel, rfl, by decide +kernel, by decide +kernel⟩
theorem ok_part {C B : Addr} (D : Dfd K mg "_part" s_part ["reader"]) (R : Rdr2 P w K mg base C B) (C1 : HasX P w K mg base 4 "names_parser" ["reader"] (spC C B namesF nsD)) : HasX P w K mg base 5 "_part" ["reader"] (spC C B partF ItemD.dat) := by
  obtain ⟨f_tk, d_tk, M_TokenReader_take, G_TokenReader_take, b_TokenReader_take⟩ := R.take
  obtain ⟨f_tn, d_tn, M_TokenReader_take_name, G_TokenReader_take_name, b_TokenReader_take_name⟩ := R.take_name
  have c_TokenReader := R.cl
  obtain ⟨f_names_parser, d_names_parser, G_names_parser, g_names_parser, k_names_parser, b_names_parser⟩ := C1
  obtain ⟨f, fd, Fx, gf, bf⟩ := D
  refine ⟨f, fd, Fx.okX sc_part (fun vs H Q E h => ?_) (fun cdv A outer s H vs Q E hr h => ?_), gf, Fx.kp, bf⟩
  · obtain ⟨_, _, _, rfl, _⟩ := h
    rfl
  · obtain ⟨r, tks, n, rfl, R0, hn0, hok, hne, q1, q2⟩ := h
    refine ⟨_, (pss_cons (ps_set (i := 1) sc_part.nd rfl (.inl rfl) (pe_meth0 (pv 0) c_TokenReader M_TokenReader_take_name G_TokenReader_take_name (hr.mono (by omega)) b_TokenReader_take_name .nil (passes_call (takes_of rfl rfl rfl rfl) fun _ _ _ _ h => h)))
    (pss_cons (ps_expr (pe_meth (pv 0) c_TokenReader M_TokenReader_take G_TokenReader_take (hr.mono (by omega)) b_TokenReader_take .nil (passes_call (takes_of rfl rfl rfl rfl) fun _ _ _ _ h => h) (pa_cons pe_str pa_nil)))
    (pss_cons (ps_set (i := 2) sc_part.nd rfl (.inl rfl) (pe_call G_names_parser (hr.mono (by omega)) (by rfl) g_names_parser k_names_parser b_names_parser .nil (passes_call (takes_of rfl rfl rfl rfl) fun _ _ _ _ h => h) (pa_cons (pv 0) pa_nil)))
    (pss_cons (ps_expr (pe_meth (pv 0) c_TokenReader M_TokenReader_take G_TokenReader_take (hr.mono (by omega)) b_TokenReader_take .nil (passes_call (takes_of rfl rfl rfl rfl) fun _ _ _ _ h => h) (pa_cons pe_str pa_nil)))
    (pss_cons (ps_set (i := 3) sc_part.nd rfl (.inl rfl) (pe_meth0 (pv 0) c_TokenReader M_TokenReader_take_name G_TokenReader_take_name (hr.mono (by omega)) b_TokenReader_take_name .nil (passes_call (takes_of rfl rfl rfl rfl) fun _ _ _ _ h => h)))
    (pss_one (ps_ret (pe_tup (pa_cons pe_str (pa_cons (pv 1) (pa_cons (pv 2) (pa_cons (pv 3) (pa_cons (pe_call G_names_parser (hr.mono (by omega)) (by rfl) g_names_parser k_names_parser b_names_parser .nil (passes_call (takes_of rfl rfl rfl rfl) fun _ _ _ _ h => h) (pa_cons (pv 0) pa_nil)) pa_nil))))))))))))), ?_⟩
    have k0 : Kr r H H := Kr.refl
    have hf : partF tks n = partF tks n := rfl
    conv at hf => rhs; unfold partF
    obtain ⟨dx0, tl0, h10, h20⟩ := id R0.ob
    refine ⟨_, rfl, r, dx0, _, rfl, h10, rdF_no _ _ rfl rfl, r, tks, n, rfl, R0, hn0, hok, fun x m1 H1 e1 kk1 R1 => ?_, fun m Hz d e kz nd => q2 m Hz d (hf.trans (by rw [e]; first | done | rfl)) (k0.trans kz) nd⟩
    rw [e1] at hf
    dsimp only [RG.bind] at hf
    have hn1 := ((name_bg hn0).1 _ _ e1).2
    have k1 := k0.trans kk1
    obtain ⟨dx1, tl1, h11, h21⟩ := id R1.ob
    refine ⟨_, rfl, r, dx1, _, rfl, h11, rdF_no _ _ rfl rfl, r, [58], tks, m1, rfl, by simp, R1, hn1, hok, fun m2 H2 e2 kk2 R2 => ?_, fun m Hz d e kz nd => q2 m Hz d (hf.trans (by rw [e]; first | done | rfl)) (k1.trans kz) nd⟩
    rw [e2] at hf
    dsimp only [RG.bind] at hf
    have hn2 := ((take_bg hn1).1 _ _ e2).2
    have k2 := k1.trans kk2
    obtain ⟨dx2, tl2, h12, h22⟩ := id R2.ob
    refine ⟨_, rfl, r, tks, m2, rfl, R2, hn2, hok, fun z => hne (hf.trans (by rw [z]; first | done | rfl)), fun os m3 vos H3 e3 kk3 R3 rpos => ?_, fun m Hz d e kz nd => q2 m Hz d (hf.trans (by rw [e]; first | done | rfl)) (k2.trans kz) nd⟩
    rw [e3] at hf
    dsimp only [RG.bind] at hf
    have hn3 := ((names_bg hn2).1 _ _ e3).2
    have k3 := k2.trans kk3
    obtain ⟨dx3, tl3, h13, h23⟩ := id R3.ob
    refine ⟨_, rfl, r, dx3, _, rfl, h13, rdF_no _ _ rfl rfl, r, [61], tks, m3, rfl, by simp, R3, hn3, hok, fun m4 H4 e4 kk4 R4 => ?_, fun m Hz d e kz nd => q2 m Hz d (hf.trans (by rw [e]; first | done | rfl)) (k3.trans kz) nd⟩
    rw [e4] at hf
    dsimp only [RG.bind] at hf
    have hn4 := ((take_bg hn3).1 _ _ e4).2
    have k4 := k3.trans kk4
    obtain ⟨dx4, tl4, h14, h24⟩ := id R4.ob
    replace rpos := rpos.kr kk4 h13
    refine ⟨_, rfl, r, dx4, _, rfl, h14, rdF_no _ _ rfl rfl, r, tks, m4, rfl, R4, hn4, hok, fun c m5 H5 e5 kk5 R5 => ?_, fun m Hz d e kz nd => q2 m Hz d (hf.trans (by rw [e]; first | done | rfl)) (k4.trans kz) nd⟩
    rw [e5] at hf
    dsimp only [RG.bind] at hf
    have hn5 := ((name_bg hn4).1 _ _ e5).2
    have k5 := k4.trans kk5
    obtain ⟨dx5, tl5, h15, h25⟩ := id R5.ob
    replace rpos := rpos.kr kk5 h14
    refine ⟨_, rfl, _, rfl, _, rfl, _, rfl, r, tks, m5, rfl, R5, hn5, hok, fun z => hne (hf.trans (by rw [z]; first | done | rfl)), fun ps m6 vps H6 e6 kk6 R6 rpps => ?_, fun m Hz d e kz nd => q2 m Hz d (hf.trans (by rw [e]; first | done | rfl)) (k5.trans kz) nd⟩
    rw [e6] at hf
    dsimp only [RG.bind] at hf
    have hn6 := ((names_bg hn5).1 _ _ e6).2
    have k6 := k5.trans kk6
    obtain ⟨dx6, tl6, h16, h26⟩ := id R6.ob
    replace rpos := rpos.kr kk6 h15
    refine ⟨(by show 5 ≤ sizeLine; decide), fun y ny => ?_⟩
    refine q1 (.part x os c ps) _ _ _ hf (k6.trans (Kr.of (Ex.new ny))) (R6.ex (Ex.new ny)) ?_
    exact Reps.tup (.cons (.str _) (.cons (.str _) (.cons (rpos.ex (Ex.new ny)) (.cons (.str _) (.cons (rpps.ex (Ex.new ny)) .nil))))) upd_same
theorem sc_reg : FnScope ["reader", "name", "net", "edge", "out", "setup", "hold"] ["reader"] (defScope s_reg) := ⟨rfl, rfl, rfl, by decide +kernel, rfl, by decide +kernel, by decide +kernel⟩
theorem ok_reg {C B : Addr} (D : Dfd K mg "_reg" s_reg ["reader"]) (R : Rdr2 P w K mg base C B) (C1 : HasX P w K mg base 4 "range_parser" ["reader"] (spC C B rangeF pD)) : HasX P w K mg base 5 "_reg" ["reader"] (spC C B regF ItemD.dat) := by
  obtain ⟨f_tk, d_tk, M_TokenReader_take, G_TokenReader_take, b_TokenReader_take⟩ := R.take
  obtain ⟨f_tn, d_tn, M_TokenReader_take_name, G_TokenReader_take_name, b_TokenReader_take_name⟩ := R.take_name
  obtain ⟨f_tm, d_tm, M_TokenReader_take_numeral, G_TokenReader_take_numeral, b_TokenReader_take_numeral⟩ := R.take_numeral
  obtain ⟨f_tb, d_tb, M_TokenReader_take_bit, G_TokenReader_take_bit, b_TokenReader_take_bit⟩ := R.take_bit
  have c_TokenReader := R.cl
  obtain ⟨f_range_parser, d_range_parser, G_range_parser, g_range_parser, k_range_parser, b_range_parser⟩ := C1
  obtain ⟨f, fd, Fx, gf, bf⟩ := D
  refine ⟨f, fd, Fx.okX sc_reg (fun vs H Q E h => ?_) (fun cdv A outer s H vs Q E hr h => ?_), gf, Fx.kp, bf⟩
  · obtain ⟨_, _, _, rfl, _⟩ := h
    rfl
  · obtain ⟨r, tks, n, rfl, R0, hn0, hok, hne, q1, q2⟩ := h
    refine ⟨_, (pss_cons (ps_set (i := 1) sc_reg.nd rfl (.inl rfl) (pe_meth0 (pv 0) c_TokenReader M_TokenReader_take_name G_TokenReader_take_name (hr.mono (by omega)) b_TokenReader_take_name .nil (passes_call (takes_of rfl rfl rfl rfl) fun _ _ _ _ h => h)))
    (pss_cons (ps_expr (pe_meth (pv 0) c_TokenReader M_TokenReader_take G_TokenReader_take (hr.mono (by omega)) b_TokenReader_take .nil (passes_call (takes_of rfl rfl rfl rfl) fun _ _ _ _ h => h) (pa_cons pe_str pa_nil)))
    (pss_cons (ps_set (i := 2) sc_reg.nd rfl (.inl rfl) (pe_meth0 (pv 0) c_TokenReader M_TokenReader_take_name G_TokenReader_take_name (hr.mono (by omega)) b_TokenReader_take_name .nil (passes_call (takes_of rfl rfl rfl rfl) fun _ _ _ _ h => h)))
    (pss_cons (ps_expr (pe_meth (pv 0) c_TokenReader M_TokenReader_take G_TokenReader_take (hr.mono (by omega)) b_TokenReader_take .nil (passes_call (takes_of rfl rfl rfl rfl) fun _ _ _ _ h => h) (pa_cons pe_str pa_nil)))
    (pss_cons (ps_set (i := 3) sc_reg.nd rfl (.inl rfl) (pe_call G_range_parser (hr.mono (by omega)) (by rfl) g_range_parser k_range_parser b_range_parser .nil (passes_call (takes_of rfl rfl rfl rfl) fun _ _ _ _ h => h) (pa_cons (pv 0) pa_nil)))
    (pss_cons (ps_expr (pe_meth (pv 0) c_TokenReader M_TokenReader_take G_TokenReader_take (hr.mono (by omega)) b_TokenReader_take .nil (passes_call (takes_of rfl rfl rfl rfl) fun _ _ _ _ h => h) (pa_cons pe_str pa_nil)))
    (pss_cons (ps_set (i := 4) sc_reg.nd rfl (.inl rfl) (pe_call G_range_parser (hr.mono (by omega)) (by rfl) g_range_parser k_range_parser b_range_parser .nil (passes_call (takes_of rfl rfl rfl rfl) fun _ _ _ _ h => h) (pa_cons (pv 0) pa_nil)))
    (pss_cons (ps_expr (pe_meth (pv 0) c_TokenReader M_TokenReader_take G_TokenReader_take (hr.mono (by omega)) b_TokenReader_take .nil (passes_call (takes_of rfl rfl rfl rfl) fun _ _ _ _ h => h) (pa_cons pe_str pa_nil)))
    (pss_cons (ps_set (i := 5) sc_reg.nd rfl (.inl rfl) (pe_meth0 (pv 0) c_TokenReader M_TokenReader_take_numeral G_TokenReader_take_numeral (hr.mono (by omega)) b_TokenReader_take_numeral .nil (passes_call (takes_of rfl rfl rfl rfl) fun _ _ _ _ h => h)))
    (pss_cons (ps_expr (pe_meth (pv 0) c_TokenReader M_TokenReader_take G_TokenReader_take (hr.mono (by omega)) b_TokenReader_take .nil (passes_call (takes_of rfl rfl rfl rfl) fun _ _ _ _ h => h) (pa_cons pe_str pa_nil)))
    (pss_cons (ps_set (i := 6) sc_reg.nd rfl (.inl rfl) (pe_meth0 (pv 0) c_TokenReader M_TokenReader_take_numeral G_TokenReader_take_numeral (hr.mono (by omega)) b_TokenReader_take_numeral .nil (passes_call (takes_of rfl rfl rfl rfl) fun _ _ _ _ h => h)))
    (pss_cons (ps_expr (pe_meth (pv 0) c_TokenReader M_TokenReader_take G_TokenReader_take (hr.mono (by omega)) b_TokenReader_take .nil (passes_call (takes_of rfl rfl rfl rfl) fun _ _ _ _ h => h) (pa_cons pe_str pa_nil)))
    (pss_one (ps_ret (pe_tup (pa_cons pe_str (pa_cons (pv 1) (pa_cons (pv 2) (pa_cons (pv 3) (pa_cons (pv 4) (pa_cons (pv 5) (pa_cons (pv 6) (pa_cons (pe_meth0 (pv 0) c_TokenReader M_TokenReader_take_bit G_TokenReader_take_bit (hr.mono (by omega)) b_TokenReader_take_bit .nil (passes_call (takes_of rfl rfl rfl rfl) fun _ _ _ _ h => h)) pa_nil))))))))))))))))))))))), ?_⟩
    have k0 : Kr r H H := Kr.refl
    have hf : regF tks n = regF tks n := rfl
    conv at hf => rhs; unfold regF
    obtain ⟨dx0, tl0, h10, h20⟩ := id R0.ob
    refine ⟨_, rfl, r, dx0, _, rfl, h10, rdF_no _ _ rfl rfl, r, tks, n, rfl, R0, hn0, hok, fun x m1 H1 e1 kk1 R1 => ?_, fun m Hz d e kz nd => q2 m Hz d (hf.trans (by rw [e]; first | done | rfl)) (k0.trans kz) nd⟩
    rw [e1] at hf
    dsimp only [RG.bind] at hf
    have hn1 := ((name_bg hn0).1 _ _ e1).2
    have k1 := k0.trans kk1
    obtain ⟨dx1, tl1, h11, h21⟩ := id R1.ob
    refine ⟨_, rfl, r, dx1, _, rfl, h11, rdF_no _ _ rfl rfl, r, [61], tks, m1, rfl, by simp, R1, hn1, hok, fun m2 H2 e2 kk2 R2 => ?_, fun m Hz d e kz nd => q2 m Hz d (hf.trans (by rw [e]; first | done | rfl)) (k1.trans kz) nd⟩
    rw [e2] at hf
    dsimp only [RG.bind] at hf
    have hn2 := ((take_bg hn1).1 _ _ e2).2
    have k2 := k1.trans kk2
    obtain ⟨dx2, tl2, h12, h22⟩ := id R2.ob
    refine ⟨_, rfl, r, dx2, _, rfl, h12, rdF_no _ _ rfl rfl, r, tks, m2, rfl, R2, hn2, hok, fun wn m3 H3 e3 kk3 R3 => ?_, fun m Hz d e kz nd => q2 m Hz d (hf.trans (by rw [e]; first | done | rfl)) (k2.trans kz) nd⟩
    rw [e3] at hf
    dsimp only [RG.bind] at hf
    have hn3 := ((name_bg hn2).1 _ _ e3).2
    have k3 := k2.trans kk3
    obtain ⟨dx3, tl3, h13, h23⟩ := id R3.ob
    refine ⟨_, rfl, r, dx3, _, rfl, h13, rdF_no _ _ rfl rfl, r, wEdge, tks, m3, rfl, by decide +kernel, R3, hn3, hok, fun m4 H4 e4 kk4 R4 => ?_, fun m Hz d e kz nd => q2 m Hz d (hf.trans (by rw [e]; first | done | rfl)) (k3.trans kz) nd⟩
    rw [e4] at hf
    dsimp only [RG.bind] at hf
    have hn4 := ((take_bg hn3).1 _ _ e4).2
    have k4 := k3.trans kk4
    obtain ⟨dx4, tl4, h14, h24⟩ := id R4.ob
    refine ⟨_, rfl, r, tks, m4, rfl, R4, hn4, hok, fun z => hne (hf.trans (by rw [z]; first | done | rfl)), fun ed m5 ved H5 e5 kk5 R5 rped => ?_, fun m Hz d e kz nd => q2 m Hz d (hf.trans (by rw [e]; first | done | rfl)) (k4.trans kz) nd⟩
    rw [e5] at hf
    dsimp only [RG.bind] at hf
    have hn5 := ((range_bg hn4).1 _ _ e5).2
    have k5 := k4.trans kk5
    obtain ⟨dx5, tl5, h15, h25⟩ := id R5.ob
    refine ⟨_, rfl, r, dx5, _, rfl, h15, rdF_no _ _ rfl rfl, r, wOut, tks, m5, rfl, by decide +kernel, R5, hn5, hok, fun m6 H6 e6 kk6 R6 => ?_, fun m Hz d e kz nd => q2 m Hz d (hf.trans (by rw [e]; first | done | rfl)) (k5.trans kz) nd⟩
    rw [e6] at hf
    dsimp only [RG.bind] at hf
    have hn6 := ((take_bg hn5).1 _ _ e6).2
    have k6 := k5.trans kk6
    obtain ⟨dx6, tl6, h16, h26⟩ := id R6.ob
    replace rped := rped.kr kk6 h15
    refine ⟨_, rfl, r, tks, m6, rfl, R6, hn6, hok, fun z => hne (hf.trans (by rw [z]; first | done | rfl)), fun ou m7 vou H7 e7 kk7 R7 rpou => ?_, fun m Hz d e kz nd => q2 m Hz d (hf.trans (by rw [e]; first | done | rfl)) (k6.trans kz) nd⟩
    rw [e7] at hf
    dsimp only [RG.bind] at hf
    have hn7 := ((range_bg hn6).1 _ _ e7).2
    have k7 := k6.trans kk7
    obtain ⟨dx7, tl7, h17, h27⟩ := id R7.ob
    replace rped := rped.kr kk7 h16
    refine ⟨_, rfl, r, dx7, _, rfl, h17, rdF_no _ _ rfl rfl, r, wSetup, tks, m7, rfl, by decide +kernel, R7, hn7, hok, fun m8 H8 e8 kk8 R8 => ?_, fun m Hz d e kz nd => q2 m Hz d (hf.trans (by rw [e]; first | done | rfl)) (k7.trans kz) nd⟩
    rw [e8] at hf
    dsimp only [RG.bind] at hf
    have hn8 := ((take_bg hn7).1 _ _ e8).2
    have k8 := k7.trans kk8
    obtain ⟨dx8, tl8, h18, h28⟩ := id R8.ob
    replace rped := rped.kr kk8 h17
    replace rpou := rpou.kr kk8 h17
    refine ⟨_, rfl, r, dx8, _, rfl, h18, rdF_no _ _ rfl rfl, r, tks, m8, rfl, R8, hn8, hok, fun su m9 H9 e9 kk9 R9 => ?_, fun m Hz d e kz nd => q2 m Hz d (hf.trans (by rw [e]; first | done | rfl)) (k8.trans kz) nd⟩
    rw [e9] at hf
    dsimp only [RG.bind] at hf
    have hn9 := ((num_bg hn8).1 _ _ e9).2
    have k9 := k8.trans kk9
    obtain ⟨dx9, tl9, h19, h29⟩ := id R9.ob
    replace rped := rped.kr kk9 h18
    replace rpou := rpou.kr kk9 h18
    refine ⟨_, rfl, r, dx9, _, rfl, h19, rdF_no _ _ rfl rfl, r, wHold, tks, m9, rfl, by decide +kernel, R9, hn9, hok, fun m10 H10 e10 kk10 R10 => ?_, fun m Hz d e kz nd => q2 m Hz d (hf.trans (by rw [e]; first | done | rfl)) (k9.trans kz) nd⟩
    rw [e10] at hf
    dsimp only [RG.bind] at hf
    have hn10 := ((take_bg hn9).1 _ _ e10).2
    have k10 := k9.trans kk10
    obtain ⟨dx10, tl10, h110, h210⟩ := id R10.ob
    replace rped := rped.kr kk10 h19
    replace rpou := rpou.kr kk10 h19
    refine ⟨_, rfl, r, dx10, _, rfl, h110, rdF_no _ _ rfl rfl, r, tks, m10, rfl, R10, hn10, hok, fun ho m11 H11 e11 kk11 R11 => ?_, fun m Hz d e kz nd => q2 m Hz d (hf.trans (by rw [e]; first | done | rfl)) (k10.trans kz) nd⟩
    rw [e11] at hf
    dsimp only [RG.bind] at hf
    have hn11 := ((num_bg hn10).1 _ _ e11).2
    have k11 := k10.trans kk11
    obtain ⟨dx11, tl11, h111, h211⟩ := id R11.ob
    replace rped := rped.kr kk11 h110
    replace rpou := rpou.kr kk11 h110
    refine ⟨_, rfl, r, dx11, _, rfl, h111, rdF_no _ _ rfl rfl, r, wStart, tks, m11, rfl, by decide +kernel, R11, hn11, hok, fun m12 H12 e12 kk12 R12 => ?_, fun m Hz d e kz nd => q2 m Hz d (hf.trans (by rw [e]; first | done | rfl)) (k11.trans kz) nd⟩
    rw [e12] at hf
    dsimp only [RG.bind] at hf
    have hn12 := ((take_bg hn11).1 _ _ e12).2
    have k12 := k11.trans kk12
    obtain ⟨dx12, tl12, h112, h212⟩ := id R12.ob
    replace rped := rped.kr kk12 h111
    replace rpou := rpou.kr kk12 h111
    refine ⟨_, rfl, _, rfl, _, rfl, _, rfl, _, rfl, _, rfl, _, rfl, r, dx12, _, rfl, h112, rdF_no _ _ rfl rfl, r, tks, m12, rfl, R12, hn12, hok, fun bt m13 H13 e13 kk13 R13 => ?_, fun m Hz d e kz nd => q2 m Hz d (hf.trans (by rw [e]; first | done | rfl)) (k12.trans kz) nd⟩
    rw [e13] at hf
    dsimp only [RG.bind] at hf
    have hn13 := ((bit_bg hn12).1 _ _ e13).2
    have k13 := k12.trans kk13
    obtain ⟨dx13, tl13, h113, h213⟩ := id R13.ob
    replace rped := rped.kr kk13 h112
    replace rpou := rpou.kr kk13 h112
    refine ⟨(by show 8 ≤ sizeLine; decide), fun y ny => ?_⟩
    refine q1 (.reg x wn ed ou su ho bt) _ _ _ hf (k13.trans (Kr.of (Ex.new ny))) (R13.ex (Ex.new ny)) ?_
    exact Reps.tup (.cons (.str _) (.cons (.str _) (.cons (.str _) (.cons (rped.ex (Ex.new ny)) (.cons (rpou.ex (Ex.new ny)) (.cons (.int _) (.cons (.int _) (.cons (.bl _) .nil)))))))) upd_same
end
end G
namespace G
open PySem PySem.Spec PyProof.Rows L2 Evl TL
theorem take_lt {U : List Nat} {tks : List (List Nat)} {n m : Nat} (e : takeF U tks n = .ok () m) : n < m := by
  unfold takeF at e
  split at e
  · cases e; omega
  · cases e
/-- a list that is shorter than the tokens is not theirs -/
theorem Rd.upd {C : Addr} {H : Hp} {r L : Addr} {tks : List (List Nat)} {n : Nat} {xs : List V} {o' : HO} (h : Rd C H r tks n) (hLr : L ≠ r) (hL : H L = some (.lst xs)) (hlt : xs.length < tks.length) : Rd C (L2.upd H L o') r tks n := by
  obtain ⟨dx, tl, h1, h2⟩ := h.ob
  have ht : tl ≠ L := fun z => by
    rw [z, hL] at h2
    have := congrArg List.length (HO.lst.inj (Option.some.inj h2))
    rw [strsV_len] at this
    omega
  exact ⟨dx, tl, by rw [upd_ne (fun z => hLr z.symm)]; exact h1, by rw [upd_ne ht]; exact h2⟩
theorem strsV_app (a b : List (List Nat)) : strsV (a ++ b) = strsV a ++ strsV b := List.map_append
theorem reps_strs {H : Hp} : ∀ l : List (List Nat), Reps H (strsV l) (l.map sD)
  | [] => Reps.nil
  | T :: l => Reps.cons (.str _) (reps_strs l)
section
variable {P : Program} {w : World} {K : PySem.W.Frag} {mg : Str → Option Value} {base : Heap}
structure TxtTu (mg : Str → Option Value) : Prop where
  tuple : mg "tuple" = none
theorem sc_names_parser : FnScope ["reader", "names"] ["reader"] (defScope s_names_parser) := ⟨rfl, rfl, rfl, by decide +kernel, rfl, by decide +kernel, by decide +kernel⟩
theorem ok_names {C B : Addr} (D : DfdA K mg "names_parser" "_names" s_names_parser ["reader"]) (T : TxtTu mg) (R : Rdr2 P w K mg base C B) : HasX P w K mg base 4 "names_parser" ["reader"] (spC C B namesF nsD) := by
  obtain ⟨f_tk, d_tk, M_TokenReader_take, G_TokenReader_take, b_TokenReader_take⟩ := R.take
  obtain ⟨f_tn, d_tn, M_TokenReader_take_name, G_TokenReader_take_name, b_TokenReader_take_name⟩ := R.take_name
  obtain ⟨f_ti, d_ti, M_TokenReader_take_if, G_TokenReader_take_if, b_TokenReader_take_if⟩ := R.take_if
  have c_TokenReader := R.cl
  obtain ⟨f, fd, Fx, gf, bf⟩ := D
  refine ⟨f, fd, Fx.okX sc_names_parser (fun vs H Q E h => ?_) (fun cdv A outer s H vs Q E hr h => ?_), gf, Fx.kp, bf⟩
  · obtain ⟨_, _, _, rfl, _⟩ := h
    rfl
  · obtain ⟨r, tks, n, rfl, R0, hn0, hok, hne, q1, q2⟩ := h
    refine ⟨_, (pss_cons (ps_set (i := 1) sc_names_parser.nd rfl (.inl rfl) (pe_lst pa_nil))
    (pss_cons (ps_expr (pe_meth (pv 0) c_TokenReader M_TokenReader_take G_TokenReader_take (hr.mono (by omega)) b_TokenReader_take .nil (passes_call (takes_of rfl rfl rfl rfl) fun _ _ _ _ h => h) (pa_cons pe_str pa_nil)))
    (pss_cons (ps_if (pt_val (pe_meth (pv 0) c_TokenReader M_TokenReader_take_if G_TokenReader_take_if (hr.mono (by omega)) b_TokenReader_take_if .nil pass0 (pa_cons pe_str pa_nil)))
      (pss_one (ps_ret (pe_tup pa_nil)))
      pss_nil)
    (pss_cons (ps_expr (pe_bm PySem.F.plainAttrs_list PySem.F.slot_list_append PySem.F.type_list_append mt_append (pv 1) (pa_cons (pe_meth0 (pv 0) c_TokenReader M_TokenReader_take_name G_TokenReader_take_name (hr.mono (by omega)) b_TokenReader_take_name .nil (passes_call (takes_of rfl rfl rfl rfl) fun _ _ _ _ h => h)) pa_nil)))
    (pss_cons (ps_while (passes_of rfl) (pt_val (pe_meth (pv 0) c_TokenReader M_TokenReader_take_if G_TokenReader_take_if (hr.mono (by omega)) b_TokenReader_take_if .nil pass0 (pa_cons pe_str pa_nil)))
      (pss_one (ps_expr (pe_bm PySem.F.plainAttrs_list PySem.F.slot_list_append PySem.F.type_list_append mt_append (pv 1) (pa_cons (pe_meth0 (pv 0) c_TokenReader M_TokenReader_take_name G_TokenReader_take_name (hr.mono (by omega)) b_TokenReader_take_name .nil (passes_call (takes_of rfl rfl rfl rfl) fun _ _ _ _ h => h)) pa_nil)))))
    (pss_cons (ps_expr (pe_meth (pv 0) c_TokenReader M_TokenReader_take G_TokenReader_take (hr.mono (by omega)) b_TokenReader_take .nil (passes_call (takes_of rfl rfl rfl rfl) fun _ _ _ _ h => h) (pa_cons pe_str pa_nil)))
    (pss_one (ps_ret (pe_callTy call_tuple_of (by rfl) T.tuple (by decide +kernel) (pa_cons (pv 1) pa_nil)))))))))), ?_⟩
    have hf : namesF tks n = namesF tks n := rfl
    conv at hf => rhs; unfold namesF
    have hlen := hok.1
    refine ⟨(by show 0 ≤ sizeLine; decide), fun L nL => ?_⟩
    have E0 := Ex.new (o := .lst []) nL
    have R0' := R0.ex E0
    have hL0 : (upd H L (.lst [])) L = some (.lst (strsV [])) := upd_same
    have k0 : Kr r H (upd H L (.lst [])) := Kr.of E0
    obtain ⟨dxa, tla, ha1, ha2⟩ := id R0.ob
    have hLr : L ≠ r := fun z => by rw [z, ha1] at nL; cases nL
    obtain ⟨dx0, tl0, h10, h20⟩ := id R0'.ob
    generalize upd H L (.lst []) = H0 at *
    refine ⟨_, rfl, r, dx0, _, rfl, h10, rdF_no _ _ rfl rfl, r, [40], tks, n, rfl, by simp, R0', hn0, hok, fun m1 H1 e1 kk1 R1 => ?_, fun m Hz d e kz nd => q2 m Hz d (hf.trans (by rw [e]; first | done | rfl)) (k0.trans kz) nd⟩
    rw [e1] at hf
    dsimp only [RG.bind] at hf
    have hn1 := ((take_bg hn0).1 _ _ e1).2
    have hm1 : n < m1 := take_lt e1
    have k1 := k0.trans kk1
    obtain ⟨dx1, tl1, h11, h21⟩ := id R1.ob
    have hL1 := kk1 _ _ hLr hL0
    refine ⟨_, rfl, r, dx1, _, rfl, h11, rdF_no _ _ rfl rfl, r, tks, m1, [41], rfl, R1, by simp, fun h0 H2 kk2 R2 => ⟨_, rfl, iteT ?_⟩, fun h0 => ⟨_, rfl, iteF ?_⟩⟩
    · rw [if_pos h0] at hf
      refine ⟨(by show 0 ≤ sizeLine; decide), fun a na => ?_⟩
      exact q1 [] _ _ _ hf ((k1.trans kk2).trans (Kr.of (Ex.new na))) (R2.ex (Ex.new na)) (Reps.tup Reps.nil upd_same)
    rw [if_neg h0] at hf
    refine ⟨_, rfl, .inl ⟨rfl, _, SqL.of hL1⟩, _, rfl, r, dx1, _, rfl, h11, rdF_no _ _ rfl rfl, r, tks, m1, rfl, R1, hn1, hok, fun T2 m2 H2 e2 kk2 R2 => ?_, fun m Hz d e kz nd => q2 m Hz d (hf.trans (by rw [e]; first | done | rfl)) (k1.trans kz) nd⟩
    rw [e2] at hf
    dsimp only [RG.bind] at hf
    have hn2 := ((name_bg hn1).1 _ _ e2).2
    have hm12 : m1 < m2 := by
      unfold nameF at e2
      split at e2
      · split at e2
        · cases e2; omega
        · cases e2
      · cases e2
    have k2 := k1.trans kk2
    have hL2 := kk2 _ _ hLr hL1
    refine ⟨L, _, _, rfl, rfl, hL2, (by show 0 < sizeLine; decide), ?_⟩
    have hL3 : (upd H2 L (.lst (strsV [] ++ [.str (mk T2)]))) L = some (.lst (strsV [T2])) := upd_same
    have kL : Kr r H (upd H2 L (.lst (strsV [] ++ [.str (mk T2)]))) := fun b o hb hbo => by
      have hbL : b ≠ L := fun z => by rw [z, nL] at hbo; cases hbo
      rw [upd_ne hbL]
      exact k2 b o hb hbo
    have R3 : Rd C (upd H2 L (.lst (strsV [] ++ [.str (mk T2)]))) r tks m2 := R2.upd hLr hL2 (by show 0 < tks.length; omega)
    generalize upd H2 L (.lst (strsV [] ++ [.str (mk T2)])) = H3 at *
    refine ⟨fun μ σ H' => ∃ (acc : List (List Nat)) (m g : Nat), Kr r H H' ∧ Rd C H' r tks m ∧ m ≤ tks.length ∧ H' L = some (.lst (strsV acc)) ∧ namesF tks n = moreF tks g acc m ∧ acc.length < m ∧ μ = tks.length - m ∧ σ = [some (.ref r), some (.ref L)],
      ⟨_, [T2], m2, _, kL, R3, hn2, hL3, hf, by show 1 < m2; omega, rfl, rfl⟩, ?_⟩
    rintro μ σ H4 ⟨acc, m, g, k4, R4, hm, hL4, hf4, hal, rfl, rfl⟩
    obtain ⟨dx4, tl4, h14, h24⟩ := id R4.ob
    cases g with
    | zero => exact absurd hf4 hne
    | succ g =>
      unfold moreF at hf4
      refine ⟨_, rfl, r, dx4, _, rfl, h14, rdF_no _ _ rfl rfl, r, tks, m, [44], rfl, R4, by simp, fun h0 H5 kk5 R5 => ⟨_, rfl, iteT ?_⟩, fun h0 => ⟨_, rfl, iteF ?_⟩⟩
      · rw [if_pos h0] at hf4
        have hlt := some_lt h0
        have hn5 : m + 1 ≤ tks.length := by omega
        obtain ⟨dx5, tl5, h15, h25⟩ := id R5.ob
        have hL5 := kk5 _ _ hLr hL4
        refine ⟨fun σ' H'' => ∃ (acc : List (List Nat)) (m' g : Nat), m < m' ∧ Kr r H H'' ∧ Rd C H'' r tks m' ∧ m' ≤ tks.length ∧ H'' L = some (.lst (strsV acc)) ∧ namesF tks n = moreF tks g acc m' ∧ acc.length < m' ∧ σ' = [some (.ref r), some (.ref L)], ?_, ?_⟩
        · rintro σ' H'' ⟨acc', m', g', a0, a1, a2, a3, a4, a5, a6, a7⟩
          exact ⟨_, by omega, acc', m', g', a1, a2, a3, a4, a5, a6, rfl, a7⟩
        refine ⟨_, rfl, .inl ⟨rfl, _, SqL.of hL5⟩, _, rfl, r, dx5, _, rfl, h15, rdF_no _ _ rfl rfl, r, tks, m + 1, rfl, R5, hn5, hok, fun T6 m6 H6 e6 kk6 R6 => ?_, fun m Hz d e kz nd => q2 m Hz d (hf4.trans (by rw [e]; first | done | rfl)) ((k4.trans kk5).trans kz) nd⟩
        rw [e6] at hf4
        dsimp only [RG.bind] at hf4
        have hb6 := (name_bg hn5).1 _ _ e6
        have hL6 := kk6 _ _ hLr hL5
        refine ⟨L, _, _, rfl, rfl, hL6, sz_lt (by rw [strsV_len]; omega), acc ++ [T6], m6, g, by omega, ?_, R6.upd hLr hL6 (by rw [strsV_len]; omega), hb6.2, ?_, hf4, ?_, rfl⟩
        · intro b o hb hbo
          have hbL : b ≠ L := fun z => by rw [z, nL] at hbo; cases hbo
          rw [upd_ne hbL]
          exact ((k4.trans kk5).trans kk6) b o hb hbo
        · rw [upd_same, strsV_app]; rfl
        · rw [List.length_append, List.length_singleton]; omega
      · rw [if_neg h0] at hf4
        refine ⟨_, rfl, r, dx4, _, rfl, h14, rdF_no _ _ rfl rfl, r, [41], tks, m, rfl, by simp, R4, hm, hok, fun m5 H5 e5 kk5 R5 => ?_, fun m Hz d e kz nd => q2 m Hz d (hf4.trans (by rw [e]; first | done | rfl)) (k4.trans kz) nd⟩
        rw [e5] at hf4
        dsimp only [RG.bind] at hf4
        have hL5 := kk5 _ _ hLr hL4
        refine ⟨_, rfl, L, _, rfl, .inl ⟨SqL.of hL5, fun a na => ?_⟩⟩
        exact q1 acc _ _ _ hf4 ((k4.trans kk5).trans (Kr.of (Ex.new na))) (R5.ex (Ex.new na)) (Reps.tup (reps_strs acc) upd_same)
theorem sc_item_parser : FnScope ["reader"] ["reader"] (defScope s_item_parser) := ⟨rfl, rfl, rfl, by decide +kernel, rfl, by decide +kernel, by decide +kernel⟩
theorem ok_item {C B : Addr} (D : DfdA K mg "item_parser" "_item" s_item_parser ["reader"]) (R : Rdr2 P w K mg base C B) (C1 : HasX P w K mg base 5 "_gate" ["reader"] (spC C B gateF ItemD.dat)) (C2 : HasX P w K mg base 5 "_part" ["reader"] (spC C B partF ItemD.dat)) (C3 : HasX P w K mg base 5 "_reg" ["reader"] (spC C B regF ItemD.dat)) :
    HasX P w K mg base 6 "item_parser" ["reader"] (spC C B itemF ItemD.dat) := by
  obtain ⟨f_tk, d_tk, M_TokenReader_take, G_TokenReader_take, b_TokenReader_take⟩ := R.take
  obtain ⟨f_ti, d_ti, M_TokenReader_take_if, G_TokenReader_take_if, b_TokenReader_take_if⟩ := R.take_if
  obtain ⟨f_gate, d_gate, G_gate, g_gate, k_gate, b_gate⟩ := C1
  obtain ⟨f_part, d_part, G_part, g_part, k_part, b_part⟩ := C2
  obtain ⟨f_reg, d_reg, G_reg, g_reg, k_reg, b_reg⟩ := C3
  have c_TokenReader := R.cl
  obtain ⟨f, fd, Fx, gf, bf⟩ := D
  refine ⟨f, fd, Fx.okX sc_item_parser (fun vs H Q E h => ?_) (fun cdv A outer s H vs Q E hr h => ?_), gf, Fx.kp, bf⟩
  · obtain ⟨_, _, _, rfl, _⟩ := h
    rfl
  · obtain ⟨r, tks, n, rfl, R0, hn0, hok, hne, q1, q2⟩ := h
    refine ⟨_, (pss_cons (ps_if (pt_val (pe_meth (pv 0) c_TokenReader M_TokenReader_take_if G_TokenReader_take_if (hr.mono (by omega)) b_TokenReader_take_if .nil pass0 (pa_cons pe_str pa_nil)))
      (pss_one (ps_ret (pe_call G_gate (hr.mono (by omega)) (by rfl) g_gate k_gate b_gate .nil (passes_call (takes_of rfl rfl rfl rfl) fun _ _ _ _ h => h) (pa_cons (pv 0) pa_nil))))
      pss_nil)
    (pss_cons (ps_if (pt_val (pe_meth (pv 0) c_TokenReader M_TokenReader_take_if G_TokenReader_take_if (hr.mono (by omega)) b_TokenReader_take_if .nil pass0 (pa_cons pe_str pa_nil)))
      (pss_one (ps_ret (pe_call G_part (hr.mono (by omega)) (by rfl) g_part k_part b_part .nil (passes_call (takes_of rfl rfl rfl rfl) fun _ _ _ _ h => h) (pa_cons (pv 0) pa_nil))))
      pss_nil)
    (pss_cons (ps_expr (pe_meth (pv 0) c_TokenReader M_TokenReader_take G_TokenReader_take (hr.mono (by omega)) b_TokenReader_take .nil (passes_call (takes_of rfl rfl rfl rfl) fun _ _ _ _ h => h) (pa_cons pe_str pa_nil)))
    (pss_one (ps_ret (pe_call G_reg (hr.mono (by omega)) (by rfl) g_reg k_reg b_reg .nil (passes_call (takes_of rfl rfl rfl rfl) fun _ _ _ _ h => h) (pa_cons (pv 0) pa_nil))))))), ?_⟩
    have hf : itemF tks n = itemF tks n := rfl
    conv at hf => rhs; unfold itemF
    obtain ⟨dx0, tl0, h10, h20⟩ := id R0.ob
    refine ⟨_, rfl, r, dx0, _, rfl, h10, rdF_no _ _ rfl rfl, r, tks, n, wGate, rfl, R0, by decide +kernel, fun h0 H1 kk1 R1 => ⟨_, rfl, iteT ?_⟩, fun h0 => ⟨_, rfl, iteF ?_⟩⟩
    · rw [if_pos h0] at hf
      have hlt := some_lt h0
      exact ⟨_, rfl, r, tks, n + 1, rfl, R1, by omega, hok, fun z => hne (hf.trans z), fun a m v H2 e k2 R2 rp => q1 a m v H2 (hf.trans e) (kk1.trans k2) R2 rp, fun m H2 d e k2 nd => q2 m H2 d (hf.trans e) (kk1.trans k2) nd⟩
    rw [if_neg h0] at hf
    refine ⟨_, rfl, r, dx0, _, rfl, h10, rdF_no _ _ rfl rfl, r, tks, n, wPart, rfl, R0, by decide +kernel, fun h0 H1 kk1 R1 => ⟨_, rfl, iteT ?_⟩, fun h0 => ⟨_, rfl, iteF ?_⟩⟩
    · rw [if_pos h0] at hf
      have hlt := some_lt h0
      exact ⟨_, rfl, r, tks, n + 1, rfl, R1, by omega, hok, fun z => hne (hf.trans z), fun a m v H2 e k2 R2 rp => q1 a m v H2 (hf.trans e) (kk1.trans k2) R2 rp, fun m H2 d e k2 nd => q2 m H2 d (hf.trans e) (kk1.trans k2) nd⟩
    rw [if_neg h0] at hf
    refine ⟨_, rfl, r, dx0, _, rfl, h10, rdF_no _ _ rfl rfl, r, wReg, tks, n, rfl, by decide +kernel, R0, hn0, hok, fun m1 H1 e1 kk1 R1 => ?_, fun m Hz d e kz nd => q2 m Hz d (hf.trans (by rw [e]; first | done | rfl)) kz nd⟩
    rw [e1] at hf
    dsimp only [RG.bind] at hf
    have hn1 := ((take_bg hn0).1 _ _ e1).2
    exact ⟨_, rfl, r, tks, m1, rfl, R1, hn1, hok, fun z => hne (hf.trans z), fun a m v H2 e k2 R2 rp => q1 a m v H2 (hf.trans e) (kk1.trans k2) R2 rp, fun m H2 d e k2 nd => q2 m H2 d (hf.trans e) (kk1.trans k2) nd⟩
end
end G
namespace G
open PySem PySem.Spec PyProof.Rows L2 Evl TL
theorem exprG_ok {d n m : Nat} {t : Tr} {tks : List (List Nat)} (h : parseF tks d n = some (.ok t m)) : exprG d tks n = .ok t m := by unfold exprG; rw [h]
theorem exprG_er {d n m : Nat} {tks : List (List Nat)} (h : parseF tks d n = some (.er m)) : exprG d tks n = .er m := by unfold exprG; rw [h]
theorem exprG_no {d n : Nat} {tks : List (List Nat)} (h : parseF tks d n = none) : exprG d tks n = .no := by unfold exprG; rw [h]
/-- data without lists -/
inductive NL : D → Prop where
  | bl (b : Bool) : NL (.bl b)
  | int (i : Int) : NL (.int i)
  | str (s : Str) : NL (.str s)
  | tup {l : List D} (h : ∀ d ∈ l, NL d) : NL (.tup l)
theorem Rep.tx {H H' : Hp} (e : TX H H') {x : V} {d : D} (r : Rep H x d) : NL d → Rep H' x d := by
  induction r with
  | non => intro _; exact .non
  | bl b => intro _; exact .bl b
  | int i => intro _; exact .int i
  | str s => intro _; exact .str s
  | tup h hl _ ih => intro n; cases n with | tup hn => exact .tup (e _ _ h) hl fun i x d hx hd => ih i x d hx hd (hn d (List.mem_of_getElem? hd))
  | lst h hl _ ih => intro n; cases n
theorem Reps.tx {H H' : Hp} (e : TX H H') {xs : List V} {ds : List D} (h : Reps H xs ds) (n : ∀ d ∈ ds, NL d) : Reps H' xs ds := ⟨h.1, fun i x d hx hd => (h.2 i x d hx hd).tx e (n d (List.mem_of_getElem? hd))⟩
theorem TX.lst {H : Hp} {L : Addr} {xs : List V} {o : HO} (h : H L = some (.lst xs)) : TX H (upd H L o) := fun b ys hb => by
  rw [upd_ne (fun z => by rw [z, h] at hb; cases hb)]; exact hb
theorem NL.two {a b : D} (ha : NL a) (hb : NL b) : ∀ d ∈ [a, b], NL d := fun d hd => by
  rcases List.mem_cons.mp hd with h | h
  · rw [h]; exact ha
  · rw [List.mem_singleton.mp h]; exact hb
theorem NL.more {a : D} {l : List D} (ha : NL a) (hl : ∀ d ∈ l, NL d) : ∀ d ∈ a :: l, NL d := fun d hd => by
  rcases List.mem_cons.mp hd with h | h
  · rw [h]; exact ha
  · exact hl d h
theorem NL.none : ∀ d ∈ ([] : List D), NL d := fun d h => by cases h
theorem nl_s (T : List Nat) : NL (sD T) := .str _
theorem nl_ns (l : List (List Nat)) : NL (nsD l) := .tup fun d hd => by obtain ⟨T, _, rfl⟩ := List.mem_map.mp hd; exact nl_s T
theorem nl_p (p : Nat × Nat) : NL (pD p) := .tup (.two (.int _) (.int _))
theorem nl_rg (x : List Nat × Nat × Nat) : NL (rgD x) := .tup (.more (nl_s _) (.two (.int _) (.int _)))
theorem nl_rgs (l : List (List Nat × Nat × Nat)) : ∀ d ∈ l.map rgD, NL d := fun d hd => by obtain ⟨x, _, rfl⟩ := List.mem_map.mp hd; exact nl_rg x
theorem nl_tree : ∀ t : Tr, NL t.dat
  | .name x => .tup (.two (.str _) (.str _))
  | .const b => .tup (.two (.str _) (.bl _))
  | .neg t => .tup (.two (.str _) (nl_tree t))
  | .bin o l r => .tup (.more (.str _) (.two (nl_tree l) (nl_tree r)))
theorem nl_cell (c : CellD) : NL c.dat := .tup (.more (nl_s _) (.more (nl_ns _) (.two (nl_tree _) (.tup (nl_rgs _)))))
theorem nl_item : ∀ i : ItemD, NL i.dat
  | .gate n c ps => .tup (.more (.str _) (.more (nl_s _) (.two (nl_s _) (nl_ns _))))
  | .part n os m ps => .tup (.more (.str _) (.more (nl_s _) (.more (nl_ns _) (.two (nl_s _) (nl_ns _)))))
  | .reg n w e o s h b => .tup (.more (.str _) (.more (nl_s _) (.more (nl_s _) (.more (nl_p _) (.more (nl_p _) (.more (.int _) (.two (.int _) (.bl _))))))))
theorem nl_items (l : List ItemD) : ∀ d ∈ l.map ItemD.dat, NL d := fun d hd => by obtain ⟨x, _, rfl⟩ := List.mem_map.mp hd; exact nl_item x
theorem nl_mod (m : ModD) : NL m.dat := .tup (.more (nl_s _) (.more (nl_ns _) (.two (nl_ns _) (.tup (nl_items _)))))
theorem nl_cells (l : List CellD) : ∀ d ∈ l.map CellD.dat, NL d := fun d hd => by obtain ⟨x, _, rfl⟩ := List.mem_map.mp hd; exact nl_cell x
theorem nl_mods (l : List ModD) : ∀ d ∈ l.map ModD.dat, NL d := fun d hd => by obtain ⟨x, _, rfl⟩ := List.mem_map.mp hd; exact nl_mod x
theorem nl_deck (d : DeckD) : NL d.dat := .tup (.two (.tup (nl_cells _)) (.tup (nl_mods _)))
theorem name_lt {tks : List (List Nat)} {n m : Nat} {T : List Nat} (e : nameF tks n = .ok T m) : n < m := by
  unfold nameF at e
  split at e
  · split at e
    · cases e; omega
    · cases e
  · cases e
section
variable {P : Program} {w : World} {K : PySem.W.Frag} {mg : Str → Option Value} {base : Heap}
theorem sc_cell : FnScope ["reader", "name", "pins", "tree", "ranges", "pin", "low", "high"] ["reader"] (defScope s_cell) := ⟨rfl, rfl, rfl, by decide +kernel, rfl, by decide +kernel, by decide +kernel⟩
theorem ok_cell {C B fx : Addr} {dx00 : FuncData} {dp : Nat} (D : Dfd K mg "_cell" s_cell ["reader"]) (T : TxtTu mg) (R : Rdr2 P w K mg base C B) (C1 : HasX P w K mg base 4 "names_parser" ["reader"] (spC C B namesF nsD)) (C2 : HasX P w K mg base 4 "range_parser" ["reader"] (spC C B rangeF pD))
    (X : ExprC P w K mg base C B fx dx00) (G_expression : FnOk P w K mg base (L2.CX P w) (5 + 6 * dp) fx dx00 ["reader", "level"] (spExpr K C B 3 fun tks => parseF tks dp)) : HasX P w K mg base (5 + 6 * dp + 1) "_cell" ["reader"] (spC C B (cellF dp) CellD.dat) := by
  obtain ⟨f_tk, d_tk, M_TokenReader_take, G_TokenReader_take, b_TokenReader_take⟩ := R.take
  obtain ⟨f_tn, d_tn, M_TokenReader_take_name, G_TokenReader_take_name, b_TokenReader_take_name⟩ := R.take_name
  obtain ⟨f_ti, d_ti, M_TokenReader_take_if, G_TokenReader_take_if, b_TokenReader_take_if⟩ := R.take_if
  obtain ⟨f_names_parser, d_names_parser, G_names_parser, g_names_parser, k_names_parser, b_names_parser⟩ := C1
  obtain ⟨f_range_parser, d_range_parser, G_range_parser, g_range_parser, k_range_parser, b_range_parser⟩ := C2
  have g_expression := X.g
  have k_expression := X.k
  obtain ⟨ds, dv_expression, bd_expression⟩ := X.bd
  have c_TokenReader := R.cl
  obtain ⟨f, fd, Fx, gf, bf⟩ := D
  refine ⟨f, fd, Fx.okX sc_cell (fun vs H Q E h => ?_) (fun cdv A outer s H vs Q E hr h => ?_), gf, Fx.kp, bf⟩
  · obtain ⟨_, _, _, rfl, _⟩ := h
    rfl
  · obtain ⟨r, tks, n, rfl, R0, hn0, hok, hne, q1, q2⟩ := h
    refine ⟨_, (pss_cons (ps_set (i := 1) sc_cell.nd rfl (.inl rfl) (pe_meth0 (pv 0) c_TokenReader M_TokenReader_take_name G_TokenReader_take_name (hr.mono (by omega)) b_TokenReader_take_name .nil (passes_call (takes_of rfl rfl rfl rfl) fun _ _ _ _ h => h)))
    (pss_cons (ps_set (i := 2) sc_cell.nd rfl (.inl rfl) (pe_call G_names_parser (hr.mono (by omega)) (by rfl) g_names_parser k_names_parser b_names_parser .nil (passes_call (takes_of rfl rfl rfl rfl) fun _ _ _ _ h => h) (pa_cons (pv 0) pa_nil)))
    (pss_cons (ps_expr (pe_meth (pv 0) c_TokenReader M_TokenReader_take G_TokenReader_take (hr.mono (by omega)) b_TokenReader_take .nil (passes_call (takes_of rfl rfl rfl rfl) fun _ _ _ _ h => h) (pa_cons pe_str pa_nil)))
    (pss_cons (ps_set (i := 3) sc_cell.nd rfl (.inl rfl) (pe_call G_expression (hr.mono (by omega)) (by rfl) g_expression k_expression bd_expression dv_expression (passes_call (takes_of rfl rfl rfl rfl) fun _ _ _ _ h => h) (pa_cons (pv 0) pa_nil)))
    (pss_cons (ps_set (i := 4) sc_cell.nd rfl (.inl rfl) (pe_lst pa_nil))
    (pss_cons (ps_expr (pe_meth (pv 0) c_TokenReader M_TokenReader_take G_TokenReader_take (hr.mono (by omega)) b_TokenReader_take .nil (passes_call (takes_of rfl rfl rfl rfl) fun _ _ _ _ h => h) (pa_cons pe_str pa_nil)))
    (pss_cons (ps_while (passes_of rfl) (pt_val (pe_meth (pv 0) c_TokenReader M_TokenReader_take_if G_TokenReader_take_if (hr.mono (by omega)) b_TokenReader_take_if .nil pass0 (pa_cons pe_str pa_nil)))
      (pss_cons (ps_set (i := 5) sc_cell.nd rfl (.inl rfl) (pe_meth0 (pv 0) c_TokenReader M_TokenReader_take_name G_TokenReader_take_name (hr.mono (by omega)) b_TokenReader_take_name .nil (passes_call (takes_of rfl rfl rfl rfl) fun _ _ _ _ h => h)))
      (pss_cons (ps_asg (pe_call G_range_parser (hr.mono (by omega)) (by rfl) g_range_parser k_range_parser b_range_parser .nil (passes_call (takes_of rfl rfl rfl rfl) fun _ _ _ _ h => h) (pa_cons (pv 0) pa_nil)) (pg_tup rfl (pgs_cons (pg_name (i := 6) sc_cell.nd rfl (.inl rfl)) (pgs_cons (pg_name (i := 7) sc_cell.nd rfl (.inl rfl)) pgs_nil))))
      (pss_cons (ps_expr (pe_meth (pv 0) c_TokenReader M_TokenReader_take G_TokenReader_take (hr.mono (by omega)) b_TokenReader_take .nil (passes_call (takes_of rfl rfl rfl rfl) fun _ _ _ _ h => h) (pa_cons pe_str pa_nil)))
      (pss_one (ps_expr (pe_bm PySem.F.plainAttrs_list PySem.F.slot_list_append PySem.F.type_list_append mt_append (pv 4) (pa_cons (pe_tup (pa_cons (pv 5) (pa_cons (pv 6) (pa_cons (pv 7) pa_nil)))) pa_nil))))))))
    (pss_cons (ps_expr (pe_meth (pv 0) c_TokenReader M_TokenReader_take G_TokenReader_take (hr.mono (by omega)) b_TokenReader_take .nil (passes_call (takes_of rfl rfl rfl rfl) fun _ _ _ _ h => h) (pa_cons pe_str pa_nil)))
    (pss_one (ps_ret (pe_tup (pa_cons (pv 1) (pa_cons (pv 2) (pa_cons (pv 3) (pa_cons (pe_callTy call_tuple_of (by rfl) T.tuple (by decide +kernel) (pa_cons (pv 4) pa_nil)) pa_nil))))))))))))))), ?_⟩
    have k0 : Kr r H H := Kr.refl
    have hlen := hok.1
    have hf : cellF dp tks n = cellF dp tks n := rfl
    conv at hf => rhs; unfold cellF
    obtain ⟨dx0, tl0, h10, h20⟩ := id R0.ob
    refine ⟨_, rfl, r, dx0, _, rfl, h10, rdF_no _ _ rfl rfl, r, tks, n, rfl, R0, hn0, hok, fun x m1 H1 e1 kk1 R1 => ?_, fun m Hz d e kz nd => q2 m Hz d (hf.trans (by rw [e]; first | done | rfl)) (k0.trans kz) nd⟩
    rw [e1] at hf
    dsimp only [RG.bind] at hf
    have hn1 := ((name_bg hn0).1 _ _ e1).2
    have k1 := k0.trans kk1
    obtain ⟨dx1, tl1, h11, h21⟩ := id R1.ob
    refine ⟨_, rfl, r, tks, m1, rfl, R1, hn1, hok, fun z => hne (hf.trans (by rw [z]; first | done | rfl)), fun ps m2 vps H2 e2 kk2 R2 rpps => ?_, fun m Hz d e kz nd => q2 m Hz d (hf.trans (by rw [e]; first | done | rfl)) (k1.trans kz) nd⟩
    rw [e2] at hf
    dsimp only [RG.bind] at hf
    have hn2 := ((names_bg hn1).1 _ _ e2).2
    have k2 := k1.trans kk2
    obtain ⟨dx2, tl2, h12, h22⟩ := id R2.ob
    refine ⟨_, rfl, r, dx2, _, rfl, h12, rdF_no _ _ rfl rfl, r, [61], tks, m2, rfl, by simp, R2, hn2, hok, fun m3 H3 e3 kk3 R3 => ?_, fun m Hz d e kz nd => q2 m Hz d (hf.trans (by rw [e]; first | done | rfl)) (k2.trans kz) nd⟩
    rw [e3] at hf
    dsimp only [RG.bind] at hf
    have hn3 := ((take_bg hn2).1 _ _ e3).2
    have k3 := k2.trans kk3
    obtain ⟨dx3, tl3, h13, h23⟩ := id R3.ob
    replace rpps := rpps.kr kk3 h12
    cases hpf : parseF tks dp m3 with
    | none => exact absurd (hf.trans (by rw [exprG_no hpf]; first | done | rfl)) hne
    | some res =>
    refine ⟨_, rfl, r, rfl, tks, m3, res, R3, hn3, hok, hpf, fun t m4 vt H4 e4 kk4 R4 T4 => ?_, fun m Hz d e kz nd => q2 m Hz d (hf.trans (by rw [exprG_er (by rw [hpf, e])]; first | done | rfl)) (k3.trans kz) nd⟩
    subst e4
    have e4 := exprG_ok hpf
    rw [e4] at hf
    dsimp only [RG.bind] at hf
    have hn4 := ((expr_bg hn3).1 _ _ e4).2
    have hm4 := ((expr_bg hn3).1 _ _ e4).1
    have k4 := k3.trans kk4
    obtain ⟨dx4, tl4, h14, h24⟩ := id R4.ob
    replace rpps := rpps.kr kk4 h13
    have rpt := rep_tree T4
    -- the list of the ranges
    refine ⟨(by show 0 ≤ sizeLine; decide), fun L nL => ?_⟩
    have E5 := Ex.new (o := .lst []) nL
    have R4' := R4.ex E5
    have hL4 : (upd H4 L (.lst [])) L = some (.lst []) := upd_same
    have hLr : L ≠ r := fun z => by rw [z, h14] at nL; cases nL
    have k4' := k4.trans (Kr.of (r := r) E5)
    replace rpps := rpps.ex E5
    replace rpt := rpt.ex E5
    have nLH : ∀ b o, b ≠ r → H b = some o → b ≠ L := fun b o hb hbo z => by
      have := k4 b o hb hbo
      rw [z, nL] at this; cases this
    generalize upd H4 L (.lst []) = H4b at *
    clear h14
    obtain ⟨dx4b, tl4b, h14, h24b⟩ := id R4'.ob
    have hm1 := name_lt e1
    have hm2 := ((names_bg hn1).1 _ _ e2).1
    have hm3 := take_lt e3
    refine ⟨_, rfl, r, dx4b, _, rfl, h14, rdF_no _ _ rfl rfl, r, [123], tks, m4, rfl, by simp, R4', hn4, hok, fun m5 H5 e5 kk5 R5 => ?_, fun m Hz d e kz nd => q2 m Hz d (hf.trans (by rw [e]; first | done | rfl)) (k4'.trans kz) nd⟩
    rw [e5] at hf
    dsimp only [RG.bind] at hf
    have hn5 := ((take_bg hn4).1 _ _ e5).2
    have hm5 := take_lt e5
    have k5 := k4'.trans kk5
    have hL5 := kk5 _ _ hLr hL4
    replace rpps := rpps.kr kk5 h14
    replace rpt := rpt.kr kk5 h14
    have hf5 : cellF dp tks n = (pinsF tks (tks.length + 1) [] m5).bind fun rs n6 => .ok ⟨x, ps, t, rs⟩ n6 := hf
    clear hf
    refine ⟨fun μ σ H' => ∃ (acc : List (List Nat × Nat × Nat)) (xs : List V) (m g : Nat) (y5 y6 y7 : Option V), Kr r H H' ∧ Rd C H' r tks m ∧ m ≤ tks.length ∧ H' L = some (.lst xs) ∧ Reps H' xs (acc.map rgD) ∧ Rep H' vps (nsD ps) ∧ Rep H' vt t.dat ∧ cellF dp tks n = (pinsF tks g acc m).bind (fun rs n6 => .ok ⟨x, ps, t, rs⟩ n6) ∧ acc.length < m ∧ μ = tks.length - m ∧
        σ = [some (.ref r), some (.str (mk x)), some vps, some vt, some (.ref L), y5, y6, y7],
      ⟨_, [], [], m5, _, _, _, _, k5, R5, hn5, hL5, Reps.nil, rpps, rpt, hf5, by show 0 < m5; omega, rfl, rfl⟩, ?_⟩
    rintro μ σ H6 ⟨acc, xs, m, g, y5, y6, y7, k6, R6, hm, hL6, hxs, rp1, rp2, hf6, hal, rfl, rfl⟩
    obtain ⟨dx6, tl6, h16, h26⟩ := id R6.ob
    have hxl : xs.length = acc.length := by rw [hxs.1, List.length_map]
    cases g with
    | zero => exact absurd hf6 hne
    | succ g =>
      unfold pinsF at hf6
      refine ⟨_, rfl, r, dx6, _, rfl, h16, rdF_no _ _ rfl rfl, r, tks, m, wPin, rfl, R6, by decide +kernel, fun h0 H7 kk7 R7 => ⟨_, rfl, iteT ?_⟩, fun h0 => ⟨_, rfl, iteF ?_⟩⟩
      · rw [if_pos h0] at hf6
        have hlt := some_lt h0
        have hn7 : m + 1 ≤ tks.length := by omega
        obtain ⟨dx7, tl7, h17, h27⟩ := id R7.ob
        have k7 := k6.trans kk7
        have hL7 := kk7 _ _ hLr hL6
        replace hxs := hxs.kr kk7 h16
        replace rp1 := rp1.kr kk7 h16
        replace rp2 := rp2.kr kk7 h16
        refine ⟨fun σ' H'' => ∃ (acc : List (List Nat × Nat × Nat)) (xs : List V) (m' g : Nat) (y5 y6 y7 : Option V), m < m' ∧ Kr r H H'' ∧ Rd C H'' r tks m' ∧ m' ≤ tks.length ∧ H'' L = some (.lst xs) ∧ Reps H'' xs (acc.map rgD) ∧ Rep H'' vps (nsD ps) ∧ Rep H'' vt t.dat ∧ cellF dp tks n = (pinsF tks g acc m').bind (fun rs n6 => .ok ⟨x, ps, t, rs⟩ n6) ∧ acc.length < m' ∧
          σ' = [some (.ref r), some (.str (mk x)), some vps, some vt, some (.ref L), y5, y6, y7], ?_, ?_⟩
        · rintro σ' H'' ⟨acc', xs', m', g', z5, z6, z7, a0, a1, a2, a3, a4, a5, a6, a7, a8, a9, a10⟩
          exact ⟨_, by omega, acc', xs', m', g', z5, z6, z7, a1, a2, a3, a4, a5, a6, a7, a8, a9, rfl, a10⟩
        refine ⟨_, rfl, r, dx7, _, rfl, h17, rdF_no _ _ rfl rfl, r, tks, m + 1, rfl, R7, hn7, hok, fun pn m8 H8 e8 kk8 R8 => ?_, fun m Hz d e kz nd => q2 m Hz d (hf6.trans (by rw [e]; first | done | rfl)) (k7.trans kz) nd⟩
        rw [e8] at hf6
        dsimp only [RG.bind] at hf6
        have hb8 := (name_bg hn7).1 _ _ e8
        have k8 := k7.trans kk8
        obtain ⟨dx8, tl8, h18, h28⟩ := id R8.ob
        have hL8 := kk8 _ _ hLr hL7
        replace hxs := hxs.kr kk8 h17
        replace rp1 := rp1.kr kk8 h17
        replace rp2 := rp2.kr kk8 h17
        refine ⟨_, rfl, r, tks, m8, rfl, R8, hb8.2, hok, fun z => hne (hf6.trans (by rw [z]; first | done | rfl)), fun rg m9 vrg H9 e9 kk9 R9 rprg => ?_, fun m Hz d e kz nd => q2 m Hz d (hf6.trans (by rw [e]; first | done | rfl)) (k8.trans kz) nd⟩
        rw [e9] at hf6
        dsimp only [RG.bind] at hf6
        have hb9 := (range_bg hb8.2).1 _ _ e9
        have k9 := k8.trans kk9
        obtain ⟨dx9, tl9, h19, h29⟩ := id R9.ob
        have hL9 := kk9 _ _ hLr hL8
        replace hxs := hxs.kr kk9 h18
        replace rp1 := rp1.kr kk9 h18
        replace rp2 := rp2.kr kk9 h18
        obtain ⟨ra, rxs, rfl, hra, hrr⟩ := rep_tup rprg
        obtain ⟨u1, r1, rfl, g1, hr1⟩ := hrr.un
        obtain ⟨u2, r2, rfl, g2, hr2⟩ := hr1.un
        rw [rep_int g1, rep_int g2, hr2.un0] at hra
        refine ⟨ra, _, rfl, SqT.of hra, rfl, _, _, rfl, _, _, rfl, rfl, ?_⟩
        refine ⟨_, rfl, r, dx9, _, rfl, h19, rdF_no _ _ rfl rfl, r, [59], tks, m9, rfl, by simp, R9, hb9.2, hok, fun m10 H10 e10 kk10 R10 => ?_, fun m Hz d e kz nd => q2 m Hz d (hf6.trans (by rw [e]; first | done | rfl)) (k9.trans kz) nd⟩
        rw [e10] at hf6
        dsimp only [RG.bind] at hf6
        have hb10 := (take_bg hb9.2).1 _ _ e10
        have k10 := k9.trans kk10
        obtain ⟨dx10, tl10, h110, h210⟩ := id R10.ob
        have hL10 := kk10 _ _ hLr hL9
        replace hxs := hxs.kr kk10 h19
        replace rp1 := rp1.kr kk10 h19
        replace rp2 := rp2.kr kk10 h19
        refine ⟨_, rfl, .inl ⟨rfl, _, SqL.of hL10⟩, _, rfl, _, rfl, _, rfl, (by show 3 ≤ sizeLine; decide), fun y ny => ?_⟩
        have E11 := Ex.new (o := .tup [.str (mk pn), .int (rg.1 : Nat), .int (rg.2 : Nat)]) ny
        have hy : (upd H10 y (.tup [.str (mk pn), .int (rg.1 : Nat), .int (rg.2 : Nat)])) y = some (.tup [.str (mk pn), .int (rg.1 : Nat), .int (rg.2 : Nat)]) := upd_same
        have R11 := R10.ex E11
        have hL11 := E11 _ _ hL10
        have k11 := k10.trans (Kr.of (r := r) E11)
        replace hxs := hxs.ex E11
        replace rp1 := rp1.ex E11
        replace rp2 := rp2.ex E11
        generalize upd H10 y (.tup [.str (mk pn), .int (rg.1 : Nat), .int (rg.2 : Nat)]) = H11 at *
        have rpy : Rep H11 (.ref y) (rgD (pn, rg.1, rg.2)) := Reps.tup (.cons (.str _) (.cons (.int _) (.cons (.int _) .nil))) hy
        refine ⟨L, _, _, rfl, rfl, hL11, sz_lt (by omega), acc ++ [(pn, rg.1, rg.2)], xs ++ [.ref y], m10, g, _, _, _, by omega, ?_, R11.upd hLr hL11 (by omega), hb10.2, upd_same, ?_, rp1.tx (TX.lst hL11) (nl_ns _), rp2.tx (TX.lst hL11) (nl_tree _), hf6, ?_, rfl⟩
        · intro b o hb hbo
          rw [upd_ne (nLH b o hb hbo)]
          exact k11 b o hb hbo
        · rw [List.map_append]
          exact (hxs.tx (TX.lst hL11) (nl_rgs _)).snoc (rpy.tx (TX.lst hL11) (nl_rg _))
        · rw [List.length_append, List.length_singleton]; omega
      · rw [if_neg h0] at hf6
        refine ⟨_, rfl, r, dx6, _, rfl, h16, rdF_no _ _ rfl rfl, r, [125], tks, m, rfl, by simp, R6, hm, hok, fun m7 H7 e7 kk7 R7 => ?_, fun m Hz d e kz nd => q2 m Hz d (hf6.trans (by rw [e]; first | done | rfl)) (k6.trans kz) nd⟩
        rw [e7] at hf6
        dsimp only [RG.bind] at hf6
        have hL7 := kk7 _ _ hLr hL6
        replace hxs := hxs.kr kk7 h16
        replace rp1 := rp1.kr kk7 h16
        replace rp2 := rp2.kr kk7 h16
        refine ⟨_, rfl, _, rfl, _, rfl, _, rfl, L, _, rfl, .inl ⟨SqL.of hL7, fun a na => ⟨(by show 4 ≤ sizeLine; decide), fun c nc => ?_⟩⟩⟩
        have Ea := Ex.new (o := .tup xs) na
        have Ec := Ex.new (o := .tup [.str (mk x), vps, vt, .ref a]) nc
        have E8 := Ea.trans Ec
        have ha : (upd (upd H7 a (.tup xs)) c (.tup [.str (mk x), vps, vt, .ref a])) a = some (.tup xs) := Ec _ _ upd_same
        refine q1 ⟨x, ps, t, acc⟩ _ _ _ hf6 ((k6.trans kk7).trans (Kr.of E8)) (R7.ex E8) ?_
        exact Reps.tup (.cons (.str _) (.cons (rp1.ex E8) (.cons (rp2.ex E8) (.cons ((hxs.ex E8).tup ha) .nil)))) upd_same
end
end G
namespace G
open PySem PySem.Spec PyProof.Rows L2 Evl TL
theorem take_pos {U : List Nat} {tks : List (List Nat)} {n m : Nat} (e : takeF U tks n = .ok () m) : 0 < m := by have := take_lt e; omega
section
variable {P : Program} {w : World} {K : PySem.W.Frag} {mg : Str → Option Value} {base : Heap}
theorem sc_module : FnScope ["reader", "name", "inputs", "outputs", "items"] ["reader"] (defScope s_module) := ⟨rfl, rfl, rfl, by decide +kernel, rfl, by decide +kernel, by decide +kernel⟩
theorem ok_module {C B : Addr} (D : Dfd K mg "_module" s_module ["reader"]) (T : TxtTu mg) (R : Rdr2 P w K mg base C B) (C1 : HasX P w K mg base 4 "names_parser" ["reader"] (spC C B namesF nsD)) (C2 : HasX P w K mg base 6 "item_parser" ["reader"] (spC C B itemF ItemD.dat)) :
    HasX P w K mg base 7 "_module" ["reader"] (spC C B modF ModD.dat) := by
  obtain ⟨f_tk, d_tk, M_TokenReader_take, G_TokenReader_take, b_TokenReader_take⟩ := R.take
  obtain ⟨f_tn, d_tn, M_TokenReader_take_name, G_TokenReader_take_name, b_TokenReader_take_name⟩ := R.take_name
  obtain ⟨f_ti, d_ti, M_TokenReader_take_if, G_TokenReader_take_if, b_TokenReader_take_if⟩ := R.take_if
  obtain ⟨f_names_parser, d_names_parser, G_names_parser, g_names_parser, k_names_parser, b_names_parser⟩ := C1
  obtain ⟨f_item_parser, d_item_parser, G_item_parser, g_item_parser, k_item_parser, b_item_parser⟩ := C2
  have c_TokenReader := R.cl
  obtain ⟨f, fd, Fx, gf, bf⟩ := D
  refine ⟨f, fd, Fx.okX sc_module (fun vs H Q E h => ?_) (fun cdv A outer s H vs Q E hr h => ?_), gf, Fx.kp, bf⟩
  · obtain ⟨_, _, _, rfl, _⟩ := h
    rfl
  · obtain ⟨r, tks, n, rfl, R0, hn0, hok, hne, q1, q2⟩ := h
    refine ⟨_, (pss_cons (ps_set (i := 1) sc_module.nd rfl (.inl rfl) (pe_meth0 (pv 0) c_TokenReader M_TokenReader_take_name G_TokenReader_take_name (hr.mono (by omega)) b_TokenReader_take_name .nil (passes_call (takes_of rfl rfl rfl rfl) fun _ _ _ _ h => h)))
    (pss_cons (ps_set (i := 2) sc_module.nd rfl (.inl rfl) (pe_call G_names_parser (hr.mono (by omega)) (by rfl) g_names_parser k_names_parser b_names_parser .nil (passes_call (takes_of rfl rfl rfl rfl) fun _ _ _ _ h => h) (pa_cons (pv 0) pa_nil)))
    (pss_cons (ps_expr (pe_meth (pv 0) c_TokenReader M_TokenReader_take G_TokenReader_take (hr.mono (by omega)) b_TokenReader_take .nil (passes_call (takes_of rfl rfl rfl rfl) fun _ _ _ _ h => h) (pa_cons pe_str pa_nil)))
    (pss_cons (ps_set (i := 3) sc_module.nd rfl (.inl rfl) (pe_call G_names_parser (hr.mono (by omega)) (by rfl) g_names_parser k_names_parser b_names_parser .nil (passes_call (takes_of rfl rfl rfl rfl) fun _ _ _ _ h => h) (pa_cons (pv 0) pa_nil)))
    (pss_cons (ps_set (i := 4) sc_module.nd rfl (.inl rfl) (pe_lst pa_nil))
    (pss_cons (ps_expr (pe_meth (pv 0) c_TokenReader M_TokenReader_take G_TokenReader_take (hr.mono (by omega)) b_TokenReader_take .nil (passes_call (takes_of rfl rfl rfl rfl) fun _ _ _ _ h => h) (pa_cons pe_str pa_nil)))
    (pss_cons (ps_while (passes_of rfl) (pt_not (pt_val (pe_meth (pv 0) c_TokenReader M_TokenReader_take_if G_TokenReader_take_if (hr.mono (by omega)) b_TokenReader_take_if .nil pass0 (pa_cons pe_str pa_nil))))
      (pss_cons (ps_expr (pe_bm PySem.F.plainAttrs_list PySem.F.slot_list_append PySem.F.type_list_append mt_append (pv 4) (pa_cons (pe_call G_item_parser (hr.mono (by omega)) (by rfl) g_item_parser k_item_parser b_item_parser .nil (passes_call (takes_of rfl rfl rfl rfl) fun _ _ _ _ h => h) (pa_cons (pv 0) pa_nil)) pa_nil)))
      (pss_one (ps_expr (pe_meth (pv 0) c_TokenReader M_TokenReader_take G_TokenReader_take (hr.mono (by omega)) b_TokenReader_take .nil (passes_call (takes_of rfl rfl rfl rfl) fun _ _ _ _ h => h) (pa_cons pe_str pa_nil))))))
    (pss_one (ps_ret (pe_tup (pa_cons (pv 1) (pa_cons (pv 2) (pa_cons (pv 3) (pa_cons (pe_callTy call_tuple_of (by rfl) T.tuple (by decide +kernel) (pa_cons (pv 4) pa_nil)) pa_nil)))))))))))))), ?_⟩
    have k0 : Kr r H H := Kr.refl
    have hlen := hok.1
    have hf : modF tks n = modF tks n := rfl
    conv at hf => rhs; unfold modF
    obtain ⟨dx0, tl0, h10, h20⟩ := id R0.ob
    refine ⟨_, rfl, r, dx0, _, rfl, h10, rdF_no _ _ rfl rfl, r, tks, n, rfl, R0, hn0, hok, fun x m1 H1 e1 kk1 R1 => ?_, fun m Hz d e kz nd => q2 m Hz d (hf.trans (by rw [e]; first | done | rfl)) (k0.trans kz) nd⟩
    rw [e1] at hf
    dsimp only [RG.bind] at hf
    have hn1 := ((name_bg hn0).1 _ _ e1).2
    have k1 := k0.trans kk1
    obtain ⟨dx1, tl1, h11, h21⟩ := id R1.ob
    refine ⟨_, rfl, r, tks, m1, rfl, R1, hn1, hok, fun z => hne (hf.trans (by rw [z]; first | done | rfl)), fun is m2 vis H2 e2 kk2 R2 rpis => ?_, fun m Hz d e kz nd => q2 m Hz d (hf.trans (by rw [e]; first | done | rfl)) (k1.trans kz) nd⟩
    rw [e2] at hf
    dsimp only [RG.bind] at hf
    have hn2 := ((names_bg hn1).1 _ _ e2).2
    have k2 := k1.trans kk2
    obtain ⟨dx2, tl2, h12, h22⟩ := id R2.ob
    refine ⟨_, rfl, r, dx2, _, rfl, h12, rdF_no _ _ rfl rfl, r, [45, 62], tks, m2, rfl, by simp, R2, hn2, hok, fun m3 H3 e3 kk3 R3 => ?_, fun m Hz d e kz nd => q2 m Hz d (hf.trans (by rw [e]; first | done | rfl)) (k2.trans kz) nd⟩
    rw [e3] at hf
    dsimp only [RG.bind] at hf
    have hn3 := ((take_bg hn2).1 _ _ e3).2
    have k3 := k2.trans kk3
    obtain ⟨dx3, tl3, h13, h23⟩ := id R3.ob
    replace rpis := rpis.kr kk3 h12
    refine ⟨_, rfl, r, tks, m3, rfl, R3, hn3, hok, fun z => hne (hf.trans (by rw [z]; first | done | rfl)), fun os m4 vos H4 e4 kk4 R4 rpos => ?_, fun m Hz d e kz nd => q2 m Hz d (hf.trans (by rw [e]; first | done | rfl)) (k3.trans kz) nd⟩
    rw [e4] at hf
    dsimp only [RG.bind] at hf
    have hn4 := ((names_bg hn3).1 _ _ e4).2
    have k4 := k3.trans kk4
    obtain ⟨dx4, tl4, h14, h24⟩ := id R4.ob
    replace rpis := rpis.kr kk4 h13
    -- the list of the items
    refine ⟨(by show 0 ≤ sizeLine; decide), fun L nL => ?_⟩
    have E5 := Ex.new (o := .lst []) nL
    have R4' := R4.ex E5
    have hL4 : (upd H4 L (.lst [])) L = some (.lst []) := upd_same
    have hLr : L ≠ r := fun z => by rw [z, h14] at nL; cases nL
    have k4' := k4.trans (Kr.of (r := r) E5)
    replace rpis := rpis.ex E5
    replace rpos := rpos.ex E5
    have nLH : ∀ b o, b ≠ r → H b = some o → b ≠ L := fun b o hb hbo z => by
      have := k4 b o hb hbo
      rw [z, nL] at this; cases this
    generalize upd H4 L (.lst []) = H4b at *
    clear h14
    obtain ⟨dx4b, tl4b, h14, h24b⟩ := id R4'.ob
    refine ⟨_, rfl, r, dx4b, _, rfl, h14, rdF_no _ _ rfl rfl, r, [123], tks, m4, rfl, by simp, R4', hn4, hok, fun m5 H5 e5 kk5 R5 => ?_, fun m Hz d e kz nd => q2 m Hz d (hf.trans (by rw [e]; first | done | rfl)) (k4'.trans kz) nd⟩
    rw [e5] at hf
    dsimp only [RG.bind] at hf
    have hn5 := ((take_bg hn4).1 _ _ e5).2
    have hm5 := take_pos e5
    have k5 := k4'.trans kk5
    have hL5 := kk5 _ _ hLr hL4
    replace rpis := rpis.kr kk5 h14
    replace rpos := rpos.kr kk5 h14
    have hf5 : modF tks n = (itemsF tks (tks.length + 1) [] m5).bind fun its n6 => .ok ⟨x, is, os, its⟩ n6 := hf
    clear hf
    refine ⟨fun μ σ H' => ∃ (acc : List ItemD) (xs : List V) (m g : Nat), Kr r H H' ∧ Rd C H' r tks m ∧ m ≤ tks.length ∧ H' L = some (.lst xs) ∧ Reps H' xs (acc.map ItemD.dat) ∧ Rep H' vis (nsD is) ∧ Rep H' vos (nsD os) ∧ modF tks n = (itemsF tks g acc m).bind (fun its n6 => .ok ⟨x, is, os, its⟩ n6) ∧ acc.length < m ∧ μ = tks.length - m ∧
        σ = [some (.ref r), some (.str (mk x)), some vis, some vos, some (.ref L)],
      ⟨_, [], [], m5, _, k5, R5, hn5, hL5, Reps.nil, rpis, rpos, hf5, by show 0 < m5; omega, rfl, rfl⟩, ?_⟩
    rintro μ σ H6 ⟨acc, xs, m, g, k6, R6, hm, hL6, hxs, rp1, rp2, hf6, hal, rfl, rfl⟩
    obtain ⟨dx6, tl6, h16, h26⟩ := id R6.ob
    have hxl : xs.length = acc.length := by rw [hxs.1, List.length_map]
    cases g with
    | zero => exact absurd hf6 hne
    | succ g =>
      unfold itemsF at hf6
      refine ⟨_, rfl, r, dx6, _, rfl, h16, rdF_no _ _ rfl rfl, r, tks, m, [125], rfl, R6, by simp, fun h0 H7 kk7 R7 => ⟨_, rfl, iteF ?_⟩, fun h0 => ⟨_, rfl, iteT ?_⟩⟩
      · rw [if_pos h0] at hf6
        dsimp only [RG.bind] at hf6
        have hL7 := kk7 _ _ hLr hL6
        replace hxs := hxs.kr kk7 h16
        replace rp1 := rp1.kr kk7 h16
        replace rp2 := rp2.kr kk7 h16
        refine ⟨_, rfl, _, rfl, _, rfl, _, rfl, L, _, rfl, .inl ⟨SqL.of hL7, fun a na => ⟨(by show 4 ≤ sizeLine; decide), fun c nc => ?_⟩⟩⟩
        have Ea := Ex.new (o := .tup xs) na
        have Ec := Ex.new (o := .tup [.str (mk x), vis, vos, .ref a]) nc
        have E8 := Ea.trans Ec
        have ha : (upd (upd H7 a (.tup xs)) c (.tup [.str (mk x), vis, vos, .ref a])) a = some (.tup xs) := Ec _ _ upd_same
        refine q1 ⟨x, is, os, acc⟩ _ _ _ hf6 ((k6.trans kk7).trans (Kr.of E8)) (R7.ex E8) ?_
        exact Reps.tup (.cons (.str _) (.cons (rp1.ex E8) (.cons (rp2.ex E8) (.cons ((hxs.ex E8).tup ha) .nil)))) upd_same
      · rw [if_neg h0] at hf6
        refine ⟨fun σ' H'' => ∃ (acc : List ItemD) (xs : List V) (m' g : Nat), m < m' ∧ Kr r H H'' ∧ Rd C H'' r tks m' ∧ m' ≤ tks.length ∧ H'' L = some (.lst xs) ∧ Reps H'' xs (acc.map ItemD.dat) ∧ Rep H'' vis (nsD is) ∧ Rep H'' vos (nsD os) ∧ modF tks n = (itemsF tks g acc m').bind (fun its n6 => .ok ⟨x, is, os, its⟩ n6) ∧ acc.length < m' ∧
          σ' = [some (.ref r), some (.str (mk x)), some vis, some vos, some (.ref L)], ?_, ?_⟩
        · rintro σ' H'' ⟨acc', xs', m', g', a0, a1, a2, a3, a4, a5, a6, a7, a8, a9, a10⟩
          exact ⟨_, by omega, acc', xs', m', g', a1, a2, a3, a4, a5, a6, a7, a8, a9, rfl, a10⟩
        refine ⟨_, rfl, .inl ⟨rfl, _, SqL.of hL6⟩, _, rfl, r, tks, m, rfl, R6, hm, hok, fun z => hne (hf6.trans (by rw [z]; first | done | rfl)), fun it m7 vit H7 e7 kk7 R7 rpit => ?_, fun m Hz d e kz nd => q2 m Hz d (hf6.trans (by rw [e]; first | done | rfl)) (k6.trans kz) nd⟩
        rw [e7] at hf6
        dsimp only [RG.bind] at hf6
        have hb7 := (item_bg hm).1 _ _ e7
        have k7 := k6.trans kk7
        have hL7 := kk7 _ _ hLr hL6
        replace hxs := hxs.kr kk7 h16
        replace rp1 := rp1.kr kk7 h16
        replace rp2 := rp2.kr kk7 h16
        refine ⟨L, _, _, rfl, rfl, hL7, sz_lt (by omega), ?_⟩
        have R8 : Rd C (upd H7 L (.lst (xs ++ [vit]))) r tks m7 := R7.upd hLr hL7 (by omega)
        have hL8 : (upd H7 L (.lst (xs ++ [vit]))) L = some (.lst (xs ++ [vit])) := upd_same
        have tx := TX.lst (o := .lst (xs ++ [vit])) hL7
        have k8 : Kr r H (upd H7 L (.lst (xs ++ [vit]))) := fun b o hb hbo => by
          rw [upd_ne (nLH b o hb hbo)]
          exact k7 b o hb hbo
        replace rp1 := rp1.tx tx (nl_ns _)
        replace rp2 := rp2.tx tx (nl_ns _)
        have hxs8 : Reps (upd H7 L (.lst (xs ++ [vit]))) (xs ++ [vit]) ((acc ++ [it]).map ItemD.dat) := by
          rw [List.map_append]
          exact (hxs.tx tx (nl_items _)).snoc (rpit.tx tx (nl_item _))
        generalize upd H7 L (.lst (xs ++ [vit])) = H8 at *
        obtain ⟨dx8, tl8, h18, h28⟩ := id R8.ob
        refine ⟨_, rfl, r, dx8, _, rfl, h18, rdF_no _ _ rfl rfl, r, [59], tks, m7, rfl, by simp, R8, hb7.2, hok, fun m9 H9 e9 kk9 R9 => ?_, fun m Hz d e kz nd => q2 m Hz d (hf6.trans (by rw [e]; first | done | rfl)) (k8.trans kz) nd⟩
        rw [e9] at hf6
        dsimp only [RG.bind] at hf6
        have hb9 := (take_bg hb7.2).1 _ _ e9
        have hlt9 := take_lt e9
        exact ⟨acc ++ [it], _, m9, g, by omega, k8.trans kk9, R9, hb9.2, kk9 _ _ hLr hL8, hxs8.kr kk9 h18, rp1.kr kk9 h18, rp2.kr kk9 h18, hf6, by rw [List.length_append, List.length_singleton]; omega, rfl⟩
end
end G
namespace G
open PySem PySem.Spec PyProof.Rows L2 Evl TL
theorem frb {H H' : Hp} {l : Addr} (e : Ex H H') (n : H' l = none) : H l = none := by
  cases h : H l with
  | none => rfl
  | some o => rw [e _ _ h] at n; cases n
inductive OutD where
  | deck (d : DeckD) | syn (n : Nat) | deep | no
def outDk (dp : Nat) (tks : List (List Nat)) : OutD :=
  if brkF tks 0 0 = true then
    match unitsF dp tks (tks.length + 1) [] [] 0 with
    | .ok d _ => if (d.cells.all fun c => decide (c.tree.ht ≤ 20)) = true then .deck d else .deep
    | .er m => .syn m
    | .no => .no
  else .deep
section
variable {P : Program} {w : World} {K : PySem.W.Frag} {mg : Str → Option Value} {base : Heap}
def spPD (B D : Addr) (dp : Nat) : Sp := fun vs H Q E => ∃ (x : Str) (tks : List (List Nat)), vs = [.str x] ∧ x.length ≤ 50000 ∧ Lx (tl x) tks ∧ outDk dp tks ≠ .no ∧ (∀ d m, unitsF dp tks (tks.length + 1) [] [] 0 = .ok d m → ∀ c ∈ d.cells, c.tree.post.length ≤ 10000) ∧
  (∀ d v H', outDk dp tks = .deck d → Ex H H' → Rep H' v d.dat → Q v H') ∧ (∀ n H1 dd, outDk dp tks = .syn n → Ex H H1 → H1 dd = none → E (.ref B) (some dd) (upd H1 dd (.xd [("at", .int n)]))) ∧ (outDk dp tks = .deep → ∀ H1, Ex H H1 → E (.ref D) none H1)
theorem sc_parse_deck : FnScope ["text", "reader", "cells", "modules", "cell"] ["text"] (defScope s_parse_deck) := ⟨rfl, rfl, rfl, by decide +kernel, rfl, by decide +kernel, by decide +kernel⟩
theorem ok_parse_deck {C B D0 : Addr} {dp : Nat} (D : Dfd K mg "parse_deck" s_parse_deck ["text"]) (T : TxtTu mg) (R : Rdr2 P w K mg base C B) (C0 : HasX P w K mg base 4 "_reader" ["text"] (spReader C D0)) (C1 : HasX P w K mg base (5 + 6 * dp + 1) "_cell" ["reader"] (spC C B (cellF dp) CellD.dat)) (C2 : HasX P w K mg base 7 "_module" ["reader"] (spC C B modF ModD.dat))
    (C3 : HasX P w K mg base 4 "_check_height" ["tree"] (spChkH (K := K) D0)) (hdp : 1 ≤ dp) : HasX P w K mg base (5 + 6 * dp + 2) "parse_deck" ["text"] (spPD B D0 dp) := by
  obtain ⟨f_tk, d_tk, M_TokenReader_take, G_TokenReader_take, b_TokenReader_take⟩ := R.take
  obtain ⟨f_ah, d_ah, M_TokenReader_ahead, G_TokenReader_ahead, b_TokenReader_ahead⟩ := R.ahead
  obtain ⟨f_ti, d_ti, M_TokenReader_take_if, G_TokenReader_take_if, b_TokenReader_take_if⟩ := R.take_if
  obtain ⟨f_reader, d_reader, G_reader, g_reader, k_reader, b_reader⟩ := C0
  obtain ⟨f_cell, d_cell, G_cell, g_cell, k_cell, b_cell⟩ := C1
  obtain ⟨f_module, d_module, G_module, g_module, k_module, b_module⟩ := C2
  obtain ⟨f_check_height, d_check_height, G_check_height, g_check_height, k_check_height, b_check_height⟩ := C3
  have c_TokenReader := R.cl
  obtain ⟨f, fd, Fx, gf, bf⟩ := D
  refine ⟨f, fd, Fx.okX sc_parse_deck (fun vs H Q E h => ?_) (fun cdv A outer s H vs Q E hr h => ?_), gf, Fx.kp, bf⟩
  · obtain ⟨_, _, rfl, _⟩ := h
    rfl
  · obtain ⟨x, tks, rfl, hl, hx, hne, hpo, q1, q2, q3⟩ := h
    refine ⟨_, (pss_cons (ps_set (i := 1) sc_parse_deck.nd rfl (.inl rfl) (pe_call G_reader (hr.mono (by omega)) (by rfl) g_reader k_reader b_reader .nil (passes_call (takes_of rfl rfl rfl rfl) fun _ _ _ _ h => h) (pa_cons (pv 0) pa_nil)))
    (pss_cons (ps_set (i := 2) sc_parse_deck.nd rfl (.inl rfl) (pe_lst pa_nil))
    (pss_cons (ps_set (i := 3) sc_parse_deck.nd rfl (.inl rfl) (pe_lst pa_nil))
    (pss_cons (ps_while (passes_of rfl) (pt_cmpR op_ne (pe_meth0 (pv 1) c_TokenReader M_TokenReader_ahead G_TokenReader_ahead (hr.mono (by omega)) b_TokenReader_ahead .nil pass0) pe_str (nomark _))
      (pss_one (ps_if (pt_val (pe_meth (pv 1) c_TokenReader M_TokenReader_take_if G_TokenReader_take_if (hr.mono (by omega)) b_TokenReader_take_if .nil pass0 (pa_cons pe_str pa_nil)))
        (pss_one (ps_expr (pe_bm PySem.F.plainAttrs_list PySem.F.slot_list_append PySem.F.type_list_append mt_append (pv 2) (pa_cons (pe_call G_cell (hr.mono (by omega)) (by rfl) g_cell k_cell b_cell .nil (passes_call (takes_of rfl rfl rfl rfl) fun _ _ _ _ h => h) (pa_cons (pv 1) pa_nil)) pa_nil))))
        (pss_cons (ps_expr (pe_meth (pv 1) c_TokenReader M_TokenReader_take G_TokenReader_take (hr.mono (by omega)) b_TokenReader_take .nil (passes_call (takes_of rfl rfl rfl rfl) fun _ _ _ _ h => h) (pa_cons pe_str pa_nil)))
        (pss_one (ps_expr (pe_bm PySem.F.plainAttrs_list PySem.F.slot_list_append PySem.F.type_list_append mt_append (pv 3) (pa_cons (pe_call G_module (hr.mono (by omega)) (by rfl) g_module k_module b_module .nil (passes_call (takes_of rfl rfl rfl rfl) fun _ _ _ _ h => h) (pa_cons (pv 1) pa_nil)) pa_nil))))))))
    (pss_cons (ps_for (passes_of rfl) rfl (pi_list (pv 2)) (pg_name (i := 4) sc_parse_deck.nd rfl (.inl rfl))
      (pss_one (ps_expr (pe_call G_check_height (hr.mono (by omega)) (by rfl) g_check_height k_check_height b_check_height .nil (passes_call (takes_of rfl rfl rfl rfl) fun _ _ _ _ h => h) (pa_cons (pe_ix ix_tup (pv 4) pe_int (fun _ _ => rfl)) pa_nil)))))
    (pss_one (ps_ret (pe_tup (pa_cons (pe_callTy call_tuple_of (by rfl) T.tuple (by decide +kernel) (pa_cons (pv 2) pa_nil)) (pa_cons (pe_callTy call_tuple_of (by rfl) T.tuple (by decide +kernel) (pa_cons (pv 3) pa_nil)) pa_nil)))))))))), ?_⟩
    obtain ⟨lt, lok⟩ := lx_toks hx
    rw [← len_tl] at lt lok
    have hok : TksOk tks := ⟨by omega, fun T hT => ⟨(lok T hT).1, by have := (lok T hT).2; omega⟩⟩
    have hlen := hok.1
    unfold outDk at hne q1 q2 q3
    refine ⟨_, rfl, x, tks, rfl, hl, hx, fun hb r H1 E1 nr R1 => ?_, fun hb H1 E1 => q3 (by rw [if_neg (by rw [hb]; decide)]) H1 E1⟩
    rw [if_pos hb] at hne q1 q2 q3
    obtain ⟨dx1, tl1, h11, h21⟩ := id R1.ob
    -- the lists
    refine ⟨(by show 0 ≤ sizeLine; decide), fun L nL => ?_⟩
    have Ea := Ex.new (o := .lst []) nL
    have hLa : (upd H1 L (.lst [])) L = some (.lst []) := upd_same
    have R2 := R1.ex Ea
    have hLr : L ≠ r := fun z => by rw [z, h11] at nL; cases nL
    have k2 : Ex H (upd H1 L (.lst [])) := E1.trans Ea
    have h12 := Ea _ _ h11
    generalize upd H1 L (.lst []) = H2 at *
    refine ⟨(by show 0 ≤ sizeLine; decide), fun M nM => ?_⟩
    have Eb := Ex.new (o := .lst []) nM
    have hMb : (upd H2 M (.lst [])) M = some (.lst []) := upd_same
    have R3 := R2.ex Eb
    have hMr : M ≠ r := fun z => by rw [z, h12] at nM; cases nM
    have hML : M ≠ L := fun z => by rw [z, hLa] at nM; cases nM
    have k3 : Ex H (upd H2 M (.lst [])) := k2.trans Eb
    have hLb := Eb _ _ hLa
    generalize upd H2 M (.lst []) = H3 at *
    have nLH : H L = none := frb E1 nL
    have nMH : H M = none := frb k2 nM
    -- what of H is kept
    have keep : ∀ {Ha Hb : Hp}, Ex H Ha → Kr r Ha Hb → Ex H Hb := fun {Ha Hb} e k b o hbo => k b o (fun z => by rw [z, nr] at hbo; cases hbo) (e b o hbo)
    generalize hf : unitsF dp tks (tks.length + 1) [] [] 0 = res at *
    refine ⟨fun μ σ H' => ∃ (cs : List CellD) (ms : List ModD) (xs ys : List V) (m g : Nat) (y4 : Option V), Ex H H' ∧ Rd C H' r tks m ∧ m ≤ tks.length ∧ H' L = some (.lst xs) ∧ H' M = some (.lst ys) ∧ Reps H' xs (cs.map CellD.dat) ∧ Reps H' ys (ms.map ModD.dat) ∧ unitsF dp tks g cs ms m = res ∧ cs.length + ms.length ≤ m ∧ μ = tks.length - m ∧
        σ = [some (.str x), some (.ref r), some (.ref L), some (.ref M), y4], ⟨_, [], [], [], [], 0, _, _, k3, R3, Nat.zero_le _, hLb, hMb, Reps.nil, Reps.nil, hf, Nat.le_refl _, rfl, rfl⟩, ?_⟩
    rintro μ σ H4 ⟨cs, ms, xs, ys, m, g, y4, k4, R4, hm, hL4, hM4, hxs, hys, hf4, hcm, rfl, rfl⟩
    obtain ⟨dx4, tl4, h14, h24⟩ := id R4.ob
    have hxl : xs.length = cs.length := by rw [hxs.1, List.length_map]
    have hyl : ys.length = ms.length := by rw [hys.1, List.length_map]
    cases g with
    | zero =>
      have : res = .no := hf4.symm
      subst this
      exact absurd rfl hne
    | succ g =>
      unfold unitsF at hf4
      have ea : decide (V.str (mk (ahd tks m)) = V.str "") = decide (ahd tks m = []) := decV_mk _ []
      refine ⟨_, rfl, r, dx4, _, rfl, h14, rdF_no _ _ rfl rfl, r, tks, m, rfl, R4, rfl, _, rfl, ?_⟩
      rw [ea]
      by_cases hend : tks.length ≤ m
      · rw [if_pos hend] at hf4
        have hnone : tks[m]? = none := List.getElem?_eq_none hend
        rw [ahd_none hnone]
        refine iteF ?_
        subst hf4
        dsimp only at hne q1 q3
        have hcp := hpo ⟨cs, ms⟩ m rfl
        refine ⟨_, rfl, L, rfl, ⟨_, SqL.of hL4⟩, for_list (K := K) (a := L) (xs := xs)
          (fun j σ H' => Ex H4 H' ∧ (∀ i c, i < j → cs[i]? = some c → c.tree.ht ≤ 20) ∧ ∃ z4 : Option V, σ = [some (.str x), some (.ref r), some (.ref L), some (.ref M), z4]) ⟨Ex.refl _, (fun _ _ h => absurd h (Nat.not_lt_zero _)), _, rfl⟩ (fun j σ H' _ g => SqL.of (g.1 _ _ hL4)) ?_ ?_⟩
        · rintro j u σ H5 hu ⟨E5, hal, z4, rfl⟩
          have hj : j < cs.length := by rw [← hxl]; exact (List.getElem?_eq_some_iff.mp hu).1
          have hcj : cs[j]? = some cs[j] := List.getElem?_eq_getElem hj
          have hrep : Rep H4 u (cs[j]).dat := hxs.2 j u _ hu (by rw [List.getElem?_map, hcj]; rfl)
          have hcm2 : cs[j] ∈ cs := List.getElem_mem hj
          generalize cs[j] = c at *
          obtain ⟨ca, cxs, rfl, hca, hcr⟩ := rep_tup (hrep.ex E5)
          obtain ⟨u1, r1, rfl, g1, hr1⟩ := hcr.un
          obtain ⟨u2, r2, rfl, g2, hr2⟩ := hr1.un
          obtain ⟨u3, r3, rfl, g3, hr3⟩ := hr2.un
          refine ⟨_, rfl, _, _, _, _, rfl, rfl, SqT.of hca, atI_nat (j := 2) rfl, u3, c.tree, rfl, (tree_rep g3).at_, hcp c hcm2, fun h20 H6 E6 => ⟨E5.trans E6, fun i c' hi hc' => ?_, _, rfl⟩, fun h20 H6 E6 => ?_⟩
          · by_cases h : i < j
            · exact hal i c' h hc'
            · rw [show i = j by omega, hcj] at hc'
              cases hc'
              exact h20
          · refine q3 (if_neg fun hall => ?_) H6 ((k4.trans E5).trans E6)
            have := List.all_eq_true.mp hall c hcm2
            have := of_decide_eq_true this
            omega
        · rintro σ H5 ⟨E5, hal, z4, rfl⟩
          have hall : (cs.all fun c => decide (c.tree.ht ≤ 20)) = true := List.all_eq_true.mpr fun c hc => by
            obtain ⟨i, hi, e⟩ := List.getElem_of_mem hc
            exact decide_eq_true (hal i c (by omega) (List.getElem?_eq_some_iff.mpr ⟨hi, e⟩))
          refine ⟨_, rfl, L, _, rfl, .inl ⟨SqL.of (E5 _ _ hL4), fun a na => ?_⟩⟩
          have Ec := Ex.new (o := .tup xs) na
          have ha : (upd H5 a (.tup xs)) a = some (.tup xs) := upd_same
          refine ⟨_, rfl, M, _, rfl, .inl ⟨SqL.of (Ec _ _ (E5 _ _ hM4)), fun b nb => ⟨(by show 2 ≤ sizeLine; decide), fun c nc => ?_⟩⟩⟩
          have Ed := Ex.new (o := .tup ys) nb
          have hb2 : (upd (upd H5 a (.tup xs)) b (.tup ys)) b = some (.tup ys) := upd_same
          have Ee := Ex.new (o := .tup [.ref a, .ref b]) nc
          have Eall := ((E5.trans Ec).trans Ed).trans Ee
          refine q1 ⟨cs, ms⟩ _ _ (if_pos hall) (k4.trans Eall) ?_
          exact Reps.tup (.cons ((hxs.ex Eall).tup (Ee _ _ (Ed _ _ ha))) (.cons ((hys.ex Eall).tup (Ee _ _ hb2)) .nil)) upd_same
      · rw [if_neg hend] at hf4
        have hsome : tks[m]? = some tks[m] := List.getElem?_eq_getElem (by omega)
        have hTne : tks[m] ≠ [] := (hok.2 _ (List.getElem_mem _)).1
        rw [ahd_some hsome, decide_eq_false hTne]
        refine iteT ?_
        have hlt4 : m < tks.length := by omega
        refine ⟨fun σ' H'' => ∃ (cs : List CellD) (ms : List ModD) (xs ys : List V) (m' g : Nat) (y4 : Option V), m < m' ∧ Ex H H'' ∧ Rd C H'' r tks m' ∧ m' ≤ tks.length ∧ H'' L = some (.lst xs) ∧ H'' M = some (.lst ys) ∧ Reps H'' xs (cs.map CellD.dat) ∧ Reps H'' ys (ms.map ModD.dat) ∧ unitsF dp tks g cs ms m' = res ∧ cs.length + ms.length ≤ m' ∧
          σ' = [some (.str x), some (.ref r), some (.ref L), some (.ref M), y4], ?_, ?_⟩
        · rintro σ' H'' ⟨cs', ms', xs', ys', m', g', z4, a0, a1, a2, a3, a4, a5, a6, a7, a8, a9, a10⟩
          exact ⟨_, by omega, cs', ms', xs', ys', m', g', z4, a1, a2, a3, a4, a5, a6, a7, a8, a9, rfl, a10⟩
        refine ⟨_, rfl, r, dx4, _, rfl, h14, rdF_no _ _ rfl rfl, r, tks, m, wCell, rfl, R4, by decide +kernel, fun h0 H5 kk5 R5 => ⟨_, rfl, iteT ?_⟩, fun h0 => ⟨_, rfl, iteF ?_⟩⟩
        · rw [if_pos h0] at hf4
          have k5 := keep k4 kk5
          have hL5 := kk5 _ _ hLr hL4
          have hM5 := kk5 _ _ hMr hM4
          replace hxs := hxs.kr kk5 h14
          replace hys := hys.kr kk5 h14
          obtain ⟨dx5, tl5, h15, h25⟩ := id R5.ob
          refine ⟨_, rfl, .inl ⟨rfl, _, SqL.of hL5⟩, _, rfl, r, tks, m + 1, rfl, R5, by omega, hok, fun z => ?_, fun c m6 vc H6 e6 kk6 R6 rpc => ?_, fun m' Hz d e kz nd => ?_⟩
          · have e : res = .no := by rw [← hf4, z]; first | done | rfl
            subst e
            exact hne rfl
          · rw [e6] at hf4
            dsimp only [RG.bind] at hf4
            have hb6 := (cell_bg (show m + 1 ≤ tks.length by omega)).1 _ _ e6
            have k6 := keep k5 kk6
            have hL6 := kk6 _ _ hLr hL5
            have hM6 := kk6 _ _ hMr hM5
            have tx := TX.lst (o := .lst (xs ++ [vc])) hL6
            refine ⟨L, _, _, rfl, rfl, hL6, sz_lt (by omega), cs ++ [c], ms, xs ++ [vc], ys, m6, g, _, by omega, ?_, R6.upd hLr hL6 (by omega), hb6.2, upd_same, by rw [upd_ne hML]; exact hM6, ?_, (hys.kr kk6 h15).tx tx (nl_mods _), hf4, by rw [List.length_append, List.length_singleton]; omega, rfl⟩
            · intro b o hbo
              rw [upd_ne (fun z => by rw [z, nLH] at hbo; cases hbo)]
              exact k6 b o hbo
            · rw [List.map_append]
              exact ((hxs.kr kk6 h15).tx tx (nl_cells _)).snoc (rpc.tx tx (nl_cell _))
          · have e2 : res = .er m' := by rw [← hf4, e]; first | done | rfl
            subst e2
            exact q2 m' Hz d rfl (keep k5 kz) nd
        · rw [if_neg h0] at hf4
          refine ⟨_, rfl, r, dx4, _, rfl, h14, rdF_no _ _ rfl rfl, r, wModule, tks, m, rfl, by decide +kernel, R4, hm, hok, fun m5 H5 e5 kk5 R5 => ?_, fun m' Hz d e kz nd => ?_⟩
          rotate_left
          · have e2 : res = .er m' := by rw [← hf4, e]; first | done | rfl
            subst e2
            exact q2 m' Hz d rfl (keep k4 kz) nd
          rw [e5] at hf4
          dsimp only [RG.bind] at hf4
          have hn5 := ((take_bg hm).1 _ _ e5).2
          have hlt5 := take_lt e5
          have k5 := keep k4 kk5
          have hL5 := kk5 _ _ hLr hL4
          have hM5 := kk5 _ _ hMr hM4
          replace hxs := hxs.kr kk5 h14
          replace hys := hys.kr kk5 h14
          obtain ⟨dx5, tl5, h15, h25⟩ := id R5.ob
          refine ⟨_, rfl, .inl ⟨rfl, _, SqL.of hM5⟩, _, rfl, r, tks, m5, rfl, R5, hn5, hok, fun z => ?_, fun c m6 vc H6 e6 kk6 R6 rpc => ?_, fun m' Hz d e kz nd => ?_⟩
          · have e : res = .no := by rw [← hf4, z]; first | done | rfl
            subst e
            exact hne rfl
          · rw [e6] at hf4
            dsimp only [RG.bind] at hf4
            have hb6 := (mod_bg hn5).1 _ _ e6
            have k6 := keep k5 kk6
            have hL6 := kk6 _ _ hLr hL5
            have hM6 := kk6 _ _ hMr hM5
            have tx := TX.lst (o := .lst (ys ++ [vc])) hM6
            refine ⟨M, _, _, rfl, rfl, hM6, sz_lt (by omega), cs, ms ++ [c], xs, ys ++ [vc], m6, g, _, by omega, ?_, R6.upd hMr hM6 (by omega), hb6.2, by rw [upd_ne (fun z => hML z.symm)]; exact hL6, upd_same, (hxs.kr kk6 h15).tx tx (nl_cells _), ?_, hf4, by rw [List.length_append, List.length_singleton]; omega, rfl⟩
            · intro b o hbo
              rw [upd_ne (fun z => by rw [z, nMH] at hbo; cases hbo)]
              exact k6 b o hbo
            · rw [List.map_append]
              exact ((hys.kr kk6 h15).tx tx (nl_mods _)).snoc (rpc.tx tx (nl_mod _))
          · have e2 : res = .er m' := by rw [← hf4, e]; first | done | rfl
            subst e2
            exact q2 m' Hz d rfl (keep k5 kz) nd
end
end G
namespace G
open PySem PySem.Spec PyProof.Rows L2 Evl TL
/-! ## laid texts -/
/-- P, ahead of any text of ts, is a text of us and then ts; e: P ends with a run -/
def Laid (X : List Nat) (us : List (List Nat)) (e : Bool) : Prop := ∀ S ts, Lx S ts → (e = true → NoRun S) → Lx (X ++ S) (us ++ ts)
def blanks : List Str := [" ", "\n", "  ", " # a = cell 1 ! \n", "\n\n ", "#\n"]
theorem norun_cons {c : Nat} {r : List Nat} (h : isRun c = false) : NoRun (c :: r) := fun d q e => by injection e with e1 _; rw [← e1]; exact h
theorem blank_ok : ∀ b ∈ blanks, ∃ c r, tl b = c :: r ∧ isRun c = false ∧ (tl b).length ≤ 20 := by
  intro b hb
  have h : ∀ b ∈ blanks, tl b ≠ [] ∧ isRun ((tl b).headD 0) = false ∧ (tl b).length ≤ 20 := by decide +kernel
  obtain ⟨h1, h2, h3⟩ := h b hb
  obtain ⟨c, r, e⟩ := List.exists_cons_of_ne_nil h1
  rw [e] at h2
  exact ⟨c, r, e, h2, h3⟩
theorem blank_lx {b : Str} (hb : b ∈ blanks) {S : List Nat} {ts : List (List Nat)} (r : Lx S ts) : Lx (tl b ++ S) ts := by
  have hm : b = " " ∨ b = "\n" ∨ b = "  " ∨ b = " # a = cell 1 ! \n" ∨ b = "\n\n " ∨ b = "#\n" := by
    unfold blanks at hb
    simpa using hb
  rcases hm with rfl | rfl | rfl | rfl | rfl | rfl
  · exact .sp (.inl rfl) r
  · exact .sp (.inr rfl) r
  · exact .sp (.inl rfl) (.sp (.inl rfl) r)
  · exact .sp (.inl rfl) (.com (b := tl (" a = cell 1 ! " : Str)) (S := 10 :: S) (by decide +kernel) (.inr ⟨_, rfl⟩) (.sp (.inr rfl) r))
  · exact .sp (.inr rfl) (.sp (.inr rfl) (.sp (.inl rfl) r))
  · exact .com (b := []) (S := 10 :: S) (by simp) (.inr ⟨_, rfl⟩) (.sp (.inr rfl) r)
/-- a blank: one of the six, or nothing -/
def Blank (B : List Nat) (needed : Bool) : Prop := mk B ∈ blanks ∨ (B = [] ∧ needed = false)
def endsRun (us : List (List Nat)) : Bool := match us.getLast? with
  | some T => isRun (T.headD 0)
  | none => false
def headRun (T : List Nat) : Bool := isRun (T.headD 0)
def TokOk (T : List Nat) : Prop := RunTok T ∨ SgnTok T
theorem tok_ne {T : List Nat} (h : TokOk T) : T ≠ [] := by
  rcases h with h | h
  · exact h.1
  · exact (sgn_of h).1
theorem laid_step {X B T : List Nat} {us : List (List Nat)} {needed : Bool} (h : Laid X us (endsRun us)) (hB : Blank B needed) (hT : TokOk T) (hn : needed = false → ¬ (headRun T = true ∧ endsRun us = true)) : Laid (X ++ B ++ T) (us ++ [T]) (endsRun (us ++ [T])) := by
  have ee : endsRun (us ++ [T]) = headRun T := by unfold endsRun headRun; rw [List.getLast?_append]; rfl
  rw [ee]
  intro S ts hS hne
  have h1 : Lx (T ++ S) (T :: ts) := by
    rcases hT with hr | hs
    · obtain ⟨c, r, rfl⟩ := List.exists_cons_of_ne_nil hr.1
      exact .run hr (hne (hr.2.1 c (List.mem_cons_self ..))) hS
    · exact .sgn hs hS
  have h2 : Lx (B ++ (T ++ S)) (T :: ts) := by
    rcases hB with hb | ⟨hb, _⟩
    · exact blank_lx hb h1
    · rw [hb]; exact h1
  have h3 := h _ _ h2 fun he => by
    rcases hB with hb | ⟨hb, hn'⟩
    · obtain ⟨c, r, e, hc, _⟩ := blank_ok _ hb
      have e' : B = c :: r := e
      rw [e']
      exact norun_cons hc
    · rw [hb]
      obtain ⟨c, r, rfl⟩ := List.exists_cons_of_ne_nil (tok_ne hT)
      refine norun_cons ?_
      cases hc : isRun c with
      | false => rfl
      | true => exact absurd ⟨hc, he⟩ (hn hn')
  have e1 : X ++ B ++ T ++ S = X ++ (B ++ (T ++ S)) := by simp only [List.append_assoc]
  rw [e1, List.append_assoc]
  exact h3
theorem laid_end {X B : List Nat} {us : List (List Nat)} (h : Laid X us (endsRun us)) (hB : Blank B false) : Lx (X ++ B) us := by
  have h0 : Lx B [] := by
    rcases hB with hb | ⟨hb, _⟩
    · have := blank_lx hb Lx.nil
      rw [List.append_nil] at this
      exact this
    · rw [hb]; exact .nil
  have := h B [] h0 fun he => by
    rcases hB with hb | ⟨hb, _⟩
    · obtain ⟨c, r, e, hc, _⟩ := blank_ok _ hb
      have e' : B = c :: r := e
      rw [e']
      exact norun_cons hc
    · rw [hb]; intro c r e; cases e
  rw [List.append_nil] at this
  exact this
/-! ## the drawn tokens -/
theorem kw_facts : ∀ k ∈ kwds, isWord (tl k) = true ∧ isName (tl k) = false ∧ isNum (tl k) = false ∧ (tl k).length ≤ 20 := by decide +kernel
theorem sg_names : ∀ s ∈ sgns, isName (tl s) = false ∧ isNum (tl s) = false := by decide +kernel
theorem kw_more : ∀ k ∈ kwds, k ++ "_" ∉ kwds ∧ isWord (tl (k ++ "_")) = true ∧ isNum (tl (k ++ "_")) = false ∧ (tl (k ++ "_")).length ≤ 20 := by decide +kernel
theorem let_not_dig : ∀ c ∈ tl sLET, c ∉ tl sDIG := by decide +kernel
theorem word_run {T : List Nat} (h : isWord T = true) : RunTok T := by
  cases T with
  | nil => cases h
  | cons c r =>
    have h' : (decide (c ∈ tl sLET) && (c :: r).all isRun) = true := h
    rw [Bool.and_eq_true, List.all_eq_true] at h'
    exact ⟨List.cons_ne_nil _ _, h'.2, .inl h⟩
theorem word_num {T : List Nat} (h : isWord T = true) : isNum T = false := by
  cases T with
  | nil => rfl
  | cons c r =>
    have h' : (decide (c ∈ tl sLET) && (c :: r).all isRun) = true := h
    rw [Bool.and_eq_true] at h'
    have hc := let_not_dig c (of_decide_eq_true h'.1)
    show (_ && (c :: r).all fun d => decide (d ∈ tl sDIG)) = false
    rw [List.all_cons, decide_eq_false hc, Bool.false_and, Bool.and_false]
theorem num_run {T : List Nat} (h : isNum T = true) : RunTok T := by
  cases T with
  | nil => cases h
  | cons c r =>
    have h' : (decide ((c :: r).length ≤ 9) && !(decide (c = 48) && !decide (c :: r = [48])) && (c :: r).all fun d => decide (d ∈ tl sDIG)) = true := h
    rw [Bool.and_eq_true, List.all_eq_true] at h'
    exact ⟨List.cons_ne_nil _ _, fun d hd => dig_run d (of_decide_eq_true (h'.2 d hd)), .inr h⟩
theorem num_name {T : List Nat} (h : isNum T = true) : isName T = false := by
  unfold isName
  cases hw : isWord T with
  | false => rfl
  | true => rw [word_num hw] at h; cases h
theorem dig_mem {d : Nat} (h1 : 48 ≤ d) (h2 : d ≤ 57) : d ∈ tl sDIG := by
  have : ∀ k, k < 10 → 48 + k ∈ tl sDIG := by decide +kernel
  have := this (d - 48) (by omega)
  rwa [show 48 + (d - 48) = d by omega] at this
/-- no number but 0 begins with 0 -/
theorem num_head : ∀ (n : Nat), 0 < n → ∃ c r, numL n = c :: r ∧ c ≠ 48 := by
  intro n
  induction n using Nat.strongRecOn with
  | _ n ih =>
    intro hn
    by_cases h : n < 10
    · exact ⟨48 + n, [], numL_lt h, by omega⟩
    · obtain ⟨c, r, e, hc⟩ := ih (n / 10) (by omega) (by omega)
      exact ⟨c, r ++ [48 + n % 10], by rw [numL_step (by omega), e]; rfl, hc⟩
theorem isNum_num {n : Nat} (h : n < 1000000000) : isNum (numL n) = true := by
  have hl : (numL n).length ≤ 9 := numL_len (by decide) h
  have hd : ∀ d ∈ numL n, d ∈ tl sDIG := fun d hd => by
    have := numL_digits n d hd
    exact dig_mem this.1 this.2
  by_cases h0 : n = 0
  · subst h0; decide +kernel
  · obtain ⟨c, r, e, hc⟩ := num_head n (by omega)
    rw [e] at hl hd ⊢
    show (decide ((c :: r).length ≤ 9) && !(decide (c = 48) && !decide (c :: r = [48])) && (c :: r).all fun d => decide (d ∈ tl sDIG)) = true
    rw [decide_eq_true hl, decide_eq_false hc, List.all_eq_true.mpr fun d hd' => decide_eq_true (hd d hd')]
    rfl
section
variable {P : Program} {w : World} {K : PySem.W.Frag} {mg : Str → Option Value} {base : Heap}
/-- a name -/
def spWord : Sp := fun vs H Q _ => ∃ (p a : Addr), vs = [.ref p] ∧ PoolOk p a H ∧ ∀ (T : List Nat) (H' : Hp), isWord T = true → mk T ∉ kwds → T.length ≤ 20 → Px p a H H' → Q (.str (mk T)) H'
theorem item_of {L : List Nat} {v : Nat} (h : v < L.length) : ∃ c, L[v]? = some c ∧ c ∈ L := ⟨L[v], List.getElem?_eq_getElem h, List.getElem_mem h⟩
theorem sc_law_word : FnScope ["pool", "heads", "rest", "word", "k"] ["pool"] (defScope s_law_word) := ⟨rfl, rfl, rfl, by decide +kernel, rfl, by decide +kernel, by decide +kernel⟩
theorem ok_law_word (D : Dfd K mg "_law_word" s_law_word ["pool"]) (T : TxtS mg) (C : Has P w K mg base 2 "_law_draw" ["pool", "many"] spDrawX) : Has P w K mg base 3 "_law_word" ["pool"] spWord := by
  obtain ⟨f_law_draw, d_law_draw, G_law_draw, g_law_draw, k_law_draw, b_law_draw⟩ := C
  refine D.has fun f fd F => F.ok sc_law_word (fun vs H Q E h => ?_) (fun cdv A outer s H vs Q E hr h => ?_)
  · obtain ⟨_, _, rfl, _⟩ := h
    rfl
  · obtain ⟨p, a, rfl, hp, q⟩ := h
    refine ⟨_, (pss_cons (ps_set (i := 1) sc_law_word.nd rfl (.inl rfl) pe_str)
    (pss_cons (ps_set (i := 2) sc_law_word.nd rfl (.inl rfl) pe_str)
    (pss_cons (ps_set (i := 3) sc_law_word.nd rfl (.inl rfl) (pe_ix ix_str (pv 1) (pe_call G_law_draw (hr.mono (by omega)) (by rfl) g_law_draw k_law_draw b_law_draw .nil pass0 (pa_cons (pv 0) (pa_cons pe_int pa_nil))) (fun _ _ => rfl)))
    (pss_cons (ps_for PassesOwn.never rfl (pi_range1 rfl T.range (pa_cons (pe_ix ix_list (pe_lst (pa_cons pe_int (pa_cons pe_int (pa_cons pe_int (pa_cons pe_int (pa_cons pe_int (pa_cons pe_int (pa_cons pe_int (pa_cons pe_int pa_nil))))))))) (pe_call G_law_draw (hr.mono (by omega)) (by rfl) g_law_draw k_law_draw b_law_draw .nil pass0 (pa_cons (pv 0) (pa_cons pe_int pa_nil))) (fun _ _ => rfl)) pa_nil)) (pg_name (i := 4) sc_law_word.nd rfl (.inl rfl))
      (pss_one (ps_set (i := 3) sc_law_word.nd rfl (.inl rfl) (pe_op op_add_str (pv 3) (pe_ix ix_str (pv 2) (pe_call G_law_draw (hr.mono (by omega)) (by rfl) g_law_draw k_law_draw b_law_draw .nil pass0 (pa_cons (pv 0) (pa_cons pe_int pa_nil))) (fun _ _ => rfl))))))
    (pss_cons (ps_if (pt_cmpR op_in_seq (pv 3) (pe_lst (pa_cons pe_str (pa_cons pe_str (pa_cons pe_str (pa_cons pe_str (pa_cons pe_str (pa_cons pe_str (pa_cons pe_str (pa_cons pe_str (pa_cons pe_str (pa_cons pe_str (pa_cons pe_str pa_nil)))))))))))) (by rfl))
      (pss_one (ps_set (i := 3) sc_law_word.nd rfl (.inl rfl) (pe_op op_add_str (pv 3) pe_str)))
      pss_nil)
    (pss_one (ps_ret (pv 3)))))))), ?_⟩
    have l26 : (tl sLET).length = 26 := by decide +kernel
    have l37 : (tl sRUN).length = 37 := by decide +kernel
    refine ⟨_, rfl, _, rfl, p, a, 26, rfl, by decide, by decide, hp, fun v H1 hv X1 _ => ?_⟩
    obtain ⟨c, hc, hm⟩ := item_of (L := tl sLET) (v := v) (by rw [l26]; omega)
    refine ⟨sLET, _, c, rfl, rfl, by decide, atI_nat hc, ?_⟩
    refine ⟨(by show 8 ≤ sizeLine; decide), fun l nl => ⟨_, rfl, p, a, 8, rfl, by decide, by decide, (X1.new nl).pool, fun v2 H2 hv2 X2 k2 => ?_⟩⟩
    have hl2 : H2 l = some (.lst [.int 0, .int 0, .int 1, .int 1, .int 2, .int 3, .int 5, .int 12]) := by rw [k2 _ (X1.pool.ne nl)]; exact upd_same
    have hit : ∃ n : Nat, ([.int 0, .int 0, .int 1, .int 1, .int 2, .int 3, .int 5, .int 12] : List V)[v2]? = some (.int (n : Int)) ∧ n ≤ 12 := by
      have h8 : v2 < 8 := by omega
      match v2, h8 with
      | 0, _ => exact ⟨0, rfl, by decide⟩
      | 1, _ => exact ⟨0, rfl, by decide⟩
      | 2, _ => exact ⟨1, rfl, by decide⟩
      | 3, _ => exact ⟨1, rfl, by decide⟩
      | 4, _ => exact ⟨2, rfl, by decide⟩
      | 5, _ => exact ⟨3, rfl, by decide⟩
      | 6, _ => exact ⟨5, rfl, by decide⟩
      | 7, _ => exact ⟨12, rfl, by decide⟩
      | n + 8, h => omega
    obtain ⟨n, hn, hn12⟩ := hit
    have X3 := (X1.new nl).trans X2
    refine ⟨_, _, _, _, rfl, rfl, SqL.of hl2, atI_nat hn, _, rfl, by omega, by omega, for_range (n := ((n : Nat) : Int).toNat)
      (fun i σ H' => Px p a H H' ∧ ∃ (W : List Nat) (z : Option V), isWord W = true ∧ W.length = i + 1 ∧ σ = [some (.ref p), some (.str sLET), some (.str sRUN), some (.str (mk W)), z]) ⟨X3, [c], _, ?_, rfl, rfl⟩ ?_ ?_⟩
    · show (decide (c ∈ tl sLET) && [c].all isRun) = true
      rw [decide_eq_true hm, List.all_cons, let_run c hm]; rfl
    · rintro i σ H3 hi ⟨X4, W, z, hW, hWl, rfl⟩
      refine ⟨_, rfl, _, rfl, _, rfl, p, a, 37, rfl, by decide, by decide, X4.pool, fun v3 H4 hv3 X5 _ => ?_⟩
      obtain ⟨d, hd, hdm⟩ := item_of (L := tl sRUN) (v := v3) (by rw [l37]; omega)
      refine ⟨sRUN, _, d, rfl, rfl, by decide, atI_nat hd, _, _, rfl, rfl, ?_, X4.trans X5, W ++ [d], some (.int (0 + (i : Int))), ?_, by rw [List.length_append, hWl]; rfl, ?_⟩
      · rw [mk_len]
        show _ + 1 ≤ sizeLine
        exact sz_of (by omega)
      · cases W with
        | nil => cases hW
        | cons c' r' =>
          have h' : (decide (c' ∈ tl sLET) && (c' :: r').all isRun) = true := hW
          rw [Bool.and_eq_true] at h'
          show (decide (c' ∈ tl sLET) && (c' :: r' ++ [d]).all isRun) = true
          rw [h'.1, List.all_append, h'.2]
          show (true && (true && (isRun d && true))) = true
          rw [show isRun d = true from decide_eq_true hdm]; rfl
      · rw [mk_one, mk_app]; rfl
    · rintro σ H3 ⟨X4, W, z, hW, hWl, rfl⟩
      have hWl' : W.length ≤ 13 := by omega
      refine ⟨_, rfl, (by show 11 ≤ sizeLine; decide), fun l2 nl2 => ⟨l2, kwds.map V.str, rfl, .inl (SqL.of upd_same), rfl, flat_map (fun _ => rfl) _, _, rfl, ?_⟩⟩
      show if (if false = true then !inV (.str (mk W)) (kwds.map V.str) else inV (.str (mk W)) (kwds.map V.str)) = true then _ else _
      rw [if_neg Bool.false_ne_true, inV_strs]
      by_cases hk : mk W ∈ kwds
      · rw [decide_eq_true hk]
        refine iteT ⟨_, rfl, _, _, rfl, rfl, ?_, _, rfl, ?_⟩
        · rw [mk_len]
          show W.length + 1 ≤ sizeLine
          exact sz_of (by omega)
        · obtain ⟨h1, h2, h3, h4⟩ := kw_more _ hk
          have e : mk W ++ ("_" : Str) = mk (W ++ [95]) := mk_app W [95]
          rw [e] at h1 h2 h4
          show Q (.str (mk W ++ ("_" : Str))) _
          rw [e]
          exact q _ _ h2 h1 h4 (X4.new nl2)
      · rw [decide_eq_false hk]
        exact iteF ⟨_, rfl, q _ _ hW hk (by omega) (X4.new nl2)⟩
end
end G
namespace G
open PySem PySem.Spec PyProof.Rows L2 Evl TL
/-! ## decks written -/
def restT (r : List (List Nat)) : List (List Nat) := r.flatMap fun y => [[44], y]
def listT : List (List Nat) → List (List Nat)
  | [] => [[40], [41]]
  | x :: r => [40] :: x :: (restT r ++ [[41]])
def rangeT (p : Nat × Nat) : List (List Nat) := [numL p.1, [46, 46], numL p.2]
def bitT (b : Bool) : List Nat := if b = true then [49] else [48]
def itemT : ItemD → List (List Nat)
  | .gate n c ps => [wGate, n, [61], c] ++ (listT ps ++ [[59]])
  | .part n os m ps => [wPart, n, [58]] ++ (listT os ++ ([[61], m] ++ (listT ps ++ [[59]])))
  | .reg n w e o s h b => [wReg, n, [61], w, wEdge] ++ (rangeT e ++ ([wOut] ++ (rangeT o ++ [wSetup, numL s, wHold, numL h, wStart, bitT b, [59]])))
def pinT (x : List Nat × Nat × Nat) : List (List Nat) := [wPin, x.1] ++ (rangeT x.2 ++ [[59]])
def cellT (c : CellD) (ts : List (List Nat)) : List (List Nat) := [wCell, c.name] ++ (listT c.pins ++ ([[61]] ++ (ts ++ ([[123]] ++ (c.rngs.flatMap pinT ++ [[125]])))))
def modT (m : ModD) : List (List Nat) := [wModule, m.name] ++ (listT m.ins ++ ([[45, 62]] ++ (listT m.outs ++ ([[123]] ++ (m.items.flatMap itemT ++ [[125]])))))
def NmsOk (l : List (List Nat)) : Prop := ∀ x ∈ l, isName x = true
def RgOk (p : Nat × Nat) : Prop := p.1 < 1000000000 ∧ p.2 < 1000000000
def ItemOk : ItemD → Prop
  | .gate n c ps => isName n = true ∧ isName c = true ∧ NmsOk ps
  | .part n os m ps => isName n = true ∧ NmsOk os ∧ isName m = true ∧ NmsOk ps
  | .reg n w e o s h _ => isName n = true ∧ isName w = true ∧ RgOk e ∧ RgOk o ∧ s < 1000000000 ∧ h < 1000000000
structure CellOk (c : CellD) : Prop where
  nm : isName c.name = true
  ps : NmsOk c.pins
  rg : ∀ x ∈ c.rngs, isName x.1 = true ∧ RgOk x.2
structure ModOk (m : ModD) : Prop where
  nm : isName m.name = true
  is : NmsOk m.ins
  os : NmsOk m.outs
  it : ∀ i ∈ m.items, ItemOk i
section
variable {tks : List (List Nat)} {n : Nat} {rest : List (List Nat)}
theorem take_w {U : List Nat} (h : tks.drop n = U :: rest) : takeF U tks n = .ok () (n + 1) := takeF_ok (drop_at h)
theorem drop_1 {U : List Nat} (h : tks.drop n = U :: rest) : tks.drop (n + 1) = rest := drop_more (a := [U]) h
theorem name_w {T : List Nat} (h : tks.drop n = T :: rest) (hn : isName T = true) : nameF tks n = .ok T (n + 1) := nameF_ok (drop_at h) hn
theorem num_w {k : Nat} (h : tks.drop n = numL k :: rest) (hk : k < 1000000000) : numF tks n = .ok k (n + 1) := by
  rw [numF_ok (drop_at h) (isNum_num hk), numL_val]
theorem range_w {p : Nat × Nat} (h : tks.drop n = rangeT p ++ rest) (hp : RgOk p) : rangeF tks n = .ok p (n + (rangeT p).length) := by
  have h1 : tks.drop n = numL p.1 :: ([46, 46] :: numL p.2 :: rest) := h
  have h2 := drop_1 h1
  have h3 := drop_1 h2
  unfold rangeF
  rw [num_w h1 hp.1]
  dsimp only [RG.bind]
  rw [take_w h2]
  dsimp only [RG.bind]
  rw [num_w h3 hp.2]
  rfl
theorem more_w : ∀ (r acc : List (List Nat)) (n f : Nat), NmsOk r → tks.drop n = restT r ++ [41] :: rest → r.length < f → moreF tks f acc n = .ok (acc ++ r) (n + (restT r).length + 1)
  | [], acc, n, f, _, h, hf => by
    obtain ⟨g, rfl⟩ : ∃ g, f = g + 1 := ⟨f - 1, by have : 0 < f := hf; omega⟩
    have h1 : tks.drop n = [41] :: rest := h
    unfold moreF
    rw [drop_at h1, if_neg (by decide), take_w h1, List.append_nil]
    rfl
  | y :: r, acc, n, f, hr, h, hf => by
    obtain ⟨g, rfl⟩ : ∃ g, f = g + 1 := ⟨f - 1, by have : 0 < f := Nat.lt_of_le_of_lt (Nat.zero_le _) hf; omega⟩
    have h1 : tks.drop n = [44] :: (y :: (restT r ++ [41] :: rest)) := by rw [h]; rfl
    have h2 := drop_1 h1
    have h3 := drop_1 h2
    unfold moreF
    rw [drop_at h1, if_pos rfl, name_w h2 (hr y (List.mem_cons_self ..))]
    dsimp only [RG.bind]
    rw [more_w r (acc ++ [y]) (n + 1 + 1) g (fun x hx => hr x (List.mem_cons_of_mem _ hx)) h3 (by rw [List.length_cons] at hf; omega)]
    have e : restT (y :: r) = [44] :: y :: restT r := rfl
    rw [e, List.append_assoc, List.length_cons, List.length_cons]
    show RG.ok (acc ++ (y :: r)) _ = _
    congr 1
    omega
theorem restT_len (r : List (List Nat)) : (restT r).length = 2 * r.length := by
  induction r with
  | nil => rfl
  | cons y r ih =>
    have e : restT (y :: r) = [44] :: y :: restT r := rfl
    rw [e, List.length_cons, List.length_cons, List.length_cons, ih]; omega
theorem drop_len {X : List (List Nat)} (h : tks.drop n = X ++ rest) : X.length ≤ tks.length := by
  have := congrArg List.length h
  rw [List.length_drop, List.length_append] at this
  omega
theorem names_w {l : List (List Nat)} (h : tks.drop n = listT l ++ rest) (hl : NmsOk l) : namesF tks n = .ok l (n + (listT l).length) := by
  cases l with
  | nil =>
    have h1 : tks.drop n = [40] :: ([41] :: rest) := h
    have h2 := drop_1 h1
    unfold namesF
    rw [take_w h1]
    dsimp only [RG.bind]
    rw [drop_at h2, if_pos rfl]
    rfl
  | cons x r =>
    have h1 : tks.drop n = [40] :: (x :: (restT r ++ [41] :: rest)) := by rw [h]; simp [listT]
    have h2 := drop_1 h1
    have h3 := drop_1 h2
    have hx := hl x (List.mem_cons_self ..)
    have hb : r.length < tks.length + 1 := by
      have := drop_len (X := restT r) h3
      rw [restT_len] at this; omega
    unfold namesF
    rw [take_w h1]
    dsimp only [RG.bind]
    rw [drop_at h2, if_neg (fun z => by rw [Option.some.inj z, par_not] at hx; cases hx), name_w h2 hx]
    dsimp only [RG.bind]
    rw [more_w r [x] _ _ (fun y hy => hl y (List.mem_cons_of_mem _ hy)) h3 hb]
    have e : (listT (x :: r)).length = 1 + 1 + (restT r).length + 1 := by
      show ([40] :: x :: (restT r ++ [[41]])).length = _
      rw [List.length_cons, List.length_cons, List.length_append, List.length_singleton]; omega
    rw [e]
    show RG.ok (x :: r) _ = _
    congr 1
    omega
theorem bit_w {b : Bool} (h : tks.drop n = bitT b :: rest) : bitF tks n = .ok b (n + 1) := by
  have := drop_at h
  unfold bitF
  cases b with
  | true => rw [this]; rfl
  | false => rw [this]; rfl
end
end G
namespace G
open PySem PySem.Spec PyProof.Rows L2 Evl TL
section
variable {tks : List (List Nat)} {n : Nat} {rest : List (List Nat)}
theorem item_w {i : ItemD} (h : tks.drop n = itemT i ++ rest) (hi : ItemOk i) : ∃ m, itemF tks n = .ok i m ∧ tks.drop m = [59] :: rest := by
  cases i with
  | gate nm c ps =>
    obtain ⟨a1, a2, a3⟩ := hi
    have h1 : tks.drop n = wGate :: nm :: [61] :: c :: (listT ps ++ ([59] :: rest)) := by rw [h]; simp [itemT]
    have h2 := drop_1 h1
    have h3 := drop_1 h2
    have h4 := drop_1 h3
    have h5 := drop_1 h4
    refine ⟨_, ?_, drop_more h5⟩
    unfold itemF gateF
    rw [drop_at h1, if_pos rfl, name_w h2 a1]
    dsimp only [RG.bind]
    rw [take_w h3]
    dsimp only [RG.bind]
    rw [name_w h4 a2]
    dsimp only [RG.bind]
    rw [names_w h5 a3]
  | part nm os c ps =>
    obtain ⟨a1, a2, a3, a4⟩ := hi
    have h1 : tks.drop n = wPart :: nm :: [58] :: (listT os ++ ([61] :: c :: (listT ps ++ ([59] :: rest)))) := by rw [h]; simp [itemT]
    have h2 := drop_1 h1
    have h3 := drop_1 h2
    have h4 := drop_1 h3
    have h5 := drop_more h4
    have h6 := drop_1 h5
    have h7 := drop_1 h6
    refine ⟨_, ?_, drop_more h7⟩
    unfold itemF partF
    rw [drop_at h1, if_neg (by decide +kernel), if_pos rfl, name_w h2 a1]
    dsimp only [RG.bind]
    rw [take_w h3]
    dsimp only [RG.bind]
    rw [names_w h4 a2]
    dsimp only [RG.bind]
    rw [take_w h5]
    dsimp only [RG.bind]
    rw [name_w h6 a3]
    dsimp only [RG.bind]
    rw [names_w h7 a4]
  | reg nm w e o s hh b =>
    obtain ⟨a1, a2, a3, a4, a5, a6⟩ := hi
    have h1 : tks.drop n = wReg :: nm :: [61] :: w :: wEdge :: (rangeT e ++ (wOut :: (rangeT o ++ (wSetup :: numL s :: wHold :: numL hh :: wStart :: bitT b :: [59] :: rest)))) := by rw [h]; simp [itemT]
    have h2 := drop_1 h1
    have h3 := drop_1 h2
    have h4 := drop_1 h3
    have h5 := drop_1 h4
    have h6 := drop_1 h5
    have h7 := drop_more h6
    have h8 := drop_1 h7
    have h9 := drop_more h8
    have h10 := drop_1 h9
    have h11 := drop_1 h10
    have h12 := drop_1 h11
    have h13 := drop_1 h12
    have h14 := drop_1 h13
    refine ⟨_, ?_, drop_1 h14⟩
    unfold itemF
    rw [drop_at h1, if_neg (by decide +kernel), if_neg (by decide +kernel), take_w h1]
    dsimp only [RG.bind]
    unfold regF
    rw [name_w h2 a1]
    dsimp only [RG.bind]
    rw [take_w h3]
    dsimp only [RG.bind]
    rw [name_w h4 a2]
    dsimp only [RG.bind]
    rw [take_w h5]
    dsimp only [RG.bind]
    rw [range_w h6 a3]
    dsimp only [RG.bind]
    rw [take_w h7]
    dsimp only [RG.bind]
    rw [range_w h8 a4]
    dsimp only [RG.bind]
    rw [take_w h9]
    dsimp only [RG.bind]
    rw [num_w h10 a5]
    dsimp only [RG.bind]
    rw [take_w h11]
    dsimp only [RG.bind]
    rw [num_w h12 a6]
    dsimp only [RG.bind]
    rw [take_w h13]
    dsimp only [RG.bind]
    rw [bit_w h14]
theorem pins_w : ∀ (r acc : List (List Nat × Nat × Nat)) (n f : Nat), (∀ x ∈ r, isName x.1 = true ∧ RgOk x.2) → tks.drop n = r.flatMap pinT ++ [125] :: rest → r.length < f → ∃ m, pinsF tks f acc n = .ok (acc ++ r) m ∧ tks.drop m = rest
  | [], acc, n, f, _, h, hf => by
    obtain ⟨g, rfl⟩ : ∃ g, f = g + 1 := ⟨f - 1, by have : 0 < f := hf; omega⟩
    have h1 : tks.drop n = [125] :: rest := h
    refine ⟨_, ?_, drop_1 h1⟩
    unfold pinsF
    rw [drop_at h1, if_neg (by decide +kernel), take_w h1, List.append_nil]
    rfl
  | y :: r, acc, n, f, hr, h, hf => by
    obtain ⟨g, rfl⟩ : ∃ g, f = g + 1 := ⟨f - 1, by have : 0 < f := Nat.lt_of_le_of_lt (Nat.zero_le _) hf; omega⟩
    obtain ⟨a1, a2⟩ := hr y (List.mem_cons_self ..)
    have h1 : tks.drop n = wPin :: y.1 :: (rangeT y.2 ++ ([59] :: (r.flatMap pinT ++ [125] :: rest))) := by rw [h, List.flatMap_cons]; simp [pinT]
    have h2 := drop_1 h1
    have h3 := drop_1 h2
    have h4 := drop_more h3
    have h5 := drop_1 h4
    obtain ⟨m, e, hm⟩ := pins_w r (acc ++ [y]) _ g (fun x hx => hr x (List.mem_cons_of_mem _ hx)) h5 (by rw [List.length_cons] at hf; omega)
    refine ⟨m, ?_, hm⟩
    unfold pinsF
    rw [drop_at h1, if_pos rfl, name_w h2 a1]
    dsimp only [RG.bind]
    rw [range_w h3 a2]
    dsimp only [RG.bind]
    rw [take_w h4]
    dsimp only [RG.bind]
    rw [e]
    simp
theorem items_w : ∀ (r acc : List ItemD) (n f : Nat), (∀ x ∈ r, ItemOk x) → tks.drop n = r.flatMap itemT ++ [125] :: rest → r.length < f → ∃ m, itemsF tks f acc n = .ok (acc ++ r) m ∧ tks.drop m = rest
  | [], acc, n, f, _, h, hf => by
    obtain ⟨g, rfl⟩ : ∃ g, f = g + 1 := ⟨f - 1, by have : 0 < f := hf; omega⟩
    have h1 : tks.drop n = [125] :: rest := h
    refine ⟨_, ?_, drop_1 h1⟩
    unfold itemsF
    rw [drop_at h1, if_pos rfl, List.append_nil]
  | y :: r, acc, n, f, hr, h, hf => by
    obtain ⟨g, rfl⟩ : ∃ g, f = g + 1 := ⟨f - 1, by have : 0 < f := Nat.lt_of_le_of_lt (Nat.zero_le _) hf; omega⟩
    have h1 : tks.drop n = itemT y ++ (r.flatMap itemT ++ [125] :: rest) := by rw [h, List.flatMap_cons, List.append_assoc]
    have hne : tks[n]? ≠ some [125] := fun z => by
      have : ∃ T U, itemT y = T :: U ∧ T ≠ [125] := by
        cases y with
        | gate => exact ⟨_, _, rfl, by decide +kernel⟩
        | part => exact ⟨_, _, rfl, by decide +kernel⟩
        | reg => exact ⟨_, _, rfl, by decide +kernel⟩
      obtain ⟨T, U, e, hT⟩ := this
      rw [e] at h1
      rw [drop_at h1] at z
      exact hT (Option.some.inj z)
    obtain ⟨m1, e1, h2⟩ := item_w h1 (hr y (List.mem_cons_self ..))
    have h3 := drop_1 h2
    obtain ⟨m, e, hm⟩ := items_w r (acc ++ [y]) _ g (fun x hx => hr x (List.mem_cons_of_mem _ hx)) h3 (by rw [List.length_cons] at hf; omega)
    refine ⟨m, ?_, hm⟩
    unfold itemsF
    rw [if_neg hne, e1]
    dsimp only [RG.bind]
    rw [take_w h2]
    dsimp only [RG.bind]
    rw [e]
    simp
theorem flat_len1 {α : Type} {f : α → List (List Nat)} (hf : ∀ x, 1 ≤ (f x).length) : ∀ l : List α, l.length ≤ (l.flatMap f).length
  | [] => Nat.le_refl _
  | x :: l => by
    rw [List.flatMap_cons, List.length_append, List.length_cons]
    have := hf x
    have := flat_len1 hf l
    omega
theorem itemT_len (i : ItemD) : 1 ≤ (itemT i).length := by cases i <;> exact Nat.succ_pos _
theorem cell_w {d : Nat} {c : CellD} {ts : List (List Nat)} (h : tks.drop n = cellT c ts ++ rest) (hc : CellOk c) (hw : Wr d 4 c.tree ts) : ∃ m, tks[n]? = some wCell ∧ cellF (d + 1) tks (n + 1) = .ok c m ∧ tks.drop m = rest := by
  have h1 : tks.drop n = wCell :: c.name :: (listT c.pins ++ ([61] :: (ts ++ ([123] :: (c.rngs.flatMap pinT ++ [125] :: rest))))) := by rw [h]; simp [cellT]
  have h2 := drop_1 h1
  have h3 := drop_1 h2
  have h4 := drop_more h3
  have h5 := drop_1 h4
  have h6 := drop_more h5
  have h7 := drop_1 h6
  have hb : c.rngs.length < tks.length + 1 := by
    have := drop_len h7
    have := flat_len1 (f := pinT) (fun _ => Nat.succ_pos _) c.rngs
    omega
  obtain ⟨m, e, hm⟩ := pins_w c.rngs [] _ (tks.length + 1) hc.rg h7 hb
  refine ⟨m, drop_at h1, ?_, hm⟩
  have hx : parseF tks (d + 1) (n + 1 + 1 + (listT c.pins).length + 1) = some (.ok c.tree (n + 1 + 1 + (listT c.pins).length + 1 + ts.length)) :=
    (wr_cl tks hw).expr 3 rfl _ _ h5 fun j hj z => by
      have z : some [123] = some (sgL j) := z
      have := (Option.some.inj z).symm
      match j, hj, this with
      | 0, _, e => exact absurd e (by decide)
      | 1, _, e => exact absurd e (by decide)
      | 2, _, e => exact absurd e (by decide)
  unfold cellF
  rw [name_w h2 hc.nm]
  dsimp only [RG.bind]
  rw [names_w h3 hc.ps]
  dsimp only [RG.bind]
  rw [take_w h4]
  dsimp only [RG.bind]
  rw [exprG_ok hx]
  dsimp only [RG.bind]
  rw [take_w h6]
  dsimp only [RG.bind]
  rw [e]
  rfl
theorem mod_w {x : ModD} (h : tks.drop n = modT x ++ rest) (hc : ModOk x) : ∃ m, tks[n]? = some wModule ∧ modF tks (n + 1) = .ok x m ∧ tks.drop m = rest := by
  have h1 : tks.drop n = wModule :: x.name :: (listT x.ins ++ ([45, 62] :: (listT x.outs ++ ([123] :: (x.items.flatMap itemT ++ [125] :: rest))))) := by rw [h]; simp [modT]
  have h2 := drop_1 h1
  have h3 := drop_1 h2
  have h4 := drop_more h3
  have h5 := drop_1 h4
  have h6 := drop_more h5
  have h7 := drop_1 h6
  have hb : x.items.length < tks.length + 1 := by
    have := drop_len h7
    have := flat_len1 itemT_len x.items
    omega
  obtain ⟨m, e, hm⟩ := items_w x.items [] _ (tks.length + 1) hc.it h7 hb
  refine ⟨m, drop_at h1, ?_, hm⟩
  unfold modF
  rw [name_w h2 hc.nm]
  dsimp only [RG.bind]
  rw [names_w h3 hc.is]
  dsimp only [RG.bind]
  rw [take_w h4]
  dsimp only [RG.bind]
  rw [names_w h5 hc.os]
  dsimp only [RG.bind]
  rw [take_w h6]
  dsimp only [RG.bind]
  rw [e]
  rfl
end
/-- a cell or a module, with the tokens that it is written in -/
inductive UnitT where
  | cell (c : CellD) (ts : List (List Nat)) | mod (m : ModD)
def UnitT.tok : UnitT → List (List Nat)
  | .cell c ts => cellT c ts
  | .mod m => modT m
def UnitT.cs : List UnitT → List CellD
  | [] => []
  | .cell c _ :: l => c :: UnitT.cs l
  | .mod _ :: l => UnitT.cs l
def UnitT.ms : List UnitT → List ModD
  | [] => []
  | .cell _ _ :: l => UnitT.ms l
  | .mod m :: l => m :: UnitT.ms l
def UnitOk (d : Nat) : UnitT → Prop
  | .cell c ts => CellOk c ∧ Wr d 4 c.tree ts ∧ c.tree.ht ≤ 20
  | .mod m => ModOk m
theorem units_w {tks : List (List Nat)} {d : Nat} : ∀ (us : List UnitT) (cs : List CellD) (ms : List ModD) (n f : Nat), (∀ u ∈ us, UnitOk d u) → n ≤ tks.length → tks.drop n = us.flatMap UnitT.tok → us.length < f → ∃ m, unitsF (d + 1) tks f cs ms n = .ok ⟨cs ++ UnitT.cs us, ms ++ UnitT.ms us⟩ m
  | [], cs, ms, n, f, _, hn, h, hf => by
    obtain ⟨g, rfl⟩ : ∃ g, f = g + 1 := ⟨f - 1, by have : 0 < f := hf; omega⟩
    have hl : tks.length ≤ n := by
      have := congrArg List.length h
      rw [List.length_drop] at this
      have : tks.length - n = 0 := this
      omega
    refine ⟨n, ?_⟩
    unfold unitsF
    rw [if_pos hl]
    show RG.ok (DeckD.mk cs ms) n = RG.ok (DeckD.mk (cs ++ []) (ms ++ [])) n
    rw [List.append_nil, List.append_nil]
  | .cell c ts :: us, cs, ms, n, f, hu, hn, h, hf => by
    obtain ⟨g, rfl⟩ : ∃ g, f = g + 1 := ⟨f - 1, by have : 0 < f := Nat.lt_of_le_of_lt (Nat.zero_le _) hf; omega⟩
    obtain ⟨a1, a2, a3⟩ : CellOk c ∧ Wr d 4 c.tree ts ∧ c.tree.ht ≤ 20 := hu (.cell c ts) (List.mem_cons_self ..)
    have h1 : tks.drop n = cellT c ts ++ us.flatMap UnitT.tok := by rw [h, List.flatMap_cons]; rfl
    obtain ⟨m, e0, e1, h2⟩ := cell_w h1 a1 a2
    have hlt := some_lt e0
    have hm := ((cell_bg (show n + 1 ≤ tks.length by omega)).1 _ _ e1).2
    obtain ⟨k, e⟩ := units_w (d := d) us (cs ++ [c]) ms m g (fun u h => hu u (List.mem_cons_of_mem _ h)) hm h2 (by rw [List.length_cons] at hf; omega)
    refine ⟨k, ?_⟩
    unfold unitsF
    rw [if_neg (by omega), if_pos e0, e1]
    dsimp only [RG.bind]
    rw [e]
    simp [UnitT.cs, UnitT.ms]
  | .mod x :: us, cs, ms, n, f, hu, hn, h, hf => by
    obtain ⟨g, rfl⟩ : ∃ g, f = g + 1 := ⟨f - 1, by have : 0 < f := Nat.lt_of_le_of_lt (Nat.zero_le _) hf; omega⟩
    have a1 : ModOk x := hu (.mod x) (List.mem_cons_self ..)
    have h1 : tks.drop n = modT x ++ us.flatMap UnitT.tok := by rw [h, List.flatMap_cons]; rfl
    obtain ⟨m, e0, e1, h2⟩ := mod_w h1 a1
    have hlt := some_lt e0
    have hm := ((mod_bg (show n + 1 ≤ tks.length by omega)).1 _ _ e1).2
    obtain ⟨k, e⟩ := units_w us cs (ms ++ [x]) m g (fun u h => hu u (List.mem_cons_of_mem _ h)) hm h2 (by rw [List.length_cons] at hf; omega)
    refine ⟨k, ?_⟩
    unfold unitsF
    rw [if_neg (by omega), if_neg (by rw [e0]; decide +kernel), takeF_ok e0]
    dsimp only [RG.bind]
    rw [e1]
    dsimp only [RG.bind]
    rw [e]
    simp [UnitT.cs, UnitT.ms]
/-! ## the limits of brackets -/
def Bk (X : List (List Nat)) : Prop := ∀ rest, brkF (X ++ rest) 0 0 = brkF rest 0 0
theorem bk_app {X Y : List (List Nat)} (hx : Bk X) (hy : Bk Y) : Bk (X ++ Y) := fun r => by rw [List.append_assoc, hx, hy]
theorem bk_nil : Bk [] := fun _ => rfl
def Plain (T : List Nat) : Prop := T ≠ [40] ∧ T ≠ [41] ∧ T ≠ [33]
theorem bk_cons {T : List Nat} {X : List (List Nat)} (h : Plain T) (hx : Bk X) : Bk (T :: X) := fun r => by
  rw [List.cons_append, brk_step h.1 h.2.1 h.2.2 (by decide), hx]
theorem plain_name {T : List Nat} (h : isName T = true) : Plain T := ⟨(fun z => by rw [z, name_not.1] at h; cases h), (fun z => by rw [z, par_not] at h; cases h), (fun z => by rw [z, name_not.2.2.2] at h; cases h)⟩
theorem plain_num {k : Nat} (h : k < 1000000000) : Plain (numL k) := by
  have hn := isNum_num h
  have b : isNum [40] = false ∧ isNum [41] = false ∧ isNum [33] = false := by decide +kernel
  exact ⟨(fun z => by rw [z, b.1] at hn; cases hn), (fun z => by rw [z, b.2.1] at hn; cases hn), (fun z => by rw [z, b.2.2] at hn; cases hn)⟩
theorem brk_plain {X : List (List Nat)} (h : ∀ T ∈ X, Plain T) (rest : List (List Nat)) {o : Int} (ho : o ≤ 20) : brkF (X ++ rest) o 0 = brkF rest o 0 := by
  induction X with
  | nil => rfl
  | cons T X ih =>
    have hT := h T (List.mem_cons_self ..)
    rw [List.cons_append, brk_step hT.1 hT.2.1 hT.2.2 ho, ih fun U hU => h U (List.mem_cons_of_mem _ hU)]
theorem bk_plain {X : List (List Nat)} (h : ∀ T ∈ X, Plain T) : Bk X := fun rest => brk_plain h rest (by decide)
theorem rest_plain {r : List (List Nat)} (h : NmsOk r) : ∀ T ∈ restT r, Plain T := fun T hT => by
  obtain ⟨y, hy, hm⟩ := List.mem_flatMap.mp hT
  rcases List.mem_cons.mp hm with z | z
  · rw [z]; exact ⟨by decide, by decide, by decide⟩
  · rw [List.mem_singleton.mp z]; exact plain_name (h y hy)
theorem bk_list {l : List (List Nat)} (h : NmsOk l) : Bk (listT l) := fun rest => by
  cases l with
  | nil =>
    show brkF ([40] :: ([41] :: rest)) 0 0 = _
    rw [brk_open (by decide), brk_shut (by decide)]; rfl
  | cons x r =>
    have e : listT (x :: r) ++ rest = [40] :: ((x :: restT r) ++ ([41] :: rest)) := by simp [listT]
    rw [e, brk_open (by decide), brk_plain (fun T hT => ?_) _ (by decide), brk_shut (by decide)]
    · rfl
    · rcases List.mem_cons.mp hT with z | z
      · rw [z]; exact plain_name (h x (List.mem_cons_self ..))
      · exact rest_plain (fun y hy => h y (List.mem_cons_of_mem _ hy)) T z
theorem plain_words : Plain wGate ∧ Plain wPart ∧ Plain wReg ∧ Plain wEdge ∧ Plain wOut ∧ Plain wSetup ∧ Plain wHold ∧ Plain wStart ∧ Plain wPin ∧ Plain wCell ∧ Plain wModule := by
  exact ⟨(by unfold Plain; decide +kernel), (by unfold Plain; decide +kernel), (by unfold Plain; decide +kernel), (by unfold Plain; decide +kernel), (by unfold Plain; decide +kernel), (by unfold Plain; decide +kernel), (by unfold Plain; decide +kernel), (by unfold Plain; decide +kernel), (by unfold Plain; decide +kernel), (by unfold Plain; decide +kernel), (by unfold Plain; decide +kernel)⟩
theorem plain_signs : Plain [61] ∧ Plain [58] ∧ Plain [59] ∧ Plain [123] ∧ Plain [125] ∧ Plain [45, 62] ∧ Plain [46, 46] := by
  unfold Plain
  decide
theorem bk_range {p : Nat × Nat} (h : RgOk p) : Bk (rangeT p) := bk_cons (plain_num h.1) (bk_cons plain_signs.2.2.2.2.2.2 (bk_cons (plain_num h.2) bk_nil))
theorem bk_item {i : ItemD} (hi : ItemOk i) : Bk (itemT i) := by
  obtain ⟨w1, w2, w3, w4, w5, w6, w7, w8, _⟩ := plain_words
  obtain ⟨s1, s2, s3, _⟩ := plain_signs
  cases i with
  | gate nm c ps =>
    obtain ⟨a1, a2, a3⟩ := hi
    exact bk_app (bk_cons w1 (bk_cons (plain_name a1) (bk_cons s1 (bk_cons (plain_name a2) bk_nil)))) (bk_app (bk_list a3) (bk_cons s3 bk_nil))
  | part nm os c ps =>
    obtain ⟨a1, a2, a3, a4⟩ := hi
    exact bk_app (bk_cons w2 (bk_cons (plain_name a1) (bk_cons s2 bk_nil))) (bk_app (bk_list a2) (bk_app (bk_cons s1 (bk_cons (plain_name a3) bk_nil)) (bk_app (bk_list a4) (bk_cons s3 bk_nil))))
  | reg nm w e o s hh b =>
    obtain ⟨a1, a2, a3, a4, a5, a6⟩ := hi
    have hb : Plain (bitT b) := by cases b <;> exact ⟨by decide, by decide, by decide⟩
    exact bk_app (bk_cons w3 (bk_cons (plain_name a1) (bk_cons s1 (bk_cons (plain_name a2) (bk_cons w4 bk_nil))))) (bk_app (bk_range a3) (bk_app (bk_cons w5 bk_nil) (bk_app (bk_range a4) (bk_cons w6 (bk_cons (plain_num a5) (bk_cons w7 (bk_cons (plain_num a6) (bk_cons w8 (bk_cons hb (bk_cons s3 bk_nil))))))))))
theorem bk_flat {α : Type} {f : α → List (List Nat)} : ∀ l : List α, (∀ x ∈ l, Bk (f x)) → Bk (l.flatMap f)
  | [], _ => bk_nil
  | x :: l, h => by
    rw [List.flatMap_cons]
    exact bk_app (h x (List.mem_cons_self ..)) (bk_flat l fun y hy => h y (List.mem_cons_of_mem _ hy))
theorem bk_unit {d : Nat} {u : UnitT} (h : UnitOk d u) (hd : d ≤ 20) : Bk u.tok := by
  obtain ⟨w1, w2, w3, w4, w5, w6, w7, w8, w9, w10, w11⟩ := plain_words
  obtain ⟨s1, s2, s3, s4, s5, s6, s7⟩ := plain_signs
  cases u with
  | cell c ts =>
    obtain ⟨a1, a2, a3⟩ := h
    have hts : Bk ts := fun rest => brk_wr a2 rest 0 0 (by omega) (by omega)
    have hp : Bk (c.rngs.flatMap pinT) := bk_flat _ fun x hx => bk_app (bk_cons w9 (bk_cons (plain_name (a1.rg x hx).1) bk_nil)) (bk_app (bk_range (a1.rg x hx).2) (bk_cons s3 bk_nil))
    exact bk_app (bk_cons w10 (bk_cons (plain_name a1.nm) bk_nil)) (bk_app (bk_list a1.ps) (bk_app (bk_cons s1 bk_nil) (bk_app hts (bk_app (bk_cons s4 bk_nil) (bk_app hp (bk_cons s5 bk_nil))))))
  | mod m =>
    have a1 : ModOk m := h
    exact bk_app (bk_cons w11 (bk_cons (plain_name a1.nm) bk_nil)) (bk_app (bk_list a1.is) (bk_app (bk_cons s6 bk_nil) (bk_app (bk_list a1.os) (bk_app (bk_cons s4 bk_nil) (bk_app (bk_flat _ fun i hi => bk_item (a1.it i hi)) (bk_cons s5 bk_nil))))))
theorem unit_len (u : UnitT) : 1 ≤ u.tok.length := by cases u <;> exact Nat.succ_pos _
/-- what is written is read -/
theorem out_units {d : Nat} {us : List UnitT} (h : ∀ u ∈ us, UnitOk d u) (hd : d ≤ 20) : outDk (d + 1) (us.flatMap UnitT.tok) = .deck ⟨UnitT.cs us, UnitT.ms us⟩ ∧ ∃ m, unitsF (d + 1) (us.flatMap UnitT.tok) ((us.flatMap UnitT.tok).length + 1) [] [] 0 = .ok ⟨UnitT.cs us, UnitT.ms us⟩ m := by
  have hl := flat_len1 unit_len us
  obtain ⟨m, e⟩ := units_w (tks := us.flatMap UnitT.tok) us [] [] 0 ((us.flatMap UnitT.tok).length + 1) h (Nat.zero_le _) rfl (by omega)
  have hb : brkF (us.flatMap UnitT.tok) 0 0 = true := by
    have := bk_flat us (fun u hu => bk_unit (h u hu) hd) []
    rw [List.append_nil] at this
    rw [this]; rfl
  have hc : ∀ (us : List UnitT), (∀ u ∈ us, UnitOk d u) → ((UnitT.cs us).all fun c => decide (c.tree.ht ≤ 20)) = true := fun us => by
    induction us with
    | nil => intro _; rfl
    | cons u us ih =>
      intro h
      have ih := ih fun v hv => h v (List.mem_cons_of_mem _ hv)
      have hu := h u (List.mem_cons_self ..)
      cases u with
      | cell c ts =>
        show ((c :: UnitT.cs us).all _) = true
        rw [List.all_cons, ih, decide_eq_true hu.2.2]; rfl
      | mod m => exact ih
  refine ⟨?_, m, e⟩
  unfold outDk
  rw [if_pos hb, e]
  exact if_pos (hc us h)
end G
namespace G
open PySem PySem.Spec PyProof.Rows L2 Evl TL
section
variable {P : Program} {w : World} {K : PySem.W.Frag} {mg : Str → Option Value} {base : Heap}
def spNumeral : Sp := fun vs H Q _ => ∃ (p a : Addr), vs = [.ref p] ∧ PoolOk p a H ∧ ∀ (n : Nat) (H' : Hp), n < 1000000000 → Px p a H H' → Q (.int n) H'
theorem sc_law_numeral : FnScope ["pool", "many", "number"] ["pool"] (defScope s_law_numeral) := ⟨rfl, rfl, rfl, by decide +kernel, rfl, by decide +kernel, by decide +kernel⟩
theorem ok_law_numeral (D : Dfd K mg "_law_numeral" s_law_numeral ["pool"]) (C : Has P w K mg base 2 "_law_draw" ["pool", "many"] spDrawX) : Has P w K mg base 3 "_law_numeral" ["pool"] spNumeral := by
  obtain ⟨f_law_draw, d_law_draw, G_law_draw, g_law_draw, k_law_draw, b_law_draw⟩ := C
  refine D.has fun f fd F => F.ok sc_law_numeral (fun vs H Q E h => ?_) (fun cdv A outer s H vs Q E hr h => ?_)
  · obtain ⟨_, _, rfl, _⟩ := h
    rfl
  · obtain ⟨p, a, rfl, hp, q⟩ := h
    refine ⟨_, (pss_cons (ps_set (i := 1) sc_law_numeral.nd rfl (.inl rfl) (pe_ix ix_list (pe_lst (pa_cons pe_int (pa_cons pe_int (pa_cons pe_int (pa_cons pe_int (pa_cons pe_int (pa_cons pe_int pa_nil))))))) (pe_call G_law_draw (hr.mono (by omega)) (by rfl) g_law_draw k_law_draw b_law_draw .nil pass0 (pa_cons (pv 0) (pa_cons pe_int pa_nil))) (fun _ _ => rfl)))
    (pss_cons (ps_set (i := 2) sc_law_numeral.nd rfl (.inl rfl) (pe_call G_law_draw (hr.mono (by omega)) (by rfl) g_law_draw k_law_draw b_law_draw .nil pass0 (pa_cons (pv 0) (pa_cons (pe_ix ix_list (pe_lst (pa_cons pe_int (pa_cons pe_int (pa_cons pe_int (pa_cons pe_int pa_nil))))) (pe_bm PySem.F.plainAttrs_list PySem.F.slot_list_index PySem.F.type_list_index mt_index (pe_lst (pa_cons pe_int (pa_cons pe_int (pa_cons pe_int (pa_cons pe_int pa_nil))))) (pa_cons (pv 1) pa_nil)) (fun _ _ => rfl)) pa_nil))))
    (pss_one (ps_ret (pv 2))))), ?_⟩
    refine ⟨(by show 6 ≤ sizeLine; decide), fun l nl => ⟨_, rfl, p, a, 6, rfl, by decide, by decide, ((Px.refl hp).new nl).pool, fun v H1 hv X1 k1 => ?_⟩⟩
    have Y1 := ((Px.refl hp).new nl).trans X1
    have hl1 : H1 l = some (.lst [.int 1, .int 1, .int 1, .int 2, .int 3, .int 9]) := by rw [k1 _ (hp.ne nl)]; exact upd_same
    have hit : ∃ (m : Int) (j : Nat) (b : Nat), ([.int 1, .int 1, .int 1, .int 2, .int 3, .int 9] : List V)[v]? = some (.int m) ∧ ([.int 1, .int 2, .int 3, .int 9] : List V)[j]? = some (.int m) ∧
        (∀ (k : Nat) (z' : V), k < j → ([.int 1, .int 2, .int 3, .int 9] : List V)[k]? = some z' → eqV z' (.int m) = false) ∧ ([.int 10, .int 100, .int 1000, .int 1000000000] : List V)[j]? = some (.int (b : Int)) ∧ 0 < b ∧ b ≤ 1000000000 := by
      have n0 : ∀ (m : Int) (k : Nat) (z' : V), k < 0 → ([.int 1, .int 2, .int 3, .int 9] : List V)[k]? = some z' → eqV z' (.int m) = false := fun _ k _ h => by omega
      have h6 : v < 6 := by omega
      match v, h6 with
      | 0, _ => exact ⟨1, 0, 10, rfl, rfl, n0 1, rfl, by decide, by decide⟩
      | 1, _ => exact ⟨1, 0, 10, rfl, rfl, n0 1, rfl, by decide, by decide⟩
      | 2, _ => exact ⟨1, 0, 10, rfl, rfl, n0 1, rfl, by decide, by decide⟩
      | 3, _ =>
        refine ⟨2, 1, 100, rfl, rfl, fun k z' hk e => ?_, rfl, by decide, by decide⟩
        have : k = 0 := by omega
        subst this
        cases e; rfl
      | 4, _ =>
        refine ⟨3, 2, 1000, rfl, rfl, fun k z' hk e => ?_, rfl, by decide, by decide⟩
        match k, hk, e with
        | 0, _, e => cases e; rfl
        | 1, _, e => cases e; rfl
      | 5, _ =>
        refine ⟨9, 3, 1000000000, rfl, rfl, fun k z' hk e => ?_, rfl, by decide, by decide⟩
        match k, hk, e with
        | 0, _, e => cases e; rfl
        | 1, _, e => cases e; rfl
        | 2, _, e => cases e; rfl
      | n + 6, h => omega
    obtain ⟨m, j, b, h1, h2, h3, h4, h5, h6⟩ := hit
    refine ⟨_, _, _, _, rfl, rfl, SqL.of hl1, atI_nat h1, ?_⟩
    refine ⟨_, rfl, (by show 4 ≤ sizeLine; decide), fun l2 nl2 => ⟨(by show 4 ≤ sizeLine; decide), fun l3 nl3 => ⟨.inl ⟨rfl, _, SqL.of upd_same⟩, _, rfl, l3, _, _, j, _, rfl, rfl, SqL.of upd_same, rfl, rfl, h2, beq_self_eq_true m, h3, ?_⟩⟩⟩
    have Y2 := (Y1.new (o := .lst [.int 10, .int 100, .int 1000, .int 1000000000]) nl2).new (o := .lst [.int 1, .int 2, .int 3, .int 9]) nl3
    refine ⟨_, _, _, _, rfl, rfl, SqL.of ((upd_ne (ne_of_none upd_same nl3)).trans upd_same), atI_nat h4, p, a, b, rfl, by omega, by omega, Y2.pool, fun v2 H2 hv2 X2 _ => ?_⟩
    exact ⟨_, rfl, q v2 H2 (by omega) (Y2.trans X2)⟩
end
end G
namespace G
open PySem PySem.Spec PyProof.Rows L2 Evl TL
structure TxtLn (mg : Str → Option Value) : Prop where
  len : mg "len" = none
section
variable {P : Program} {w : World} {K : PySem.W.Frag} {mg : Str → Option Value} {base : Heap}
def spTreeN : Nat → Sp
  | 0 => fun _ _ _ _ => False
  | d + 1 => fun vs H Q _ => ∃ (p a L : Addr) (ns : List Str), vs = [.ref p, .int (d : Nat), .ref L] ∧ PoolOk p a H ∧ hid p H L = some (.lst (ns.map V.str)) ∧ 0 < ns.length ∧ ns.length ≤ 10 ∧
    ∀ (v : V) (t : Tr) (H' : Hp), Px p a H H' → TreeH H' v t → t.post.length < 2 ^ (d + 1) → t.ht ≤ d + 1 → (∀ x, Tr.name x ∈ t.post → x ∈ ns) → Q v H'
theorem hone (d : Nat) : 1 < 2 ^ (d + 1) := by
  rw [Nat.pow_succ]
  have : 0 < 2 ^ d := Nat.pow_pos (by decide)
  omega
theorem sc_law_tree : FnScope ["pool", "deep", "names", "kind", "tag"] ["pool", "deep", "names"] (defScope s_law_tree) := ⟨rfl, rfl, rfl, by decide +kernel, rfl, by decide +kernel, by decide +kernel⟩
theorem fn_law_tree {f : Addr} {fd : FuncData} (F : Fun K "_law_tree" "_law_tree" s_law_tree f fd) (g_law_tree : mg "_law_tree" = some (.ref f)) (b_law_tree : Binds K fd ["pool", "deep", "names"] []) (T : TxtLn mg) (C1 : Has P w K mg base 2 "_law_draw" ["pool", "many"] spDrawX) :
    ∀ n, FnOk P w K mg base CX0 (n + 2) f fd ["pool", "deep", "names"] (spTreeN n)
  | 0 => ⟨fun _ _ _ _ h => h.elim, fun _ _ _ _ _ _ _ _ _ _ _ _ _ h => h.elim⟩
  | d + 1 => by
    have G_law_tree := fn_law_tree F g_law_tree b_law_tree T C1 d
    have k_law_tree := F.kp
    obtain ⟨f_law_draw, d_law_draw, G_law_draw, g_law_draw, k_law_draw, b_law_draw⟩ := C1
    refine F.ok sc_law_tree (fun vs H Q E h => ?_) (fun cdv A outer s H vs Q E hr h => ?_)
    · obtain ⟨p, a, L, ns, rfl, _⟩ := h
      rfl
    · obtain ⟨p, a, L, ns, rfl, hp, hL, hn0, hn10, q⟩ := h
      refine ⟨_, (pss_cons (ps_set (i := 3) sc_law_tree.nd rfl (.inl rfl) (pe_call G_law_draw (hr.mono (by omega)) (by rfl) g_law_draw k_law_draw b_law_draw .nil pass0 (pa_cons (pv 0) (pa_cons pe_int pa_nil))))
    (pss_cut (ps_if (PW.pt (pw_or (pt_cmpR op_eq (pv 1) pe_int (nomark _)) (pw_or1 (pt_cmpR op_lt (pv 3) pe_int (nomark _)))))
      (pss_cons (ps_if (pt_cmpR op_eq (pe_call G_law_draw (hr.mono (by omega)) (by rfl) g_law_draw k_law_draw b_law_draw .nil pass0 (pa_cons (pv 0) (pa_cons pe_int pa_nil))) pe_int (nomark _))
        (pss_one (ps_ret (pe_tup (pa_cons pe_str (pa_cons (pe_cmpR op_eq (pe_call G_law_draw (hr.mono (by omega)) (by rfl) g_law_draw k_law_draw b_law_draw .nil pass0 (pa_cons (pv 0) (pa_cons pe_int pa_nil))) pe_int (nomark _)) pa_nil)))))
        pss_nil)
      (pss_one (ps_ret (pe_tup (pa_cons pe_str (pa_cons (pe_ix ix_list (pv 2) (pe_call G_law_draw (hr.mono (by omega)) (by rfl) g_law_draw k_law_draw b_law_draw .nil pass0 (pa_cons (pv 0) (pa_cons (pe_callB call_len_seq (by rfl) T.len (by decide +kernel) (pa_cons (pv 2) pa_nil)) pa_nil))) (fun _ _ => rfl)) pa_nil))))))
      pss_nil)
    (pss_cons (ps_if (pt_cmpR op_eq (pv 3) pe_int (nomark _))
      (pss_one (ps_ret (pe_tup (pa_cons pe_str (pa_cons (pe_call G_law_tree (hr.mono (by omega)) (by rfl) g_law_tree k_law_tree b_law_tree .nil pass0 (pa_cons (pv 0) (pa_cons (pe_op op_sub (pv 1) pe_int) (pa_cons (pv 2) pa_nil)))) pa_nil)))))
      pss_nil)
    (pss_cons (ps_set (i := 4) sc_law_tree.nd rfl (.inl rfl) (pe_ix ix_list (pe_lst (pa_cons pe_str (pa_cons pe_str (pa_cons pe_str pa_nil)))) (pe_call G_law_draw (hr.mono (by omega)) (by rfl) g_law_draw k_law_draw b_law_draw .nil pass0 (pa_cons (pv 0) (pa_cons pe_int pa_nil))) (fun _ _ => rfl)))
    (pss_one (ps_ret (pe_tup (pa_cons (pv 4) (pa_cons (pe_call G_law_tree (hr.mono (by omega)) (by rfl) g_law_tree k_law_tree b_law_tree .nil pass0 (pa_cons (pv 0) (pa_cons (pe_op op_sub (pv 1) pe_int) (pa_cons (pv 2) pa_nil)))) (pa_cons (pe_call G_law_tree (hr.mono (by omega)) (by rfl) g_law_tree k_law_tree b_law_tree .nil pass0 (pa_cons (pv 0) (pa_cons (pe_op op_sub (pv 1) pe_int) (pa_cons (pv 2) pa_nil)))) pa_nil)))))))))), ?_⟩
      refine ⟨_, rfl, p, a, 8, rfl, by decide, by decide, hp, fun kind H1 hk X1 _ => ?_⟩
      refine ⟨fun σ H' => H' = H1 ∧ d ≠ 0 ∧ σ = [some (.ref p), some (.int (d : Nat)), some (.ref L), some (.int (kind : Nat)), none], ?_, ?_⟩
      · refine ⟨_, rfl, rfl, _, rfl, ite2 (fun c1 => ?_) (fun c1 => ⟨_, rfl, _, _, rfl, rfl, _, rfl, ite2 (fun c2 => ?_) (fun c2 => ?_)⟩)⟩
        · refine iteT ?_
          refine ⟨_, rfl, p, a, 6, rfl, by decide, by decide, X1.pool, fun v H2 hv X2 _ => ⟨rfl, _, rfl, ite2 (fun c3 => ?_) (fun c3 => ?_)⟩⟩
          · refine ⟨_, rfl, p, a, 2, rfl, by decide, by decide, X2.pool, fun v2 H3 hv2 X3 _ => ⟨rfl, (by show 2 ≤ sizeLine; decide), fun l nl => ?_⟩⟩
            exact q (.ref l) (.const _) _ ((X1.trans (X2.trans X3)).new nl) ⟨l, rfl, upd_same⟩ (hone d) (Nat.le_add_left _ _) (fun x hx => by simp [Tr.post] at hx)
          · have hL2 := (X1.trans X2).at_ hL
            refine ⟨_, rfl, _, rfl, _, rfl, _, _, rfl, .inl (SqL.of hL2), p, a, ns.length, by rw [List.length_map]; rfl, by omega, by omega, X2.pool, fun v2 H3 hv2 X3 _ => ?_⟩
            have hL3 := (X1.trans (X2.trans X3)).at_ hL
            have hv2' : v2 < ns.length := by omega
            refine ⟨_, _, _, _, rfl, rfl, SqL.of hL3, atI_nat (j := v2) (by rw [List.getElem?_map, List.getElem?_eq_getElem hv2']; rfl), (by show 2 ≤ sizeLine; decide), fun l nl => ?_⟩
            exact q (.ref l) (.name ns[v2]) _ ((X1.trans (X2.trans X3)).new nl) ⟨l, rfl, upd_same⟩ (hone d) (Nat.le_add_left _ _) (fun x hx => by simp [Tr.post] at hx; rw [hx]; exact List.getElem_mem hv2')
        · refine ⟨_, rfl, p, a, 6, rfl, by decide, by decide, X1.pool, fun v H2 hv X2 _ => ⟨rfl, _, rfl, ite2 (fun c3 => ?_) (fun c3 => ?_)⟩⟩
          · refine ⟨_, rfl, p, a, 2, rfl, by decide, by decide, X2.pool, fun v2 H3 hv2 X3 _ => ⟨rfl, (by show 2 ≤ sizeLine; decide), fun l nl => ?_⟩⟩
            exact q (.ref l) (.const _) _ ((X1.trans (X2.trans X3)).new nl) ⟨l, rfl, upd_same⟩ (hone d) (Nat.le_add_left _ _) (fun x hx => by simp [Tr.post] at hx)
          · have hL2 := (X1.trans X2).at_ hL
            refine ⟨_, rfl, _, rfl, _, rfl, _, _, rfl, .inl (SqL.of hL2), p, a, ns.length, by rw [List.length_map]; rfl, by omega, by omega, X2.pool, fun v2 H3 hv2 X3 _ => ?_⟩
            have hL3 := (X1.trans (X2.trans X3)).at_ hL
            have hv2' : v2 < ns.length := by omega
            refine ⟨_, _, _, _, rfl, rfl, SqL.of hL3, atI_nat (j := v2) (by rw [List.getElem?_map, List.getElem?_eq_getElem hv2']; rfl), (by show 2 ≤ sizeLine; decide), fun l nl => ?_⟩
            exact q (.ref l) (.name ns[v2]) _ ((X1.trans (X2.trans X3)).new nl) ⟨l, rfl, upd_same⟩ (hone d) (Nat.le_add_left _ _) (fun x hx => by simp [Tr.post] at hx; rw [hx]; exact List.getElem_mem hv2')
        · exact ⟨rfl, fun z => c1 (by rw [z]; rfl), rfl⟩
      rintro σ H' ⟨rfl, hd0, rfl⟩
      obtain ⟨e, rfl⟩ : ∃ e, d = e + 1 := ⟨d - 1, by omega⟩
      have eN : ((e + 1 : Nat) : Int) - 1 = (e : Nat) := by omega
      have hL1 := X1.get hL
      have epow : 2 ^ (e + 1 + 1) = 2 * 2 ^ (e + 1) := by rw [Nat.pow_succ, Nat.mul_comm]
      have hpos : 0 < 2 ^ (e + 1) := Nat.pow_pos (by decide)
      refine ⟨_, rfl, rfl, _, rfl, ite2 (fun c1 => ?_) (fun c1 => ?_)⟩
      · refine ⟨_, rfl, _, rfl, _, _, rfl, rfl, _, rfl, p, a, L, ns, congrArg (fun z => [V.ref p, V.int z, V.ref L]) eN, X1.pool, hL1, hn0, hn10, fun v1 t1 H2 X2 h2 l2 g2 m2 => ⟨(by show 2 ≤ sizeLine; decide), fun l nl => ?_⟩⟩
        refine q (.ref l) (.neg t1) _ ((X1.trans X2).new nl) ⟨l, v1, rfl, upd_same, h2.te (.of (Ex.new nl))⟩ ?_ (Nat.succ_le_succ g2) (fun x hx => ?_)
        · show (t1.post ++ [_]).length < _
          rw [List.length_append, List.length_singleton]; omega
        · rcases List.mem_append.mp (show _ ∈ t1.post ++ [_] from hx) with z | z
          · exact m2 x z
          · cases List.mem_singleton.mp z
      · refine ⟨(by show 3 ≤ sizeLine; decide), fun l2 nl2 => ?_⟩
        have X2 := X1.new (o := .lst [.str "and", .str "xor", .str "or"]) nl2
        have hl2 : upd H' l2 (.lst [.str "and", .str "xor", .str "or"]) l2 = some (.lst [.str "and", .str "xor", .str "or"]) := upd_same
        have hl2p : hid p (upd H' l2 (.lst [.str "and", .str "xor", .str "or"])) l2 = some (.lst [.str "and", .str "xor", .str "or"]) := by rw [hid_ne (X1.pool.ne nl2)]; exact upd_same
        generalize upd H' l2 (.lst [.str "and", .str "xor", .str "or"]) = H2 at *
        refine ⟨_, rfl, p, a, 3, rfl, by decide, by decide, X2.pool, fun v H3 hv X3 _ => ?_⟩
        have hl3 := X3.at_ hl2p
        obtain ⟨o, ho⟩ : ∃ o : Op, ([.str "and", .str "xor", .str "or"] : List V)[v]? = some (.str o.s) := by
          have h3 : v < 3 := by omega
          match v, h3 with
          | 0, _ => exact ⟨.and, rfl⟩
          | 1, _ => exact ⟨.xor, rfl⟩
          | 2, _ => exact ⟨.or, rfl⟩
          | n + 3, h => exact absurd h (by omega)
        have X13 := X2.trans X3
        refine ⟨_, _, _, _, rfl, rfl, SqL.of hl3, atI_nat (j := v) ho, ?_⟩
        refine ⟨_, rfl, _, rfl, _, rfl, _, _, rfl, rfl, _, rfl, p, a, L, ns, congrArg (fun z => [V.ref p, V.int z, V.ref L]) eN, X3.pool, X13.get hL, hn0, hn10, fun v1 t1 H4 X4 h4 l4 g4 m4 => ?_⟩
        refine ⟨_, rfl, _, rfl, _, _, rfl, rfl, _, rfl, p, a, L, ns, congrArg (fun z => [V.ref p, V.int z, V.ref L]) eN, X4.pool, (X13.trans X4).get hL, hn0, hn10, fun v2 t2 H5 X5 h5 l5 g5 m5 => ⟨(by show 3 ≤ sizeLine; decide), fun l nl => ?_⟩⟩
        refine q (.ref l) (.bin o t1 t2) _ ((X13.trans (X4.trans X5)).new nl) ⟨l, v1, v2, rfl, upd_same, (h4.te (.px X5)).te (.of (Ex.new nl)), h5.te (.of (Ex.new nl))⟩ ?_ ?_ (fun x hx => ?_)
        · show (t1.post ++ t2.post ++ [_]).length < _
          rw [List.length_append, List.length_append, List.length_singleton]; omega
        · show max t1.ht t2.ht + 1 ≤ _
          omega
        · rcases List.mem_append.mp (show _ ∈ t1.post ++ t2.post ++ [_] from hx) with z | z
          · rcases List.mem_append.mp z with z | z
            · exact m4 x z
            · exact m5 x z
          · cases List.mem_singleton.mp z
def spTreeA : Sp := fun vs H Q E => ∃ d, d ≤ 5 ∧ spTreeN (d + 1) vs H Q E
theorem fn_law_treeA {f : Addr} {fd : FuncData} (h : ∀ n, FnOk P w K mg base CX0 (n + 2) f fd ["pool", "deep", "names"] (spTreeN n)) : FnOk P w K mg base CX0 8 f fd ["pool", "deep", "names"] spTreeA :=
  ⟨fun vs H Q E z => by obtain ⟨d, _, z⟩ := z; exact (h (d + 1)).len vs H Q E z, fun A outer s H args us vs Q E hr he hb hv z => by
    obtain ⟨d, hd, z⟩ := z
    exact ((h (d + 1)).mono (show d + 1 + 2 ≤ 8 by omega)).run A outer s H args us vs Q E hr he hb hv z⟩
end
end G
namespace G
open PySem PySem.Spec PyProof.Rows L2 Evl TL
/-! ## drawn decks -/
def G20 (x : List Nat) : Prop := isName x = true ∧ x.length ≤ 20
def L20 (k : Nat) (l : List (List Nat)) : Prop := l.length ≤ k ∧ ∀ x ∈ l, G20 x
def GItem : ItemD → Prop
  | .gate n c ps => G20 n ∧ G20 c ∧ L20 3 ps
  | .part n os m ps => G20 n ∧ L20 2 os ∧ G20 m ∧ L20 2 ps
  | .reg n w e o s h _ => G20 n ∧ G20 w ∧ RgOk e ∧ RgOk o ∧ s < 1000000000 ∧ h < 1000000000
structure GCell (c : CellD) : Prop where
  nm : G20 c.name
  ps : L20 4 c.pins
  rl : c.rngs.length ≤ 3
  rg : ∀ x ∈ c.rngs, G20 x.1 ∧ RgOk x.2
  th : c.tree.ht ≤ 5
  tp : c.tree.post.length ≤ 32
  tn : ∀ x, Tr.name x ∈ c.tree.post → G20 (tl x)
structure GMod (m : ModD) : Prop where
  nm : G20 m.name
  is : L20 3 m.ins
  os : L20 3 m.outs
  il : m.items.length ≤ 4
  it : ∀ i ∈ m.items, GItem i
structure GDeck (d : DeckD) : Prop where
  cl : d.cells.length ≤ 3
  cs : ∀ c ∈ d.cells, GCell c
  ml : d.mods.length ≤ 3
  ms : ∀ m ∈ d.mods, GMod m
theorem Px.exh {p a : Addr} {H H' : Hp} (x : Px p a H H') : Ex (hid p H) (hid p H') := fun b o h => x.get h
theorem word20 {W : List Nat} (h : isWord W = true) (hk : mk W ∉ kwds) (hl : W.length ≤ 20) : G20 W := ⟨by unfold isName; rw [h, decide_eq_false hk]; rfl, hl⟩
section
variable {P : Program} {w : World} {K : PySem.W.Frag} {mg : Str → Option Value} {base : Heap}
/-- a drawn thing -/
def spGen {α : Type} (ok : α → Prop) (dat : α → D) : Sp := fun vs H Q _ => ∃ (p a : Addr), vs = [.ref p] ∧ PoolOk p a H ∧ ∀ (d : α) (v : V) (H' : Hp), ok d → Px p a H H' → Rep (hid p H') v (dat d) → Q v H'
theorem sc_law_range : FnScope ["pool", "low"] ["pool"] (defScope s_law_range) := ⟨rfl, rfl, rfl, by decide +kernel, rfl, by decide +kernel, by decide +kernel⟩
theorem ok_law_range (D : Dfd K mg "_law_range" s_law_range ["pool"]) (C : Has P w K mg base 3 "_law_numeral" ["pool"] spNumeral) : Has P w K mg base 4 "_law_range" ["pool"] (spGen RgOk pD) := by
  obtain ⟨f_law_numeral, d_law_numeral, G_law_numeral, g_law_numeral, k_law_numeral, b_law_numeral⟩ := C
  refine D.has fun f fd F => F.ok sc_law_range (fun vs H Q E h => ?_) (fun cdv A outer s H vs Q E hr h => ?_)
  · obtain ⟨_, _, rfl, _⟩ := h
    rfl
  · obtain ⟨p, a, rfl, hp, q⟩ := h
    refine ⟨_, (pss_cons (ps_set (i := 1) sc_law_range.nd rfl (.inl rfl) (pe_call G_law_numeral (hr.mono (by omega)) (by rfl) g_law_numeral k_law_numeral b_law_numeral .nil pass0 (pa_cons (pv 0) pa_nil)))
    (pss_one (ps_ret (pe_tup (pa_cons (pv 1) (pa_cons (pe_call G_law_numeral (hr.mono (by omega)) (by rfl) g_law_numeral k_law_numeral b_law_numeral .nil pass0 (pa_cons (pv 0) pa_nil)) pa_nil)))))), ?_⟩
    refine ⟨_, rfl, p, a, rfl, hp, fun n H1 hn X1 => ⟨_, rfl, _, rfl, p, a, rfl, X1.pool, fun m H2 hm X2 => ⟨(by show 2 ≤ sizeLine; decide), fun l nl => ?_⟩⟩⟩
    have X3 := (Px.refl X2.pool).new (o := .tup [.int (n : Nat), .int (m : Nat)]) nl
    exact q (n, m) _ _ ⟨hn, hm⟩ ((X1.trans X2).trans X3) (Reps.tup (.cons (.int _) (.cons (.int _) .nil)) (X3.seen nl upd_same))
def spNames : Sp := fun vs H Q _ => ∃ (p a : Addr) (k : Nat), vs = [.ref p, .int (k : Nat)] ∧ k ≤ 10 ∧ PoolOk p a H ∧ ∀ (l : List (List Nat)) (v : V) (H' : Hp), L20 k l → Px p a H H' → Rep (hid p H') v (nsD l) → Q v H'
structure TxtGn (mg : Str → Option Value) : Prop where
  tuple : mg "tuple" = none
  range : mg "range" = none
theorem sc_law_names : FnScope ["pool", "most", "k"] ["pool", "most"] (defScope s_law_names) := ⟨rfl, rfl, rfl, by decide +kernel, rfl, by decide +kernel, by decide +kernel⟩
theorem ok_law_names (D : Dfd K mg "_law_names" s_law_names ["pool", "most"]) (T : TxtGn mg) (C1 : Has P w K mg base 2 "_law_draw" ["pool", "many"] spDrawX) (C2 : Has P w K mg base 3 "_law_word" ["pool"] spWord) : Has P w K mg base 4 "_law_names" ["pool", "most"] spNames := by
  obtain ⟨f_law_draw, d_law_draw, G_law_draw, g_law_draw, k_law_draw, b_law_draw⟩ := C1
  obtain ⟨f_law_word, d_law_word, G_law_word, g_law_word, k_law_word, b_law_word⟩ := C2
  refine D.has fun f fd F => F.ok sc_law_names (fun vs H Q E h => ?_) (fun cdv A outer s H vs Q E hr h => ?_)
  · obtain ⟨_, _, _, rfl, _⟩ := h
    rfl
  · obtain ⟨p, a, k, rfl, hk, hp, q⟩ := h
    refine ⟨_, (pss_one (ps_ret (pe_callTy call_tuple_of (by rfl) T.tuple (by decide +kernel) (pa_cons (pe_lc (own := [("k", 2)]) (g := gName 2) (tt := tYes) rfl sc_law_names.nd (pi_range1 rfl T.range (pa_cons (pe_call G_law_draw (hr.mono (by omega)) (by rfl) g_law_draw k_law_draw b_law_draw .nil pass0 (pa_cons (pv 0) (pa_cons (pe_op op_add (pv 1) pe_int) pa_nil))) pa_nil)) (blkOk_by (N := ["pool", "most", "k"]) (sc := defScope s_law_names) (own := [("k", 2)]) (by decide +kernel)) (fun _ _ _ _ _ => (pg_name (i := 2) sc_law_names.nd rfl (.inl rfl))) (fun _ _ _ _ _ => pts_nil) (fun _ _ _ _ _ => (pe_call G_law_word (hr.mono (by omega)) (by rfl) g_law_word k_law_word b_law_word .nil pass0 (pa_cons (pv 0) pa_nil)))) pa_nil)))), ?_⟩
    refine ⟨_, rfl, _, rfl, _, _, rfl, rfl, p, a, k + 1, congrArg (fun z => [V.ref p, V.int z]) (by omega), by omega, by omega, hp, fun m H1 hm X1 _ => ⟨((m : Nat) : Int), rfl, by omega, by omega, fun L nL => lc_range (lo := 0) (n := ((m : Nat) : Int).toNat)
      (fun i H' => Px p a H1 H' ∧ ∃ l : List (List Nat), l.length = i ∧ H' L = some (.lst (strsV l)) ∧ ∀ x ∈ l, G20 x) ⟨(Px.refl X1.pool).new nL, [], rfl, upd_same, fun _ h => nomatch h⟩ ?_ ?_⟩⟩
    · rintro i H2 hi ⟨X2, l, hl, hL, hx⟩
      refine ⟨rfl, tYes_in ?_⟩
      refine ⟨_, rfl, p, a, rfl, X2.pool, fun W H3 hW hkw hWl X3 => ?_⟩
      have hL3 : H3 L = some (.lst (strsV l)) := X3.at_ (X2.seen nL hL)
      refine ⟨_, hL3, sz_lt (by rw [strsV_len]; omega), (X2.trans X3).mut nL, l ++ [W], by rw [List.length_append, hl]; rfl, by rw [upd_same, strsV_app]; rfl, fun x hxm => ?_⟩
      rcases List.mem_append.mp hxm with z | z
      · exact hx x z
      · rw [List.mem_singleton.mp z]; exact word20 hW hkw hWl
    · rintro H2 ⟨X2, l, hl, hL, hx⟩
      refine ⟨L, _, rfl, .inl ⟨SqL.of hL, fun c nc => ?_⟩⟩
      have X3 := (Px.refl X2.pool).new (o := .tup (strsV l)) nc
      exact q l _ _ ⟨by omega, hx⟩ ((X1.trans X2).trans X3) (Reps.tup (reps_strs l) (X3.seen nc upd_same))
end
end G

namespace G
open PySem PySem.Spec PyProof.Rows L2 Evl TL
theorem TX.hid {p : Addr} {H : Hp} {M : Addr} {xs : List V} {o : HO} (n : M ≠ p) (h : H M = some (.lst xs)) : TX (G.hid p H) (G.hid p (upd H M o)) := by
  rw [hid_upd_ne n]
  exact TX.lst (by rw [hid_ne n]; exact h)
theorem g_a : G20 (tl ("a" : Str)) ∧ G20 (tl ("b1" : Str)) := by unfold G20; decide +kernel
section
variable {P : Program} {w : World} {K : PySem.W.Frag} {mg : Str → Option Value} {base : Heap}
theorem sc_law_item : FnScope ["pool", "kind", "name", "outputs", "edge", "out", "start"] ["pool"] (defScope s_law_item) := ⟨rfl, rfl, rfl, by decide +kernel, rfl, by decide +kernel, by decide +kernel⟩
theorem ok_law_item (D : Dfd K mg "_law_item" s_law_item ["pool"]) (C1 : Has P w K mg base 2 "_law_draw" ["pool", "many"] spDrawX) (C2 : Has P w K mg base 3 "_law_word" ["pool"] spWord) (C3 : Has P w K mg base 4 "_law_names" ["pool", "most"] spNames) (C4 : Has P w K mg base 4 "_law_range" ["pool"] (spGen RgOk pD)) (C5 : Has P w K mg base 3 "_law_numeral" ["pool"] spNumeral) :
    Has P w K mg base 5 "_law_item" ["pool"] (spGen GItem ItemD.dat) := by
  obtain ⟨f_law_draw, d_law_draw, G_law_draw, g_law_draw, k_law_draw, b_law_draw⟩ := C1
  obtain ⟨f_law_word, d_law_word, G_law_word, g_law_word, k_law_word, b_law_word⟩ := C2
  obtain ⟨f_law_names, d_law_names, G_law_names, g_law_names, k_law_names, b_law_names⟩ := C3
  obtain ⟨f_law_range, d_law_range, G_law_range, g_law_range, k_law_range, b_law_range⟩ := C4
  obtain ⟨f_law_numeral, d_law_numeral, G_law_numeral, g_law_numeral, k_law_numeral, b_law_numeral⟩ := C5
  refine D.has fun f fd F => F.ok sc_law_item (fun vs H Q E h => ?_) (fun cdv A outer s H vs Q E hr h => ?_)
  · obtain ⟨_, _, rfl, _⟩ := h
    rfl
  · obtain ⟨p, a, rfl, hp, q⟩ := h
    refine ⟨_, (pss_cons (ps_set (i := 1) sc_law_item.nd rfl (.inl rfl) (pe_call G_law_draw (hr.mono (by omega)) (by rfl) g_law_draw k_law_draw b_law_draw .nil pass0 (pa_cons (pv 0) (pa_cons pe_int pa_nil))))
    (pss_cons (ps_set (i := 2) sc_law_item.nd rfl (.inl rfl) (pe_call G_law_word (hr.mono (by omega)) (by rfl) g_law_word k_law_word b_law_word .nil pass0 (pa_cons (pv 0) pa_nil)))
    (pss_cons (ps_if (pt_cmpR op_eq (pv 1) pe_int (nomark _))
      (pss_one (ps_ret (pe_tup (pa_cons pe_str (pa_cons (pv 2) (pa_cons (pe_call G_law_word (hr.mono (by omega)) (by rfl) g_law_word k_law_word b_law_word .nil pass0 (pa_cons (pv 0) pa_nil)) (pa_cons (pe_call G_law_names (hr.mono (by omega)) (by rfl) g_law_names k_law_names b_law_names .nil pass0 (pa_cons (pv 0) (pa_cons pe_int pa_nil))) pa_nil)))))))
      pss_nil)
    (pss_cons (ps_if (pt_cmpR op_eq (pv 1) pe_int (nomark _))
      (pss_cons (ps_set (i := 3) sc_law_item.nd rfl (.inl rfl) (pe_call G_law_names (hr.mono (by omega)) (by rfl) g_law_names k_law_names b_law_names .nil pass0 (pa_cons (pv 0) (pa_cons pe_int pa_nil))))
      (pss_one (ps_ret (pe_tup (pa_cons pe_str (pa_cons (pv 2) (pa_cons (pv 3) (pa_cons (pe_call G_law_word (hr.mono (by omega)) (by rfl) g_law_word k_law_word b_law_word .nil pass0 (pa_cons (pv 0) pa_nil)) (pa_cons (pe_call G_law_names (hr.mono (by omega)) (by rfl) g_law_names k_law_names b_law_names .nil pass0 (pa_cons (pv 0) (pa_cons pe_int pa_nil))) pa_nil)))))))))
      pss_nil)
    (pss_cons (ps_set (i := 4) sc_law_item.nd rfl (.inl rfl) (pe_call G_law_range (hr.mono (by omega)) (by rfl) g_law_range k_law_range b_law_range .nil pass0 (pa_cons (pv 0) pa_nil)))
    (pss_cons (ps_set (i := 5) sc_law_item.nd rfl (.inl rfl) (pe_call G_law_range (hr.mono (by omega)) (by rfl) g_law_range k_law_range b_law_range .nil pass0 (pa_cons (pv 0) pa_nil)))
    (pss_cons (ps_set (i := 6) sc_law_item.nd rfl (.inl rfl) (pe_cmpR op_eq (pe_call G_law_draw (hr.mono (by omega)) (by rfl) g_law_draw k_law_draw b_law_draw .nil pass0 (pa_cons (pv 0) (pa_cons pe_int pa_nil))) pe_int (nomark _)))
    (pss_one (ps_ret (pe_tup (pa_cons pe_str (pa_cons (pv 2) (pa_cons (pe_call G_law_word (hr.mono (by omega)) (by rfl) g_law_word k_law_word b_law_word .nil pass0 (pa_cons (pv 0) pa_nil)) (pa_cons (pv 4) (pa_cons (pv 5) (pa_cons (pe_call G_law_numeral (hr.mono (by omega)) (by rfl) g_law_numeral k_law_numeral b_law_numeral .nil pass0 (pa_cons (pv 0) pa_nil)) (pa_cons (pe_call G_law_numeral (hr.mono (by omega)) (by rfl) g_law_numeral k_law_numeral b_law_numeral .nil pass0 (pa_cons (pv 0) pa_nil)) (pa_cons (pv 6) pa_nil)))))))))))))))))), ?_⟩
    refine ⟨_, rfl, p, a, 3, rfl, by decide, by decide, hp, fun kd H1 hkd X1 _ => ⟨_, rfl, p, a, rfl, X1.pool, fun W H2 hW hkw hWl X2 => ?_⟩⟩
    have gW := word20 hW hkw hWl
    have X12 := X1.trans X2
    refine ⟨_, rfl, rfl, _, rfl, ite2 (fun _ => ?_) (fun _ => ?_)⟩
    · refine ⟨_, rfl, _, rfl, p, a, rfl, X2.pool, fun W2 H3 hW2 hkw2 hWl2 X3 => ⟨_, rfl, p, a, 3, rfl, by omega, X3.pool, fun l v H4 hl X4 rp => ⟨(by show 4 ≤ sizeLine; decide), fun y ny => ?_⟩⟩⟩
      have X5 := (Px.refl X4.pool).new (o := .tup [.str "gate", .str (mk W), .str (mk W2), v]) ny
      exact q (.gate W W2 l) _ _ ⟨gW, word20 hW2 hkw2 hWl2, hl⟩ ((X12.trans X3).trans (X4.trans X5)) (Reps.tup (.cons (.str _) (.cons (.str _) (.cons (.str _) (.cons (rp.ex X5.exh) .nil)))) (X5.seen ny upd_same))
    refine ⟨_, rfl, rfl, _, rfl, ite2 (fun _ => ?_) (fun _ => ?_)⟩
    · refine ⟨_, rfl, p, a, 2, rfl, by omega, X2.pool, fun l v H3 hl X3 rp => ?_⟩
      refine ⟨_, rfl, _, rfl, _, rfl, p, a, rfl, X3.pool, fun W2 H4 hW2 hkw2 hWl2 X4 => ⟨_, rfl, p, a, 2, rfl, by omega, X4.pool, fun l2 v2 H5 hl2 X5 rp2 => ⟨(by show 5 ≤ sizeLine; decide), fun y ny => ?_⟩⟩⟩
      have X6 := (Px.refl X5.pool).new (o := .tup [.str "part", .str (mk W), v, .str (mk W2), v2]) ny
      exact q (.part W l W2 l2) _ _ ⟨gW, hl, word20 hW2 hkw2 hWl2, hl2⟩ ((X12.trans X3).trans ((X4.trans X5).trans X6)) (Reps.tup (.cons (.str _) (.cons (.str _) (.cons (rp.ex ((X4.trans X5).trans X6).exh) (.cons (.str _) (.cons (rp2.ex X6.exh) .nil))))) (X6.seen ny upd_same))
    · refine ⟨_, rfl, p, a, rfl, X2.pool, fun ed v H3 hed X3 rp => ⟨_, rfl, p, a, rfl, X3.pool, fun ou v2 H4 hou X4 rp2 => ⟨_, rfl, p, a, 2, rfl, by decide, by decide, X4.pool, fun sd H5 hsd X5 _ => ⟨rfl, ?_⟩⟩⟩⟩
      refine ⟨_, rfl, _, rfl, p, a, rfl, X5.pool, fun W2 H6 hW2 hkw2 hWl2 X6 => ⟨_, rfl, _, rfl, _, rfl, p, a, rfl, X6.pool, fun s1 H7 hs1 X7 => ⟨_, rfl, p, a, rfl, X7.pool, fun s2 H8 hs2 X8 => ⟨_, rfl, (by show 8 ≤ sizeLine; decide), fun y ny => ?_⟩⟩⟩⟩
      have X9 := (Px.refl X8.pool).new (o := .tup [.str "reg", .str (mk W), .str (mk W2), v, v2, .int (s1 : Nat), .int (s2 : Nat), .bl (decide (V.int (sd : Nat) = V.int 1))]) ny
      have X59 := ((X5.trans X6).trans (X7.trans X8)).trans X9
      exact q (.reg W W2 ed ou s1 s2 (decide (V.int (sd : Nat) = V.int 1))) _ _ ⟨gW, word20 hW2 hkw2 hWl2, hed, hou, hs1, hs2⟩ ((X12.trans X3).trans (X4.trans X59))
        (Reps.tup (.cons (.str _) (.cons (.str _) (.cons (.str _) (.cons (rp.ex (X4.trans X59).exh) (.cons (rp2.ex X59.exh) (.cons (.int _) (.cons (.int _) (.cons (.bl _) .nil)))))))) (X9.seen ny upd_same))
theorem sc_law_cell_of : FnScope ["pool", "name", "pins", "tree", "ranges", "k", "pair"] ["pool"] (defScope s_law_cell_of) := ⟨rfl, rfl, rfl, by decide +kernel, rfl, by decide +kernel, by decide +kernel⟩
theorem ok_law_cell_of (D : Dfd K mg "_law_cell_of" s_law_cell_of ["pool"]) (T : TxtGn mg) (C1 : Has P w K mg base 2 "_law_draw" ["pool", "many"] spDrawX) (C2 : Has P w K mg base 3 "_law_word" ["pool"] spWord) (C3 : Has P w K mg base 4 "_law_names" ["pool", "most"] spNames) (C4 : Has P w K mg base 4 "_law_range" ["pool"] (spGen RgOk pD)) (C5 : Has P w K mg base 8 "_law_tree" ["pool", "deep", "names"] spTreeA) :
    Has P w K mg base 9 "_law_cell_of" ["pool"] (spGen GCell CellD.dat) := by
  obtain ⟨f_law_draw, d_law_draw, G_law_draw, g_law_draw, k_law_draw, b_law_draw⟩ := C1
  obtain ⟨f_law_word, d_law_word, G_law_word, g_law_word, k_law_word, b_law_word⟩ := C2
  obtain ⟨f_law_names, d_law_names, G_law_names, g_law_names, k_law_names, b_law_names⟩ := C3
  obtain ⟨f_law_range, d_law_range, G_law_range, g_law_range, k_law_range, b_law_range⟩ := C4
  obtain ⟨f_law_tree, d_law_tree, G_law_tree, g_law_tree, k_law_tree, b_law_tree⟩ := C5
  refine D.has fun f fd F => F.ok sc_law_cell_of (fun vs H Q E h => ?_) (fun cdv A outer s H vs Q E hr h => ?_)
  · obtain ⟨_, _, rfl, _⟩ := h
    rfl
  · obtain ⟨p, a, rfl, hp, q⟩ := h
    refine ⟨_, (pss_cons (ps_set (i := 1) sc_law_cell_of.nd rfl (.inl rfl) (pe_call G_law_word (hr.mono (by omega)) (by rfl) g_law_word k_law_word b_law_word .nil pass0 (pa_cons (pv 0) pa_nil)))
    (pss_cons (ps_set (i := 2) sc_law_cell_of.nd rfl (.inl rfl) (pe_call G_law_names (hr.mono (by omega)) (by rfl) g_law_names k_law_names b_law_names .nil pass0 (pa_cons (pv 0) (pa_cons pe_int pa_nil))))
    (pss_cons (ps_set (i := 3) sc_law_cell_of.nd rfl (.inl rfl) (pe_call G_law_tree (hr.mono (by omega)) (by rfl) g_law_tree k_law_tree b_law_tree .nil pass0 (pa_cons (pv 0) (pa_cons (pe_call G_law_draw (hr.mono (by omega)) (by rfl) g_law_draw k_law_draw b_law_draw .nil pass0 (pa_cons (pv 0) (pa_cons pe_int pa_nil))) (pa_cons (pe_lst (pa_cons pe_str (pa_cons pe_str (pa_cons (pe_call G_law_word (hr.mono (by omega)) (by rfl) g_law_word k_law_word b_law_word .nil pass0 (pa_cons (pv 0) pa_nil)) pa_nil)))) pa_nil)))))
    (pss_cons (ps_set (i := 4) sc_law_cell_of.nd rfl (.inl rfl) (pe_lst pa_nil))
    (pss_cons (ps_for PassesOwn.never rfl (pi_range1 rfl T.range (pa_cons (pe_call G_law_draw (hr.mono (by omega)) (by rfl) g_law_draw k_law_draw b_law_draw .nil pass0 (pa_cons (pv 0) (pa_cons pe_int pa_nil))) pa_nil)) (pg_name (i := 5) sc_law_cell_of.nd rfl (.inl rfl))
      (pss_cons (ps_set (i := 6) sc_law_cell_of.nd rfl (.inl rfl) (pe_call G_law_range (hr.mono (by omega)) (by rfl) g_law_range k_law_range b_law_range .nil pass0 (pa_cons (pv 0) pa_nil)))
      (pss_one (ps_expr (pe_bm PySem.F.plainAttrs_list PySem.F.slot_list_append PySem.F.type_list_append mt_append (pv 4) (pa_cons (pe_tup (pa_cons (pe_call G_law_word (hr.mono (by omega)) (by rfl) g_law_word k_law_word b_law_word .nil pass0 (pa_cons (pv 0) pa_nil)) (pa_cons (pe_ix ix_tup (pv 6) pe_int (fun _ _ => rfl)) (pa_cons (pe_ix ix_tup (pv 6) pe_int (fun _ _ => rfl)) pa_nil)))) pa_nil))))))
    (pss_one (ps_ret (pe_tup (pa_cons (pv 1) (pa_cons (pv 2) (pa_cons (pv 3) (pa_cons (pe_callTy call_tuple_of (by rfl) T.tuple (by decide +kernel) (pa_cons (pv 4) pa_nil)) pa_nil)))))))))))), ?_⟩
    refine ⟨_, rfl, p, a, rfl, hp, fun W H1 hW hkw hWl X1 => ⟨_, rfl, p, a, 4, rfl, by omega, X1.pool, fun ps vps H2 hps X2 rp => ?_⟩⟩
    have X12 := X1.trans X2
    refine ⟨_, rfl, _, rfl, p, a, 5, rfl, by decide, by decide, X2.pool, fun td H3 htd X3 _ => ⟨_, rfl, p, a, rfl, X3.pool, fun W2 H4 hW2 hkw2 hWl2 X4 => ⟨(by show 3 ≤ sizeLine; decide), fun L nL => ?_⟩⟩⟩
    have X5 := (Px.refl X4.pool).new (o := .lst [V.str "a", .str "b1", .str (mk W2)]) nL
    have hL := X5.seen nL upd_same
    generalize upd H4 L (.lst [V.str "a", .str "b1", .str (mk W2)]) = H5 at *
    refine ⟨td, by omega, p, a, L, ["a", "b1", mk W2], rfl, X5.pool, hL, by show 0 < 3; decide, by show 3 ≤ 10; decide, fun tv t H6 X6 hT lT gT mT => ?_⟩
    have X36 := (X3.trans X4).trans (X5.trans X6)
    have rpt : Rep (hid p H6) tv t.dat := rep_tree (hT.hid X6.pool)
    have rp6 := rp.ex X36.exh
    have lT' : t.post.length ≤ 32 := by
      have : 2 ^ (td + 1) ≤ 32 := Nat.le_trans (Nat.pow_le_pow_right (by decide) (by omega : td + 1 ≤ 5)) (by decide)
      omega
    have gnm : ∀ x, Tr.name x ∈ t.post → G20 (tl x) := fun x hx => by
      have hm := mT x hx
      rcases List.mem_cons.mp hm with z | z
      · rw [z]; exact g_a.1
      rcases List.mem_cons.mp z with z | z
      · rw [z]; exact g_a.2
      · rw [List.mem_singleton.mp z]; exact word20 hW2 hkw2 hWl2
    refine ⟨(by show 0 ≤ sizeLine; decide), fun M nM => ?_⟩
    have X7 := (Px.refl X6.pool).new (o := .lst []) nM
    have hM : (upd H6 M (.lst [])) M = some (.lst []) := upd_same
    have rpt7 := rpt.ex X7.exh
    have rp7 := rp6.ex X7.exh
    generalize upd H6 M (.lst []) = H7 at *
    have nMp : M ≠ p := X6.pool.ne nM
    refine ⟨_, rfl, p, a, 4, rfl, by decide, by decide, X7.pool, fun many H8 hmany X8 _ => ⟨((many : Nat) : Int), rfl, by omega, by omega, for_range (n := ((many : Nat) : Int).toNat)
      (fun i σ H' => Px p a H6 H' ∧ ∃ (rs : List (List Nat × Nat × Nat)) (xs : List V) (z5 z6 : Option V), rs.length = i ∧ H' M = some (.lst xs) ∧ Reps (hid p H') xs (rs.map rgD) ∧ (∀ x ∈ rs, G20 x.1 ∧ RgOk x.2) ∧ σ = [some (.ref p), some (.str (mk W)), some vps, some tv, some (.ref M), z5, z6])
      ⟨X7.trans X8, [], [], _, _, rfl, ?_, Reps.nil, (fun _ h => nomatch h), rfl⟩ ?_ ?_⟩⟩
    · exact X8.at_ (by rw [hid_ne nMp]; exact hM)
    · rintro i σ H9 hi ⟨X9, rs, xs, z5, z6, hrl, hM9, hxs, hrg, rfl⟩
      have hxl : xs.length = rs.length := by rw [hxs.1, List.length_map]
      refine ⟨_, rfl, p, a, rfl, X9.pool, fun rg vr H10 hrg2 X10 rpr => ?_⟩
      have hM10 : H10 M = some (.lst xs) := X10.at_ (by rw [hid_ne nMp]; exact hM9)
      obtain ⟨ra, rxs, rfl, hra, hrr⟩ := rep_tup rpr
      obtain ⟨u1, r1, rfl, g1, hr1⟩ := hrr.un
      obtain ⟨u2, r2, rfl, g2, hr2⟩ := hr1.un
      rw [rep_int g1, rep_int g2, hr2.un0] at hra
      refine ⟨_, rfl, .inl ⟨rfl, _, SqL.of hM10⟩, _, rfl, p, a, rfl, X10.pool, fun W3 H11 hW3 hkw3 hWl3 X11 => ?_⟩
      have hM11 : H11 M = some (.lst xs) := X11.at_ (by rw [hid_ne nMp]; exact hM10)
      have hra11 := X11.get hra
      refine ⟨_, rfl, _, _, _, _, rfl, rfl, SqT.of (hid_get hra11), atI_nat (j := 0) rfl, _, rfl, _, _, _, _, rfl, rfl, SqT.of (hid_get hra11), atI_nat (j := 1) rfl, (by show 3 ≤ sizeLine; decide), fun y ny => ?_⟩
      have X12' := (Px.refl X11.pool).new (o := .tup [.str (mk W3), .int (rg.1 : Nat), .int (rg.2 : Nat)]) ny
      have hy := X12'.seen ny upd_same
      have hM12 : (upd H11 y (.tup [.str (mk W3), .int (rg.1 : Nat), .int (rg.2 : Nat)])) M = some (.lst xs) := X12'.at_ (by rw [hid_ne nMp]; exact hM11)
      generalize upd H11 y (.tup [.str (mk W3), .int (rg.1 : Nat), .int (rg.2 : Nat)]) = H12 at *
      have XX := X9.trans ((X10.trans X11).trans X12')
      have hxs12 := hxs.ex ((X10.trans X11).trans X12').exh
      have rpy : Rep (hid p H12) (.ref y) (rgD (W3, rg.1, rg.2)) := Reps.tup (.cons (.str _) (.cons (.int _) (.cons (.int _) .nil))) hy
      have tx := TX.hid (o := .lst (xs ++ [.ref y])) nMp hM12
      refine ⟨M, _, _, rfl, rfl, hM12, sz_lt (by omega), XX.mut nM, rs ++ [(W3, rg.1, rg.2)], xs ++ [.ref y], _, _, by rw [List.length_append, hrl]; rfl, upd_same, ?_, ?_, rfl⟩
      · rw [List.map_append]
        exact (hxs12.tx tx (nl_rgs _)).snoc (rpy.tx tx (nl_rg _))
      · intro z hz
        rcases List.mem_append.mp hz with h | h
        · exact hrg z h
        · rw [List.mem_singleton.mp h]; exact ⟨word20 hW3 hkw3 hWl3, hrg2⟩
    · rintro σ H9 ⟨X9, rs, xs, z5, z6, hrl, hM9, hxs, hrg, rfl⟩
      have rp9 := rp6.ex X9.exh
      have rpt9 := rpt.ex X9.exh
      refine ⟨_, rfl, _, rfl, _, rfl, _, rfl, M, _, rfl, .inl ⟨SqL.of hM9, fun c nc => ⟨(by show 4 ≤ sizeLine; decide), fun y ny => ?_⟩⟩⟩
      have Xa := (Px.refl X9.pool).new (o := .tup xs) nc
      have hc := Xa.seen nc upd_same
      generalize upd H9 c (.tup xs) = H10 at *
      have Xb := (Px.refl Xa.pool).new (o := .tup [.str (mk W), vps, tv, .ref c]) ny
      have Xab := Xa.trans Xb
      refine q ⟨W, ps, t, rs⟩ _ _ ⟨word20 hW hkw hWl, hps, by show rs.length ≤ 3; omega, hrg, by show t.ht ≤ 5; omega, lT', gnm⟩ ((X12.trans X36).trans (X9.trans Xab)) ?_
      exact Reps.tup (.cons (.str _) (.cons (rp9.ex Xab.exh) (.cons (rpt9.ex Xab.exh) (.cons ((hxs.ex Xab.exh).tup (Xb.get hc)) .nil)))) (Xb.seen ny upd_same)
end
end G

namespace G
open PySem PySem.Spec PyProof.Rows L2 Evl TL
section
variable {P : Program} {w : World} {K : PySem.W.Frag} {mg : Str → Option Value} {base : Heap}
theorem sc_law_deck : FnScope ["pool", "k", "cells", "modules", "name", "inputs", "outputs", "j"] ["pool"] (defScope s_law_deck) := ⟨rfl, rfl, rfl, by decide +kernel, rfl, by decide +kernel, by decide +kernel⟩
theorem ok_law_deck (D : Dfd K mg "_law_deck" s_law_deck ["pool"]) (T : TxtGn mg) (C1 : Has P w K mg base 2 "_law_draw" ["pool", "many"] spDrawX) (C2 : Has P w K mg base 3 "_law_word" ["pool"] spWord) (C3 : Has P w K mg base 4 "_law_names" ["pool", "most"] spNames) (C4 : Has P w K mg base 9 "_law_cell_of" ["pool"] (spGen GCell CellD.dat)) (C5 : Has P w K mg base 5 "_law_item" ["pool"] (spGen GItem ItemD.dat)) :
    Has P w K mg base 10 "_law_deck" ["pool"] (spGen GDeck DeckD.dat) := by
  obtain ⟨f_law_draw, d_law_draw, G_law_draw, g_law_draw, k_law_draw, b_law_draw⟩ := C1
  obtain ⟨f_law_word, d_law_word, G_law_word, g_law_word, k_law_word, b_law_word⟩ := C2
  obtain ⟨f_law_names, d_law_names, G_law_names, g_law_names, k_law_names, b_law_names⟩ := C3
  obtain ⟨f_law_cell_of, d_law_cell_of, G_law_cell_of, g_law_cell_of, k_law_cell_of, b_law_cell_of⟩ := C4
  obtain ⟨f_law_item, d_law_item, G_law_item, g_law_item, k_law_item, b_law_item⟩ := C5
  refine D.has fun f fd F => F.ok sc_law_deck (fun vs H Q E h => ?_) (fun cdv A outer s H vs Q E hr h => ?_)
  · obtain ⟨_, _, rfl, _⟩ := h
    rfl
  · obtain ⟨p, a, rfl, hp, q⟩ := h
    refine ⟨_, (pss_cons (ps_setLc (i := 2) (own := [("k", 1)]) (g := gName 1) (tt := tYes) rfl sc_law_deck.nd rfl rfl (sw_true rfl rfl rfl (by decide +kernel)) (pi_range1 rfl T.range (pa_cons (pe_call G_law_draw (hr.mono (by omega)) (by rfl) g_law_draw k_law_draw b_law_draw .nil pass0 (pa_cons (pv 0) (pa_cons pe_int pa_nil))) pa_nil)) (blkOk_by (N := ["pool", "k", "cells", "modules", "name", "inputs", "outputs", "j"]) (sc := defScope s_law_deck) (own := [("k", 1)]) (by decide +kernel)) (fun _ _ _ _ _ => (pg_name (i := 1) sc_law_deck.nd rfl (.inl rfl))) (fun _ _ _ _ _ => pts_nil) (fun _ _ _ _ _ => (pe_call G_law_cell_of (hr.mono (by omega)) (by rfl) g_law_cell_of k_law_cell_of b_law_cell_of .nil pass0 (pa_cons (pv 0) pa_nil))))
    (pss_cons (ps_set (i := 3) sc_law_deck.nd rfl (.inl rfl) (pe_lst pa_nil))
    (pss_cons (ps_for PassesOwn.never rfl (pi_range1 rfl T.range (pa_cons (pe_call G_law_draw (hr.mono (by omega)) (by rfl) g_law_draw k_law_draw b_law_draw .nil pass0 (pa_cons (pv 0) (pa_cons pe_int pa_nil))) pa_nil)) (pg_name (i := 1) sc_law_deck.nd rfl (.inl rfl))
      (pss_cons (ps_set (i := 4) sc_law_deck.nd rfl (.inl rfl) (pe_call G_law_word (hr.mono (by omega)) (by rfl) g_law_word k_law_word b_law_word .nil pass0 (pa_cons (pv 0) pa_nil)))
      (pss_cons (ps_set (i := 5) sc_law_deck.nd rfl (.inl rfl) (pe_call G_law_names (hr.mono (by omega)) (by rfl) g_law_names k_law_names b_law_names .nil pass0 (pa_cons (pv 0) (pa_cons pe_int pa_nil))))
      (pss_cons (ps_set (i := 6) sc_law_deck.nd rfl (.inl rfl) (pe_call G_law_names (hr.mono (by omega)) (by rfl) g_law_names k_law_names b_law_names .nil pass0 (pa_cons (pv 0) (pa_cons pe_int pa_nil))))
      (pss_one (ps_expr (pe_bm PySem.F.plainAttrs_list PySem.F.slot_list_append PySem.F.type_list_append mt_append (pv 3) (pa_cons (pe_tup (pa_cons (pv 4) (pa_cons (pv 5) (pa_cons (pv 6) (pa_cons (pe_callTy call_tuple_of (by rfl) T.tuple (by decide +kernel) (pa_cons (pe_lc (own := [("j", 7)]) (g := gName 7) (tt := tYes) rfl sc_law_deck.nd (pi_range1 rfl T.range (pa_cons (pe_call G_law_draw (hr.mono (by omega)) (by rfl) g_law_draw k_law_draw b_law_draw .nil pass0 (pa_cons (pv 0) (pa_cons pe_int pa_nil))) pa_nil)) (blkOk_by (N := ["pool", "k", "cells", "modules", "name", "inputs", "outputs", "j"]) (sc := defScope s_law_deck) (own := [("j", 7)]) (by decide +kernel)) (fun _ _ _ _ _ => (pg_name (i := 7) sc_law_deck.nd rfl (.inl rfl))) (fun _ _ _ _ _ => pts_nil) (fun _ _ _ _ _ => (pe_call G_law_item (hr.mono (by omega)) (by rfl) g_law_item k_law_item b_law_item .nil pass0 (pa_cons (pv 0) pa_nil)))) pa_nil)) pa_nil))))) pa_nil))))))))
    (pss_one (ps_ret (pe_tup (pa_cons (pe_callTy call_tuple_of (by rfl) T.tuple (by decide +kernel) (pa_cons (pv 2) pa_nil)) (pa_cons (pe_callTy call_tuple_of (by rfl) T.tuple (by decide +kernel) (pa_cons (pv 3) pa_nil)) pa_nil)))))))), ?_⟩
    refine ⟨_, rfl, p, a, 4, rfl, by decide, by decide, hp, fun m H1 hm X1 _ => ⟨((m : Nat) : Int), rfl, by omega, by omega, fun L nL => lc_range (lo := 0) (n := ((m : Nat) : Int).toNat)
      (fun i H' => Px p a H1 H' ∧ ∃ (cs : List CellD) (xs : List V), cs.length = i ∧ H' L = some (.lst xs) ∧ Reps (hid p H') xs (cs.map CellD.dat) ∧ ∀ x ∈ cs, GCell x) ⟨(Px.refl X1.pool).new nL, [], [], rfl, upd_same, Reps.nil, fun _ h => nomatch h⟩ ?_ ?_⟩⟩
    · rintro i H2 hi ⟨X2, cs, xs, hl, hL, hxs, hcs⟩
      have nLp : L ≠ p := X1.pool.ne nL
      have hxl : xs.length = cs.length := by rw [hxs.1, List.length_map]
      refine ⟨rfl, tYes_in ?_⟩
      refine ⟨_, rfl, p, a, rfl, X2.pool, fun c v H3 hc X3 rp => ?_⟩
      have hL3 : H3 L = some (.lst xs) := X3.at_ (by rw [hid_ne nLp]; exact hL)
      have tx := TX.hid (o := .lst (xs ++ [v])) nLp hL3
      refine ⟨_, hL3, sz_lt (by omega), (X2.trans X3).mut nL, cs ++ [c], xs ++ [v], by rw [List.length_append, hl]; rfl, upd_same, ?_, fun x hxm => ?_⟩
      · rw [List.map_append]
        exact ((hxs.ex X3.exh).tx tx (nl_cells _)).snoc (rp.tx tx (nl_cell _))
      · rcases List.mem_append.mp hxm with z | z
        · exact hcs x z
        · rw [List.mem_singleton.mp z]; exact hc
    rintro H2 ⟨X2, cs, xs, hcl, hL, hxs, hcs⟩
    have nLp : L ≠ p := X1.pool.ne nL
    have hLp : hid p H2 L = some (.lst xs) := by rw [hid_ne nLp]; exact hL
    refine ⟨(by show 0 ≤ sizeLine; decide), fun M nM => ?_⟩
    have X3 := (Px.refl X2.pool).new (o := .lst []) nM
    have hM : (upd H2 M (.lst [])) M = some (.lst []) := upd_same
    have nMp : M ≠ p := X2.pool.ne nM
    have hLp3 := X3.get hLp
    have hxs3 := hxs.ex X3.exh
    generalize upd H2 M (.lst []) = H3 at *
    refine ⟨_, rfl, p, a, 4, rfl, by decide, by decide, X3.pool, fun many H4 hmany X4 _ => ⟨((many : Nat) : Int), rfl, by omega, by omega, for_range (n := ((many : Nat) : Int).toNat)
      (fun i σ H' => Px p a H2 H' ∧ ∃ (ms : List ModD) (ys : List V) (y3 y4 y5 y6 y7 : Option V), ms.length = i ∧ H' M = some (.lst ys) ∧ Reps (hid p H') ys (ms.map ModD.dat) ∧ (∀ x ∈ ms, GMod x) ∧ σ = [some (.ref p), y3, some (.ref L), some (.ref M), y4, y5, y6, y7])
      ⟨X3.trans X4, [], [], _, _, _, _, _, rfl, X4.at_ (by rw [hid_ne nMp]; exact hM), Reps.nil, (fun _ h => nomatch h), rfl⟩ ?_ ?_⟩⟩
    · rintro i σ H5 hi ⟨X5, ms, ys, y3, y4, y5, y6, y7, hml, hM5, hys, hms, rfl⟩
      have hyl : ys.length = ms.length := by rw [hys.1, List.length_map]
      refine ⟨_, rfl, p, a, rfl, X5.pool, fun W H6 hW hkw hWl X6 => ⟨_, rfl, p, a, 3, rfl, by omega, X6.pool, fun is vis H7 his X7 rp1 => ⟨_, rfl, p, a, 3, rfl, by omega, X7.pool, fun os vos H8 hos X8 rp2 => ?_⟩⟩⟩
      have hM8 : H8 M = some (.lst ys) := (X6.trans (X7.trans X8)).at_ (by rw [hid_ne nMp]; exact hM5)
      have rp18 := rp1.ex X8.exh
      have hys8 := hys.ex (X6.trans (X7.trans X8)).exh
      refine ⟨_, rfl, .inl ⟨rfl, _, SqL.of hM8⟩, _, rfl, _, rfl, _, rfl, _, rfl, p, a, 5, rfl, by decide, by decide, X8.pool, fun ni H9 hni X9 _ => ⟨((ni : Nat) : Int), rfl, by omega, by omega, fun J nJ => lc_range (lo := 0) (n := ((ni : Nat) : Int).toNat)
        (fun i H' => Px p a H9 H' ∧ ∃ (its : List ItemD) (zs : List V), its.length = i ∧ H' J = some (.lst zs) ∧ Reps (hid p H') zs (its.map ItemD.dat) ∧ ∀ x ∈ its, GItem x) ⟨(Px.refl X9.pool).new nJ, [], [], rfl, upd_same, Reps.nil, fun _ h => nomatch h⟩ ?_ ?_⟩⟩
      · rintro i2 H10 hi2 ⟨X10, its, zs, hil, hJ, hzs, hits⟩
        have nJp : J ≠ p := X9.pool.ne nJ
        have hzl : zs.length = its.length := by rw [hzs.1, List.length_map]
        refine ⟨rfl, tYes_in ?_⟩
        refine ⟨_, rfl, p, a, rfl, X10.pool, fun c v H11 hc X11 rp => ?_⟩
        have hJ11 : H11 J = some (.lst zs) := X11.at_ (by rw [hid_ne nJp]; exact hJ)
        have tx := TX.hid (o := .lst (zs ++ [v])) nJp hJ11
        refine ⟨_, hJ11, sz_lt (by omega), (X10.trans X11).mut nJ, its ++ [c], zs ++ [v], by rw [List.length_append, hil]; rfl, upd_same, ?_, fun x hxm => ?_⟩
        · rw [List.map_append]
          exact ((hzs.ex X11.exh).tx tx (nl_items _)).snoc (rp.tx tx (nl_item _))
        · rcases List.mem_append.mp hxm with z | z
          · exact hits x z
          · rw [List.mem_singleton.mp z]; exact hc
      rintro H10 ⟨X10, its, zs, hil, hJ, hzs, hits⟩
      have X910 := X9.trans X10
      have hM10 : H10 M = some (.lst ys) := X910.at_ (by rw [hid_ne nMp]; exact hM8)
      refine ⟨J, _, rfl, .inl ⟨SqL.of hJ, fun c nc => ⟨(by show 4 ≤ sizeLine; decide), fun y ny => ?_⟩⟩⟩
      have Xa := (Px.refl X10.pool).new (o := .tup zs) nc
      have hc := Xa.seen nc upd_same
      generalize upd H10 c (.tup zs) = H11 at *
      have Xb := (Px.refl Xa.pool).new (o := .tup [.str (mk W), vis, vos, .ref c]) ny
      have hy := Xb.seen ny upd_same
      generalize upd H11 y (.tup [.str (mk W), vis, vos, .ref c]) = H12 at *
      have Xab := Xa.trans Xb
      have hM12 : H12 M = some (.lst ys) := Xab.at_ (by rw [hid_ne nMp]; exact hM10)
      have X812 := X910.trans Xab
      have rpm : Rep (hid p H12) (.ref y) (ModD.dat ⟨W, is, os, its⟩) := Reps.tup (.cons (.str _) (.cons (rp18.ex X812.exh) (.cons (rp2.ex X812.exh) (.cons ((hzs.ex Xab.exh).tup (Xb.get hc)) .nil)))) hy
      have tx := TX.hid (o := .lst (ys ++ [.ref y])) nMp hM12
      refine ⟨M, _, _, rfl, rfl, hM12, sz_lt (by omega), (X5.trans ((X6.trans (X7.trans X8)).trans X812)).mut nM, ms ++ [⟨W, is, os, its⟩], ys ++ [.ref y], _, _, _, _, _, by rw [List.length_append, hml]; rfl, upd_same, ?_, fun x hxm => ?_, rfl⟩
      · rw [List.map_append]
        exact ((hys8.ex X812.exh).tx tx (nl_mods _)).snoc (rpm.tx tx (nl_mod _))
      · rcases List.mem_append.mp hxm with z | z
        · exact hms x z
        · rw [List.mem_singleton.mp z]; exact ⟨word20 hW hkw hWl, his, hos, by show its.length ≤ 4; omega, hits⟩
    · rintro σ H5 ⟨X5, ms, ys, y3, y4, y5, y6, y7, hml, hM5, hys, hms, rfl⟩
      have hL5 := X5.at_ hLp
      have hxs5 := hxs.ex X5.exh
      refine ⟨_, rfl, L, _, rfl, .inl ⟨SqL.of hL5, fun c nc => ?_⟩⟩
      have Xa := (Px.refl X5.pool).new (o := .tup xs) nc
      have hc := Xa.seen nc upd_same
      have hM6 : (upd H5 c (.tup xs)) M = some (.lst ys) := Xa.at_ (by rw [hid_ne nMp]; exact hM5)
      generalize upd H5 c (.tup xs) = H6 at *
      refine ⟨_, rfl, M, _, rfl, .inl ⟨SqL.of hM6, fun c2 nc2 => ⟨(by show 2 ≤ sizeLine; decide), fun y ny => ?_⟩⟩⟩
      have Xb := (Px.refl Xa.pool).new (o := .tup ys) nc2
      have hc2 := Xb.seen nc2 upd_same
      generalize upd H6 c2 (.tup ys) = H7 at *
      have Xc := (Px.refl Xb.pool).new (o := .tup [.ref c, .ref c2]) ny
      have Xbc := Xb.trans Xc
      have Xabc := Xa.trans Xbc
      refine q ⟨cs, ms⟩ _ _ ⟨by show cs.length ≤ 3; omega, hcs, by show ms.length ≤ 3; omega, hms⟩ ((X1.trans X2).trans (X5.trans Xabc)) ?_
      exact Reps.tup (.cons ((hxs5.ex Xabc.exh).tup (Xbc.get hc)) (.cons ((hys.ex Xabc.exh).tup (Xc.get hc2)) .nil)) (Xc.seen ny upd_same)
end
end G
namespace G
open PySem PySem.Spec PyProof.Rows L2 Evl TL
def tagsL : List Str := ["or", "xor", "and", "not", "name", "const"]
theorem idx_no {l : List Str} {j : Nat} {x : Str} (h : ∀ s ∈ l.take j, s ≠ x) : ∀ (k : Nat) (z : V), k < j → (l.map V.str)[k]? = some z → eqV z (.str x) = false := by
  intro k z hk e
  rw [List.getElem?_map] at e
  obtain ⟨s, hs, rfl⟩ := Option.map_eq_some_iff.mp e
  have hm : s ∈ l.take j := by
    refine List.mem_of_getElem? (i := k) ?_
    rw [List.getElem?_take_of_lt hk]; exact hs
  exact beq_eq_false_iff_ne.mpr (h s hm)
theorem tag_ix (t : Tr) : ∃ j : Nat, (tagsL.map V.str)[j]? = some (.str t.tag) ∧ (∀ (k : Nat) (z : V), k < j → (tagsL.map V.str)[k]? = some z → eqV z (.str t.tag) = false) ∧ ((j : Int) + 1) - (if decide (V.str t.tag = V.str "const") = true then 1 else 0) = (lvT t : Nat) := by
  cases t with
  | name x => exact ⟨4, rfl, idx_no (x := "name") (by decide +kernel), (by show ((4 : Int) + 1) - (if decide (V.str ("name" : Str) = V.str "const") = true then 1 else 0) = 5; decide +kernel)⟩
  | const b => exact ⟨5, rfl, idx_no (x := "const") (by decide +kernel), (by show ((5 : Int) + 1) - (if decide (V.str ("const" : Str) = V.str "const") = true then 1 else 0) = 5; decide +kernel)⟩
  | neg t => exact ⟨3, rfl, idx_no (x := "not") (by decide +kernel), (by show ((3 : Int) + 1) - (if decide (V.str ("not" : Str) = V.str "const") = true then 1 else 0) = 4; decide +kernel)⟩
  | bin o a b =>
    cases o with
    | or => exact ⟨0, rfl, idx_no (x := "or") (by decide +kernel), (by show ((0 : Int) + 1) - (if decide (V.str ("or" : Str) = V.str "const") = true then 1 else 0) = 1; decide +kernel)⟩
    | xor => exact ⟨1, rfl, idx_no (x := "xor") (by decide +kernel), (by show ((1 : Int) + 1) - (if decide (V.str ("xor" : Str) = V.str "const") = true then 1 else 0) = 2; decide +kernel)⟩
    | and => exact ⟨2, rfl, idx_no (x := "and") (by decide +kernel), (by show ((2 : Int) + 1) - (if decide (V.str ("and" : Str) = V.str "const") = true then 1 else 0) = 3; decide +kernel)⟩
structure TxtLv (mg : Str → Option Value) : Prop where
  int : mg "int" = none
section
variable {P : Program} {w : World} {K : PySem.W.Frag} {mg : Str → Option Value} {base : Heap}
def spLevel : Sp := fun vs H Q _ => ∃ (v : V) (t : Tr), vs = [v] ∧ TreeAt K H v t ∧ ∀ H', Ex H H' → Q (.int (lvT t : Nat)) H'
theorem sc_law_level : FnScope ["tree"] ["tree"] (defScope s_law_level) := ⟨rfl, rfl, rfl, by decide +kernel, rfl, by decide +kernel, by decide +kernel⟩
theorem ok_law_level (D : Dfd K mg "_law_level" s_law_level ["tree"]) (T : TxtLv mg) : Has P w K mg base 1 "_law_level" ["tree"] (spLevel (K := K)) := by
  refine D.has fun f fd F => F.ok sc_law_level (fun vs H Q E h => ?_) (fun cdv A outer s H vs Q E hr h => ?_)
  · obtain ⟨v, t, rfl, _⟩ := h
    rfl
  · obtain ⟨v, t, rfl, ht, q⟩ := h
    refine ⟨_, (pss_one (ps_ret (pe_op op_sub (pe_op op_add (pe_bm PySem.F.plainAttrs_list PySem.F.slot_list_index PySem.F.type_list_index mt_index (pe_lst (pa_cons pe_str (pa_cons pe_str (pa_cons pe_str (pa_cons pe_str (pa_cons pe_str (pa_cons pe_str pa_nil))))))) (pa_cons (pe_ix ix_tup (pv 0) pe_int (fun _ _ => rfl)) pa_nil)) pe_int) (pe_callTy call_int1 (by rfl) T.int (by decide +kernel) (pa_cons (pe_cmpR op_eq (pe_ix ix_tup (pv 0) pe_int (fun _ _ => rfl)) pe_str (nomark _)) pa_nil))))), ?_⟩
    obtain ⟨b, zs, rfl, hs, _⟩ := ht.seq
    obtain ⟨j, h2, h3, h4⟩ := tag_ix t
    refine ⟨(by show 6 ≤ sizeLine; decide), fun l nl => ?_⟩
    have E1 := Ex.new (o := .lst (tagsL.map V.str)) nl
    have hs1 := ex_t E1 hs
    refine ⟨.inl ⟨rfl, tagsL.map V.str, SqL.of upd_same⟩, _, rfl, _, _, _, _, rfl, rfl, hs1, atI_nat (j := 0) rfl, l, tagsL.map V.str, _, j, _, rfl, rfl, SqL.of upd_same, rfl, rfl, h2, beq_self_eq_true t.tag, h3, _, _, rfl, rfl, _, rfl, _, _, _, _, rfl, rfl, hs1, atI_nat (j := 0) rfl, rfl, .inr ⟨_, rfl, ?_⟩⟩
    refine ⟨_, _, rfl, rfl, ?_⟩
    have := q _ E1
    rw [← h4] at this
    exact this
end
end G
namespace G
open PySem PySem.Spec PyProof.Rows L2 Evl TL
theorem tokF_len : ∀ t : Tr, (tokF t).length ≤ 5 * t.post.length
  | .name x => by show 1 ≤ 5 * 1; decide
  | .const b => by show 1 ≤ 5 * 1; decide
  | .neg t => by
    have := tokF_len t
    have hw : (wrapP 4 t (tokF t)).length ≤ (tokF t).length + 2 := by unfold wrapP; split <;> simp
    show (wrapP 4 t (tokF t)).length + 1 ≤ 5 * (t.post ++ [Tr.neg t]).length
    rw [List.length_append, List.length_singleton]; omega
  | .bin o a b => by
    have ha := tokF_len a
    have hb := tokF_len b
    have h1 : (wrapP (lvO o) a (tokF a)).length ≤ (tokF a).length + 2 := by unfold wrapP; split <;> simp
    have h2 : (wrapP (lvO o + 1) b (tokF b)).length ≤ (tokF b).length + 2 := by unfold wrapP; split <;> simp
    show (wrapP (lvO o) a (tokF a) ++ sgO o :: wrapP (lvO o + 1) b (tokF b)).length ≤ 5 * (a.post ++ b.post ++ [Tr.bin o a b]).length
    rw [List.length_append, List.length_cons, List.length_append, List.length_append, List.length_singleton]; omega
section
variable {P : Program} {w : World} {K : PySem.W.Frag} {mg : Str → Option Value} {base : Heap}
def spTokN (n : Nat) : Sp := fun vs H Q _ => ∃ (v : V) (t : Tr), vs = [v] ∧ TreeAt K H v t ∧ t.ht ≤ n ∧ t.post.length ≤ 1000 ∧ ∀ H' L, Ex H H' → H L = none → H' L = some (.lst (strsV (tokF t))) → Q (.ref L) H'
def spCloN (n : Nat) : Sp := fun vs H Q _ => ∃ (v : V) (t : Tr) (least : Nat), vs = [v, .int (least : Nat)] ∧ TreeAt K H v t ∧ t.ht ≤ n ∧ t.post.length ≤ 1000 ∧ ∀ H' L, Ex H H' → H L = none → H' L = some (.lst (strsV (wrapP least t (tokF t)))) → Q (.ref L) H'
theorem sc_law_closed : FnScope ["tree", "least"] ["tree", "least"] (defScope s_law_closed) := ⟨rfl, rfl, rfl, by decide +kernel, rfl, by decide +kernel, by decide +kernel⟩
theorem fn_closed {n z : Nat} {ft : Addr} {dt : FuncData} (hz : 1 ≤ z) {fc : Addr} {dc : FuncData} (F : Fun K "_law_closed" "_law_closed" s_law_closed fc dc) (C1 : Has P w K mg base 1 "_law_level" ["tree"] (spLevel (K := K)))
    (G_law_tokens : FnOk P w K mg base CX0 z ft dt ["tree"] (spTokN (K := K) n)) (g_law_tokens : mg "_law_tokens" = some (.ref ft)) (k_law_tokens : PySem.W.keepIn K (.ref ft) = true) (b_law_tokens : Binds K dt ["tree"] []) :
    FnOk P w K mg base CX0 (z + 1) fc dc ["tree", "least"] (spCloN (K := K) n) := by
  obtain ⟨f_law_level, d_law_level, G_law_level, g_law_level, k_law_level, b_law_level⟩ := C1
  refine F.ok sc_law_closed (fun vs H Q E h => ?_) (fun cdv A outer s H vs Q E hr h => ?_)
  · obtain ⟨v, t, least, rfl, _⟩ := h
    rfl
  · obtain ⟨v, t, least, rfl, ht, hn, hp, q⟩ := h
    refine ⟨_, (pss_cons (ps_if (pt_cmpR op_lt (pe_call G_law_level (hr.mono (by omega)) (by rfl) g_law_level k_law_level b_law_level .nil pass0 (pa_cons (pv 0) pa_nil)) (pv 1) (nomark _))
      (pss_one (ps_ret (pe_op op_cat (pe_op op_cat (pe_lst (pa_cons pe_str pa_nil)) (pe_call G_law_tokens (hr.mono (by omega)) (by rfl) g_law_tokens k_law_tokens b_law_tokens .nil pass0 (pa_cons (pv 0) pa_nil))) (pe_lst (pa_cons pe_str pa_nil)))))
      pss_nil)
    (pss_one (ps_ret (pe_call G_law_tokens (hr.mono (by omega)) (by rfl) g_law_tokens k_law_tokens b_law_tokens .nil pass0 (pa_cons (pv 0) pa_nil))))), ?_⟩
    have hl := tokF_len t
    refine ⟨_, rfl, v, t, rfl, ht, fun H1 E1 => ⟨_, rfl, _, _, rfl, rfl, _, rfl, ite2 (fun c => ?_) (fun c => ?_)⟩⟩
    · have hc : lvT t < least := by have := of_decide_eq_true c; omega
      refine ⟨(by show 1 ≤ sizeLine; decide), fun l1 n1 => ⟨_, rfl, v, t, rfl, (ht.ex E1).ex (Ex.new n1), hn, hp, fun H2 L2 E2 n2 h2 => ?_⟩⟩
      have h1 := E2 _ _ (upd_same (H := H1) (a := l1))
      refine ⟨l1, L2, _, _, rfl, rfl, h1, h2, ?_, fun L3 n3 => ⟨(by show 1 ≤ sizeLine; decide), fun l4 n4 => ?_⟩⟩
      · refine sz_of ?_; show 1 + (strsV (tokF t)).length ≤ _; rw [strsV_len]; omega
      have h3 : (upd H2 L3 (.lst ([V.str "("] ++ strsV (tokF t)))) L3 = some (.lst ([V.str "("] ++ strsV (tokF t))) := upd_same
      have E3 : Ex H2 (upd H2 L3 (.lst ([V.str "("] ++ strsV (tokF t)))) := Ex.new n3
      have h3' := Ex.new (o := .lst [V.str ")"]) n4 _ _ h3
      refine ⟨L3, l4, _, _, rfl, rfl, h3', upd_same, ?_, fun L5 n5 => ?_⟩
      · refine sz_of ?_; show (strsV (tokF t)).length + 1 + 1 ≤ _; rw [strsV_len]; omega
      have EE : Ex H (upd (upd (upd H2 L3 (.lst ([V.str "("] ++ strsV (tokF t)))) l4 (.lst [V.str ")"])) L5 (.lst (([V.str "("] ++ strsV (tokF t)) ++ [V.str ")"]))) := (((E1.trans (Ex.new n1)).trans E2).trans E3).trans ((Ex.new n4).trans (Ex.new n5))
      refine q _ L5 EE ?_ ?_
      · cases hq : H L5 with
        | none => rfl
        | some o =>
          have := ((((E1.trans (Ex.new n1)).trans E2).trans E3).trans (Ex.new (o := .lst [V.str ")"]) n4)) _ _ hq
          rw [this] at n5; cases n5
      · rw [upd_same]
        unfold wrapP
        rw [if_pos hc]
        have : strsV ([40] :: (tokF t ++ [[41]])) = ([V.str "("] ++ strsV (tokF t)) ++ [V.str ")"] := by
          show V.str (mk [40]) :: strsV (tokF t ++ [[41]]) = _
          rw [strsV_app]; rfl
        rw [this]
    · have hc : ¬ lvT t < least := fun z => c (decide_eq_true (by omega))
      refine ⟨_, rfl, v, t, rfl, ht.ex E1, hn, hp, fun H2 L2 E2 n2 h2 => q H2 L2 (E1.trans E2) ?_ ?_⟩
      · cases hq : H L2 with
        | none => rfl
        | some o => rw [E1 _ _ hq] at n2; cases n2
      · unfold wrapP
        rw [if_neg hc]; exact h2
end
end G
namespace G
open PySem PySem.Spec PyProof.Rows L2 Evl TL
theorem sg_at (o : Op) : ([V.str "|", .str "^", .str "&"] : List V)[lvO o - 1]? = some (.str (mk (sgO o))) ∧ 1 ≤ lvO o ∧ lvO o ≤ 3 := by
  cases o <;> exact ⟨rfl, by decide, by decide⟩
section
variable {P : Program} {w : World} {K : PySem.W.Frag} {mg : Str → Option Value} {base : Heap}
theorem sc_law_tokens : FnScope ["tree", "level"] ["tree"] (defScope s_law_tokens) := ⟨rfl, rfl, rfl, by decide +kernel, rfl, by decide +kernel, by decide +kernel⟩
theorem fn_tokens {n z : Nat} {ft : Addr} {dt : FuncData} (hz : 1 ≤ z) {fc : Addr} {dc : FuncData} (F : Fun K "_law_tokens" "_law_tokens" s_law_tokens ft dt) (T : TxtLv mg) (C1 : Has P w K mg base 1 "_law_level" ["tree"] (spLevel (K := K)))
    (G_law_closed : FnOk P w K mg base CX0 z fc dc ["tree", "least"] (spCloN (K := K) n)) (g_law_closed : mg "_law_closed" = some (.ref fc)) (k_law_closed : PySem.W.keepIn K (.ref fc) = true) (b_law_closed : Binds K dc ["tree", "least"] []) :
    FnOk P w K mg base CX0 (z + 1) ft dt ["tree"] (spTokN (K := K) (n + 1)) := by
  obtain ⟨f_law_level, d_law_level, G_law_level, g_law_level, k_law_level, b_law_level⟩ := C1
  refine F.ok sc_law_tokens (fun vs H Q E h => ?_) (fun cdv A outer s H vs Q E hr h => ?_)
  · obtain ⟨v, t, rfl, _⟩ := h
    rfl
  · obtain ⟨v, t, rfl, ht, hn, hp, q⟩ := h
    refine ⟨_, (pss_cons (ps_if (pt_cmpR op_eq (pe_ix ix_tup (pv 0) pe_int (fun _ _ => rfl)) pe_str (nomark _))
      (pss_one (ps_ret (pe_lst (pa_cons (pe_ix ix_tup (pv 0) pe_int (fun _ _ => rfl)) pa_nil))))
      pss_nil)
    (pss_cons (ps_if (pt_cmpR op_eq (pe_ix ix_tup (pv 0) pe_int (fun _ _ => rfl)) pe_str (nomark _))
      (pss_one (ps_ret (pe_lst (pa_cons (pe_ix ix_list (pe_lst (pa_cons pe_str (pa_cons pe_str pa_nil))) (pe_callTy call_int1 (by rfl) T.int (by decide +kernel) (pa_cons (pe_ix ix_tup (pv 0) pe_int (fun _ _ => rfl)) pa_nil)) (fun _ _ => rfl)) pa_nil))))
      pss_nil)
    (pss_cons (ps_if (pt_cmpR op_eq (pe_ix ix_tup (pv 0) pe_int (fun _ _ => rfl)) pe_str (nomark _))
      (pss_one (ps_ret (pe_op op_cat (pe_lst (pa_cons pe_str pa_nil)) (pe_call G_law_closed (hr.mono (by omega)) (by rfl) g_law_closed k_law_closed b_law_closed .nil pass0 (pa_cons (pe_ix ix_tup (pv 0) pe_int (fun _ _ => rfl)) (pa_cons pe_int pa_nil))))))
      pss_nil)
    (pss_cons (ps_set (i := 1) sc_law_tokens.nd rfl (.inl rfl) (pe_call G_law_level (hr.mono (by omega)) (by rfl) g_law_level k_law_level b_law_level .nil pass0 (pa_cons (pv 0) pa_nil)))
    (pss_one (ps_ret (pe_op op_cat (pe_op op_cat (pe_call G_law_closed (hr.mono (by omega)) (by rfl) g_law_closed k_law_closed b_law_closed .nil pass0 (pa_cons (pe_ix ix_tup (pv 0) pe_int (fun _ _ => rfl)) (pa_cons (pv 1) pa_nil))) (pe_lst (pa_cons (pe_ix ix_list (pe_lst (pa_cons pe_str (pa_cons pe_str (pa_cons pe_str pa_nil)))) (pe_op op_sub (pv 1) pe_int) (fun _ _ => rfl)) pa_nil))) (pe_call G_law_closed (hr.mono (by omega)) (by rfl) g_law_closed k_law_closed b_law_closed .nil pass0 (pa_cons (pe_ix ix_tup (pv 0) pe_int (fun _ _ => rfl)) (pa_cons (pe_op op_add (pv 1) pe_int) pa_nil)))))))))), ?_⟩
    have ht0 := ht
    obtain ⟨b, zs, rfl, hs, hzs⟩ := ht.seq
    refine ⟨_, rfl, _, _, _, _, rfl, rfl, hs, atI_nat (j := 0) rfl, rfl, _, rfl, ?_⟩
    cases t with
    | name x =>
      obtain rfl : zs = [.str x] := hzs
      refine iteY (decide_eq_true rfl) ⟨_, rfl, _, _, _, _, rfl, rfl, hs, atI_nat (j := 1) rfl, (by show 1 ≤ sizeLine; decide), fun L nL => q _ L (Ex.new nL) nL ?_⟩
      rw [upd_same]
      show _ = some (HO.lst [V.str (mk (tl x))])
      rw [mk_tlS]
    | const c =>
      obtain rfl : zs = [.bl c] := hzs
      refine iteN (decide_eq_false fun z => tagNe.1 (V.str.inj z)) ?_
      refine ⟨_, rfl, _, _, _, _, rfl, rfl, hs, atI_nat (j := 0) rfl, rfl, _, rfl, ?_⟩
      refine iteY (decide_eq_true rfl) ?_
      refine ⟨(by show 2 ≤ sizeLine; decide), fun l nl => ?_⟩
      have hs1 := ex_t (Ex.new (o := .lst [V.str "0", .str "1"]) nl) hs
      refine ⟨_, rfl, _, _, _, _, rfl, rfl, hs1, atI_nat (j := 1) rfl, .inr ⟨c, rfl, ?_⟩⟩
      have hit : ([V.str "0", .str "1"] : List V)[if c = true then 1 else 0]? = some (.str (mk (if c = true then [49] else [48]))) := by cases c <;> rfl
      have ei : (if c = true then (1 : Int) else 0) = ((if c = true then 1 else 0 : Nat) : Int) := by cases c <;> rfl
      rw [ei]
      refine ⟨_, _, _, _, rfl, rfl, SqL.of upd_same, atI_nat hit, (by show 1 ≤ sizeLine; decide), fun L nL => q _ L ((Ex.new nl).trans (Ex.new nL)) (frb (Ex.new nl) nL) ?_⟩
      rw [upd_same]; rfl
    | neg t =>
      obtain ⟨a, x, e1, h2, h3⟩ := ht0
      cases e1
      have hn' : t.ht + 1 ≤ n + 1 := hn
      have hp' : t.post.length ≤ 1000 := by
        have hp : (t.post ++ [Tr.neg t]).length ≤ 1000 := hp
        rw [List.length_append] at hp; omega
      have hl := tokF_len t
      have hw : (wrapP 4 t (tokF t)).length ≤ (tokF t).length + 2 := by unfold wrapP; split <;> simp
      refine iteN (decide_eq_false fun z => tagNe.2.1 (V.str.inj z)) ?_
      refine ⟨_, rfl, _, _, _, _, rfl, rfl, hs, atI_nat (j := 0) rfl, rfl, _, rfl, ?_⟩
      refine iteN (decide_eq_false fun z => tagNe.2.2 (V.str.inj z)) ?_
      refine ⟨_, rfl, _, _, _, _, rfl, rfl, hs, atI_nat (j := 0) rfl, rfl, _, rfl, ?_⟩
      refine iteY (decide_eq_true rfl) ?_
      refine ⟨(by show 1 ≤ sizeLine; decide), fun l1 n1 => ?_⟩
      have E1 := Ex.new (o := .lst [V.str "!"]) n1
      have hs1 := ex_t E1 h2
      refine ⟨_, rfl, _, _, _, _, rfl, rfl, hs1, atI_nat (j := 1) rfl, x, t, 4, rfl, h3.ex E1, by omega, hp', fun H2 L2 E2 n2 g2 => ?_⟩
      have g1 := E2 _ _ (upd_same (H := H) (a := l1))
      refine ⟨l1, L2, _, _, rfl, rfl, g1, g2, ?_, fun L3 n3 => q _ L3 ((E1.trans E2).trans (Ex.new n3)) (frb (E1.trans E2) n3) ?_⟩
      · refine sz_of ?_; show 1 + (strsV (wrapP 4 t (tokF t))).length ≤ _; rw [strsV_len]; omega
      · rw [upd_same]; rfl
    | bin o l r =>
      obtain ⟨a, x, y, e1, h2, h3, h4⟩ := ht0
      cases e1
      have hn' : max l.ht r.ht + 1 ≤ n + 1 := hn
      obtain ⟨hp1, hp2⟩ : l.post.length ≤ 1000 ∧ r.post.length ≤ 1000 := by
        have hp : (l.post ++ r.post ++ [Tr.bin o l r]).length ≤ 1000 := hp
        rw [List.length_append, List.length_append] at hp; exact ⟨by omega, by omega⟩
      have hll := tokF_len l
      have hlr := tokF_len r
      have hw1 : (wrapP (lvO o) l (tokF l)).length ≤ (tokF l).length + 2 := by unfold wrapP; split <;> simp
      have hw2 : (wrapP (lvO o + 1) r (tokF r)).length ≤ (tokF r).length + 2 := by unfold wrapP; split <;> simp
      obtain ⟨hsg, ho1, ho3⟩ := sg_at o
      refine iteN (decide_eq_false fun z => o.ne.1 (V.str.inj z)) ?_
      refine ⟨_, rfl, _, _, _, _, rfl, rfl, hs, atI_nat (j := 0) rfl, rfl, _, rfl, ?_⟩
      refine iteN (decide_eq_false fun z => o.ne.2.1 (V.str.inj z)) ?_
      refine ⟨_, rfl, _, _, _, _, rfl, rfl, hs, atI_nat (j := 0) rfl, rfl, _, rfl, ?_⟩
      refine iteN (decide_eq_false fun z => o.ne.2.2 (V.str.inj z)) ?_
      refine ⟨_, rfl, _, .bin o l r, rfl, ht, fun H1 E1 => ?_⟩
      have hs1 := ex_t E1 h2
      refine ⟨_, rfl, _, _, _, _, rfl, rfl, hs1, atI_nat (j := 1) rfl, _, rfl, x, l, lvO o, rfl, h3.ex E1, by omega, hp1, fun H2 L2 E2 n2 g2 => ?_⟩
      refine ⟨(by show 3 ≤ sizeLine; decide), fun l3 n3 => ?_⟩
      have E3 := Ex.new (o := .lst [V.str "|", .str "^", .str "&"]) n3
      have eo : ((lvO o : Nat) : Int) - 1 = ((lvO o - 1 : Nat) : Int) := by omega
      have hat : atI ([V.str "|", .str "^", .str "&"] : List V) (((lvO o : Nat) : Int) - 1) = some (.str (mk (sgO o))) := by rw [eo]; exact atI_nat hsg
      refine ⟨_, rfl, _, _, rfl, rfl, _, _, _, _, rfl, rfl, SqL.of upd_same, hat, (by show 1 ≤ sizeLine; decide), fun l4 n4 => ?_⟩
      have E4 := Ex.new (o := .lst [V.str (mk (sgO o))]) n4
      have g2' := E4 _ _ (E3 _ _ g2)
      refine ⟨L2, l4, _, _, rfl, rfl, g2', upd_same, ?_, fun L5 n5 => ?_⟩
      · refine sz_of ?_; show (strsV (wrapP (lvO o) l (tokF l))).length + 1 ≤ _; rw [strsV_len]; omega
      have E5 := Ex.new (o := .lst (strsV (wrapP (lvO o) l (tokF l)) ++ [V.str (mk (sgO o))])) n5
      have E15 := (((E1.trans E2).trans E3).trans E4).trans E5
      have hs5 := ex_t E15 h2
      refine ⟨_, rfl, _, _, _, _, rfl, rfl, hs5, atI_nat (j := 2) rfl, _, rfl, _, _, rfl, rfl, y, r, lvO o + 1, rfl, h4.ex E15, by omega, hp2, fun H6 L6 E6 n6 g6 => ?_⟩
      have g5 := E6 _ _ (upd_same (H := upd (upd H2 l3 (.lst [V.str "|", .str "^", .str "&"])) l4 (.lst [V.str (mk (sgO o))])) (a := L5) (o := .lst (strsV (wrapP (lvO o) l (tokF l)) ++ [V.str (mk (sgO o))])))
      refine ⟨L5, L6, _, _, rfl, rfl, g5, g6, ?_, fun L7 n7 => q _ L7 ((E15.trans E6).trans (Ex.new n7)) (frb (E15.trans E6) n7) ?_⟩
      · refine sz_of ?_
        rw [List.length_append, strsV_len, strsV_len]; show _ + 1 + _ ≤ _; omega
      · rw [upd_same]
        show _ = some (HO.lst (strsV (wrapP (lvO o) l (tokF l) ++ sgO o :: wrapP (lvO o + 1) r (tokF r))))
        rw [strsV_app, List.append_assoc]; rfl
end
end G
namespace G
open PySem PySem.Spec PyProof.Rows L2 Evl TL
section
variable {P : Program} {w : World} {K : PySem.W.Frag} {mg : Str → Option Value} {base : Heap}
/-- the written form of a tree, to any height -/
theorem fn_tok_all {ft fc : Addr} {dt dc : FuncData} (Ft : Fun K "_law_tokens" "_law_tokens" s_law_tokens ft dt) (Fc : Fun K "_law_closed" "_law_closed" s_law_closed fc dc) (T : TxtLv mg) (C1 : Has P w K mg base 1 "_law_level" ["tree"] (spLevel (K := K)))
    (gt : mg "_law_tokens" = some (.ref ft)) (bt : Binds K dt ["tree"] []) (gc : mg "_law_closed" = some (.ref fc)) (bc : Binds K dc ["tree", "least"] []) :
    ∀ n, FnOk P w K mg base CX0 (1 + 2 * n) ft dt ["tree"] (spTokN (K := K) n)
  | 0 => ⟨fun vs H Q E h => by obtain ⟨v, t, rfl, _⟩ := h; rfl, fun _ _ _ _ _ _ _ _ _ _ _ _ _ h => by
      obtain ⟨v, t, rfl, _, h0, _⟩ := h
      have := ht_pos t
      omega⟩
  | n + 1 => by
    have ih := fn_tok_all Ft Fc T C1 gt bt gc bc n
    have hc := fn_closed (n := n) (z := 1 + 2 * n) (by omega) Fc C1 ih gt Ft.kp bt
    have ht := fn_tokens (n := n) (z := 1 + 2 * n + 1) (by omega) Ft T C1 hc gc Fc.kp bc
    have e : 1 + 2 * (n + 1) = 1 + 2 * n + 1 + 1 := by omega
    rw [e]
    exact ht
end
end G
namespace G
open PySem PySem.Spec PyProof.Rows L2 Evl TL
/-! ## the law -/
theorem sg_len : ∀ s ∈ sgns, (tl s).length ≤ 20 := by decide +kernel
theorem sg_tok (s : Str) (h : s ∈ sgns) : TokOk (tl s) ∧ (tl s).length ≤ 20 := ⟨.inr (by unfold SgnTok; exact h), sg_len s h⟩
theorem sgL_tok : ∀ k, TokOk (sgL k) ∧ (sgL k).length ≤ 20
  | 0 => sg_tok "&" (by decide +kernel)
  | 1 => sg_tok "^" (by decide +kernel)
  | _ + 2 => sg_tok "|" (by decide +kernel)
theorem name_tok {x : List Nat} (h : isName x = true) : TokOk x := by
  unfold isName at h
  rw [Bool.and_eq_true] at h
  exact .inl (word_run h.1)
theorem wr_tok {d lv : Nat} {t : Tr} {ts : List (List Nat)} (h : Wr d lv t ts) : (∀ x, Tr.name x ∈ t.post → (tl x).length ≤ 20) → ∀ T ∈ ts, TokOk T ∧ T.length ≤ 20 := by
  induction h with
  | @name d x h =>
    intro hn T hT
    rw [List.mem_singleton.mp hT]
    exact ⟨name_tok h, hn (mk x) (by simp [Tr.post])⟩
  | @const d b =>
    intro _ T hT
    rw [List.mem_singleton.mp hT]
    cases b with
    | true => exact ⟨.inl (num_run (by decide +kernel)), by decide⟩
    | false => exact ⟨.inl (num_run (by decide +kernel)), by decide⟩
  | box h ih =>
    intro hn T hT
    rcases List.mem_cons.mp hT with z | z
    · rw [z]; exact sg_tok "(" (by decide +kernel)
    rcases List.mem_append.mp z with z | z
    · exact ih hn T z
    · rw [List.mem_singleton.mp z]; exact sg_tok ")" (by decide +kernel)
  | neg h ih =>
    intro hn T hT
    rcases List.mem_cons.mp hT with z | z
    · rw [z]; exact sg_tok "!" (by decide +kernel)
    · exact ih (fun x hx => hn x (List.mem_append_left _ hx)) T z
  | up h ih => exact ih
  | @bin d k l r a b hk hl hr ihl ihr =>
    intro hn T hT
    rcases List.mem_append.mp hT with z | z
    · exact ihl (fun x hx => hn x (List.mem_append_left _ (List.mem_append_left _ hx))) T z
    rcases List.mem_cons.mp z with z | z
    · rw [z]; exact sgL_tok k
    · exact ihr (fun x hx => hn x (List.mem_append_left _ (List.mem_append_right _ hx))) T z
end G
namespace G
open PySem PySem.Spec PyProof.Rows L2 Evl TL
/-! ## brackets taken out: what is left is written too -/
theorem Wr.le {d a b : Nat} {t : Tr} {ts : List (List Nat)} (h : Wr d a t ts) (hab : a ≤ b) : Wr d b t ts := by
  have := h.ups (b - a)
  rwa [show a + (b - a) = b by omega] at this
theorem ht_bin (o : Op) (l r : Tr) : (Tr.bin o l r).ht = max l.ht r.ht + 1 := rfl
theorem ht_neg (t : Tr) : (Tr.neg t).ht = t.ht + 1 := rfl
theorem ins_base {d lv k : Nat} {s x : Tr} {X Y : List (List Nat)} (hk : k ≤ 2) (h : Wr d lv s Y) (hx : Wr d (k + 2) x X) (hl : lv ≤ k + 1) : ∃ s', Wr d (max lv (k + 2)) s' (X ++ sgL k :: Y) ∧ s'.ht ≤ x.ht + s.ht := by
  refine ⟨_, (Wr.bin hk hx (h.le hl)).le (by omega), ?_⟩
  have := ht_pos x
  have := ht_pos s
  rw [ht_bin]; omega
/-- one more operand on the left -/
theorem ins_l {d lv : Nat} {s : Tr} {Y : List (List Nat)} (h : Wr d lv s Y) : ∀ {k : Nat} {x : Tr} {X : List (List Nat)}, k ≤ 2 → Wr d (k + 2) x X → ∃ s', Wr d (max lv (k + 2)) s' (X ++ sgL k :: Y) ∧ s'.ht ≤ x.ht + s.ht := by
  induction h with
  | name h => exact fun hk hx => ins_base hk (.name h) hx (by omega)
  | const b => exact fun hk hx => ins_base hk (.const b) hx (by omega)
  | box h _ => exact fun hk hx => ins_base hk (.box h) hx (by omega)
  | neg h _ => exact fun hk hx => ins_base hk (.neg h) hx (by omega)
  | up h ih =>
    intro k x X hk hx
    obtain ⟨s', h1, h2⟩ := ih hk hx
    exact ⟨s', h1.le (by omega), h2⟩
  | @bin d j l r a b hj hl hr ihl _ =>
    intro k x X hk hx
    by_cases hkj : k ≤ j
    · obtain ⟨s', h1, h2⟩ := ihl hk hx
      rw [show max (j + 2) (k + 2) = j + 2 by omega] at h1 ⊢
      refine ⟨.bin (opL j) s' r, ?_, ?_⟩
      · have := Wr.bin hj h1 hr
        rw [List.append_assoc] at this
        exact this
      · rw [ht_bin, ht_bin]; omega
    · exact ins_base hk (.bin hj hl hr) hx (by omega)
/-- one more operand on the right -/
theorem ins_r {d lv : Nat} {s : Tr} {Y : List (List Nat)} (h : Wr d lv s Y) : ∀ {k : Nat} {r : Tr} {R : List (List Nat)}, k ≤ 2 → Wr d (k + 1) r R → ∃ s', Wr d (max lv (k + 2)) s' (Y ++ sgL k :: R) ∧ s'.ht ≤ max (s.ht + 1) (r.ht + 1 + (lv - (k + 2))) := by
  have base : ∀ {d lv : Nat} {s : Tr} {Y : List (List Nat)}, Wr d lv s Y → ∀ {k : Nat} {r : Tr} {R : List (List Nat)}, k ≤ 2 → Wr d (k + 1) r R → lv ≤ k + 2 → ∃ s', Wr d (max lv (k + 2)) s' (Y ++ sgL k :: R) ∧ s'.ht ≤ max (s.ht + 1) (r.ht + 1 + (lv - (k + 2))) := by
    intro d lv s Y h k r R hk hr hl
    refine ⟨_, (Wr.bin hk (h.le hl) hr).le (by omega), ?_⟩
    rw [ht_bin]; omega
  induction h with
  | name h => exact fun hk hx => base (.name h) hk hx (by omega)
  | const b => exact fun hk hx => base (.const b) hk hx (by omega)
  | box h _ => exact fun hk hx => base (.box h) hk hx (by omega)
  | neg h _ => exact fun hk hx => base (.neg h) hk hx (by omega)
  | up h ih =>
    intro k r R hk hr
    obtain ⟨s', h1, h2⟩ := ih hk hr
    exact ⟨s', h1.le (by omega), by omega⟩
  | @bin d j l u a b hj hl hu _ ihr =>
    intro k r R hk hr
    by_cases hjk : j ≤ k
    · exact base (.bin hj hl hu) hk hr (by omega)
    · obtain ⟨s', h1, h2⟩ := ihr hk hr
      rw [show max (j + 1) (k + 2) = j + 1 by omega] at h1
      refine ⟨.bin (opL j) l s', ?_, ?_⟩
      · have := (Wr.bin hj hl h1).le (show j + 2 ≤ max (j + 2) (k + 2) by omega)
        rw [List.append_assoc]
        exact this
      · rw [ht_bin, ht_bin]; omega
/-- one more negation ahead -/
theorem ins_n {d lv : Nat} {s : Tr} {Y : List (List Nat)} (h : Wr d lv s Y) : ∃ s', Wr d (max lv 1) s' ([33] :: Y) ∧ s'.ht ≤ s.ht + 1 := by
  induction h with
  | name h => exact ⟨_, .neg (Wr.name h).up, Nat.le_refl _⟩
  | const b => exact ⟨_, .neg (Wr.const b).up, Nat.le_refl _⟩
  | box h _ => exact ⟨_, .neg (Wr.box h).up, Nat.le_refl _⟩
  | neg h _ => exact ⟨_, .neg (.neg h), Nat.le_refl _⟩
  | up h ih =>
    obtain ⟨s', h1, h2⟩ := ih
    exact ⟨s', h1.le (by omega), h2⟩
  | @bin d j l u a b hj hl hu ihl _ =>
    obtain ⟨s', h1, h2⟩ := ihl
    rw [show max (j + 2) 1 = j + 2 by omega] at h1 ⊢
    refine ⟨_, Wr.bin hj h1 hu, ?_⟩
    rw [ht_bin, ht_bin]; omega
/-! ## the partner of a bracket -/
/-- up to the bracket that closes n + 1 open ones -/
def prt : Nat → List (List Nat) → Option (List (List Nat) × List (List Nat))
  | _, [] => none
  | n, T :: r =>
    if T = [40] then (prt (n + 1) r).map fun p => (T :: p.1, p.2)
    else if T = [41] then
      match n with
      | 0 => some ([], r)
      | m + 1 => (prt m r).map fun p => (T :: p.1, p.2)
    else (prt n r).map fun p => (T :: p.1, p.2)
theorem prt_open (n : Nat) (r : List (List Nat)) : prt n ([40] :: r) = (prt (n + 1) r).map fun p => ([40] :: p.1, p.2) := by simp [prt]
theorem prt_shut0 (r : List (List Nat)) : prt 0 ([41] :: r) = some ([], r) := by simp [prt]
theorem prt_shut (n : Nat) (r : List (List Nat)) : prt (n + 1) ([41] :: r) = (prt n r).map fun p => ([41] :: p.1, p.2) := by simp [prt]
theorem prt_more {T : List Nat} (h1 : T ≠ [40]) (h2 : T ≠ [41]) (n : Nat) (r : List (List Nat)) : prt n (T :: r) = (prt n r).map fun p => (T :: p.1, p.2) := by simp [prt, h1, h2]
theorem prt_eq : ∀ {M : List (List Nat)} {n : Nat} {B C : List (List Nat)}, prt n M = some (B, C) → M = B ++ [41] :: C
  | [], n, B, C, h => by cases h
  | T :: r, n, B, C, h => by
    unfold prt at h
    have more : ∀ {k : Nat}, ((prt k r).map fun p => (T :: p.1, p.2)) = some (B, C) → T :: r = B ++ [41] :: C := fun {k} h => by
      obtain ⟨⟨B', C'⟩, h1, h2⟩ := Option.map_eq_some_iff.mp h
      cases h2
      rw [prt_eq h1]; rfl
    split at h
    · exact more h
    · split at h
      · rename_i _ e
        cases n with
        | zero => cases h; rw [e]; rfl
        | succ m => exact more h
      · exact more h
theorem prt_app : ∀ {M : List (List Nat)} {n : Nat} {B C R : List (List Nat)}, prt n M = some (B, C) → prt n (M ++ R) = some (B, C ++ R)
  | [], n, B, C, R, h => by cases h
  | T :: r, n, B, C, R, h => by
    unfold prt at h
    rw [List.cons_append]
    unfold prt
    have more : ∀ {k : Nat}, ((prt k r).map fun p => (T :: p.1, p.2)) = some (B, C) → ((prt k (r ++ R)).map fun p => (T :: p.1, p.2)) = some (B, C ++ R) := fun {k} h => by
      obtain ⟨⟨B', C'⟩, h1, h2⟩ := Option.map_eq_some_iff.mp h
      cases h2
      rw [prt_app h1]; rfl
    split at h
    · rename_i e
      rw [if_pos e]
      exact more h
    · rename_i e
      rw [if_neg e]
      split at h
      · rename_i e2
        rw [if_pos e2]
        cases n with
        | zero => cases h; rfl
        | succ m => exact more h
      · rename_i e2
        rw [if_neg e2]
        exact more h
def Bal (X : List (List Nat)) : Prop := ∀ n R, prt n (X ++ R) = (prt n R).map fun p => (X ++ p.1, p.2)
theorem bal_nil : Bal [] := fun n R => by
  show prt n R = _
  cases prt n R <;> rfl
theorem bal_app {X Y : List (List Nat)} (hx : Bal X) (hy : Bal Y) : Bal (X ++ Y) := fun n R => by
  rw [List.append_assoc, hx, hy, Option.map_map]
  congr 1
  funext p
  simp only [Function.comp, List.append_assoc]
theorem bal_one {T : List Nat} (h1 : T ≠ [40]) (h2 : T ≠ [41]) : Bal [T] := fun n R => by
  show prt n (T :: R) = _
  rw [prt_more h1 h2]; rfl
theorem bal_box {X : List (List Nat)} (hx : Bal X) : Bal ([40] :: (X ++ [[41]])) := fun n R => by
  have e : ([40] :: (X ++ [[41]])) ++ R = [40] :: (X ++ ([41] :: R)) := by simp
  rw [e, prt_open, hx, prt_shut, Option.map_map, Option.map_map]
  congr 1
  funext p
  simp [Function.comp]
theorem wr_bal {d lv : Nat} {t : Tr} {ts : List (List Nat)} (h : Wr d lv t ts) : Bal ts := by
  induction h with
  | name h => exact bal_one (fun z => by rw [z, name_not.1] at h; cases h) (fun z => by rw [z, par_not] at h; cases h)
  | const b => cases b <;> exact bal_one (by decide) (by decide)
  | box h ih => exact bal_box ih
  | neg h ih => exact bal_app (X := [[33]]) (bal_one (by decide) (by decide)) ih
  | up h ih => exact ih
  | @bin d k l r a b hk hl hr ihl ihr =>
    obtain ⟨h1, h2, _⟩ := sgL_plain hk
    exact bal_app ihl (bal_app (X := [sgL k]) (bal_one h1 h2) ihr)
theorem prt_bal {X : List (List Nat)} (h : Bal X) (R : List (List Nat)) : prt 0 (X ++ [41] :: R) = some (X, R) := by
  rw [h, prt_shut0]
  simp
/-! ## the heights behind it -/
def TN : Tr → Nat × Nat
  | .neg u => ((if lvT u < 4 then u.ht else (TN u).1) + 1, (if lvT u < 4 then max (TN u).1 (TN u).2 else (TN u).2) + 1)
  | .bin o l r => (max (max ((if lvT l < lvO o then l.ht else (TN l).1) + 1) (r.ht + 3)) (l.ht + if lvT r < lvO o + 1 then r.ht else (TN r).1),
      max (max (if lvT l < lvO o then max (TN l).1 (TN l).2 else (TN l).2) r.ht) (max (if lvT r < lvO o + 1 then max (TN r).1 (TN r).2 else (TN r).2) l.ht) + 1)
  | _ => (0, 0)
def tb (least : Nat) (u : Tr) : Nat := if lvT u < least then u.ht else (TN u).1
def nb (least : Nat) (u : Tr) : Nat := if lvT u < least then max (TN u).1 (TN u).2 else (TN u).2
def Cut (d lv T N : Nat) (A M : List (List Nat)) : Prop :=
  ∃ B C s, prt 0 M = some (B, C) ∧ ((Wr d lv s (A ++ (B ++ C)) ∧ s.ht ≤ N) ∨ (Wr d 4 s (A ++ (B ++ C)) ∧ s.ht ≤ T))
theorem cut_wrap {u : Tr} (hn : NamesOk u) (ih : ∀ A M, tokF u = A ++ [40] :: M → Cut u.ht (5 - lvT u) (TN u).1 (TN u).2 A M) {least : Nat} (h1 : 1 ≤ least) (h5 : least ≤ 5) {A M : List (List Nat)} (h : wrapP least u (tokF u) = A ++ [40] :: M) :
    Cut (u.ht + 1) (5 - least) (tb least u) (nb least u) A M := by
  have hp := lvT_pos u
  unfold wrapP at h
  unfold tb nb
  by_cases c : lvT u < least
  · rw [if_pos c] at h
    rw [if_pos c, if_pos c]
    cases A with
    | nil =>
      rw [List.nil_append] at h
      have hM : M = tokF u ++ [41] :: [] := (List.cons.inj h).2.symm
      refine ⟨tokF u, [], u, by rw [hM]; exact prt_bal (wr_bal (tokF_wr u hn)) [], .inr ⟨?_, Nat.le_refl _⟩⟩
      rw [List.append_nil, List.nil_append]
      exact (tokF_wr4 hn).deep (by omega)
    | cons T A' =>
      obtain ⟨e1, e2⟩ := List.cons.inj h
      subst e1
      rcases List.eq_nil_or_concat M with e | ⟨M', z, e⟩
      · subst e
        have e2 : tokF u ++ [[41]] = A' ++ [[40]] := e2
        have := (List.append_inj' e2 rfl).2
        exact absurd (List.cons.inj this).1 (by decide)
      · rw [List.concat_eq_append] at e
        subst e
        have e3 : tokF u ++ [[41]] = (A' ++ [40] :: M') ++ [z] := by rw [e2]; simp
        obtain ⟨e4, e5⟩ := List.append_inj' e3 rfl
        obtain ⟨B, C, s, hp0, hs⟩ := ih A' M' e4
        refine ⟨B, C ++ [z], s, prt_app hp0, .inl ?_⟩
        have e6 : [41] = z := (List.cons.inj e5).1
        have ew : ([40] :: A') ++ (B ++ (C ++ [z])) = [40] :: ((A' ++ (B ++ C)) ++ [[41]]) := by rw [e6]; simp
        rw [ew]
        rcases hs with ⟨w, b⟩ | ⟨w, b⟩
        · exact ⟨(Wr.box (w.le (by omega))).le (Nat.zero_le _), by omega⟩
        · exact ⟨(Wr.box w).le (Nat.zero_le _), by omega⟩
  · rw [if_neg c] at h
    rw [if_neg c, if_neg c]
    obtain ⟨B, C, s, hp0, hs⟩ := ih A M h
    refine ⟨B, C, s, hp0, ?_⟩
    rcases hs with ⟨w, b⟩ | ⟨w, b⟩
    · exact .inl ⟨(w.le (by omega)).deep (by omega), b⟩
    · exact .inr ⟨w.deep (by omega), b⟩
theorem cut_all : ∀ t : Tr, NamesOk t → ∀ A M, tokF t = A ++ [40] :: M → Cut t.ht (5 - lvT t) (TN t).1 (TN t).2 A M
  | .name x, hn, A, M, h => by
    have hx := hn x (by simp [Tr.post])
    have h : [tl x] = A ++ [40] :: M := h
    have hm : [40] ∈ [tl x] := by rw [h]; simp
    rw [← List.mem_singleton.mp hm, name_not.1] at hx
    cases hx
  | .const b, hn, A, M, h => by
    have h : [if b = true then [49] else [48]] = A ++ [40] :: M := h
    have hm : [40] ∈ [if b = true then [49] else [48]] := by rw [h]; simp
    have := List.mem_singleton.mp hm
    cases b <;> exact absurd this (by decide)
  | .neg u, hn, A, M, h => by
    have hnu : NamesOk u := fun x hx => hn x (by simp [Tr.post, hx])
    have h : [33] :: wrapP 4 u (tokF u) = A ++ [40] :: M := h
    cases A with
    | nil => exact absurd (List.cons.inj h).1 (by decide)
    | cons T A' =>
      obtain ⟨e1, e2⟩ := List.cons.inj h
      subst e1
      obtain ⟨B, C, s, hp0, hs⟩ := cut_wrap hnu (cut_all u hnu) (by decide) (by decide) e2
      refine ⟨B, C, ?_⟩
      rcases hs with ⟨w, b⟩ | ⟨w, b⟩
      · exact ⟨.neg s, hp0, .inl ⟨Wr.neg w, Nat.succ_le_succ b⟩⟩
      · obtain ⟨s', w', b'⟩ := ins_n w
        exact ⟨s', hp0, .inr ⟨w', Nat.le_trans b' (Nat.succ_le_succ b)⟩⟩
  | .bin o l r, hn, A, M, h => by
    have hnl : NamesOk l := fun x hx => hn x (by simp [Tr.post, hx])
    have hnr : NamesOk r := fun x hx => hn x (by simp [Tr.post, hx])
    have h : wrapP (lvO o) l (tokF l) ++ sgO o :: wrapP (lvO o + 1) r (tokF r) = A ++ [40] :: M := h
    obtain ⟨k, hk, e1, e2, e3⟩ := opL_of o
    obtain ⟨s40, _, _⟩ := sgL_plain hk
    have lk : 5 - lvO o = k + 2 := by omega
    have lk1 : 5 - (lvO o + 1) = k + 1 := by omega
    have lt : 5 - lvT (.bin o l r) = k + 2 := lk
    have wl := (wrap_wr (tokF_wr l hnl) (least := lvO o) (by omega) (by omega)).deep (e := max l.ht r.ht + 1) (by omega)
    have wr := (wrap_wr (tokF_wr r hnr) (least := lvO o + 1) (by omega) (by omega)).deep (e := max l.ht r.ht + 1) (by omega)
    rw [lk] at wl
    rw [lk1] at wr
    rw [lt, ht_bin]
    rw [← e2] at h
    have n1 : (TN (.bin o l r)).1 = max (max (tb (lvO o) l + 1) (r.ht + 3)) (l.ht + tb (lvO o + 1) r) := rfl
    have n2 : (TN (.bin o l r)).2 = max (max (nb (lvO o) l) r.ht) (max (nb (lvO o + 1) r) l.ht) + 1 := rfl
    rw [n1, n2]
    rcases List.append_eq_append_iff.mp h with ⟨a', ha, hb⟩ | ⟨c', ha, hb⟩
    · cases a' with
      | nil => exact absurd (List.cons.inj hb).1 s40
      | cons T A2 =>
        obtain ⟨f1, f2⟩ := List.cons.inj hb
        subst f1
        subst ha
        obtain ⟨B, C, s, hp0, hs⟩ := cut_wrap hnr (cut_all r hnr) (by omega) (by omega) f2
        rw [lk1] at hs
        have ew : (wrapP (lvO o) l (tokF l) ++ sgL k :: A2) ++ (B ++ C) = wrapP (lvO o) l (tokF l) ++ sgL k :: (A2 ++ (B ++ C)) := by simp
        refine ⟨B, C, ?_⟩
        rw [ew]
        rcases hs with ⟨w, b⟩ | ⟨w, b⟩
        · refine ⟨.bin (opL k) l s, hp0, .inl ⟨.bin hk wl (w.deep (by omega)), ?_⟩⟩
          rw [ht_bin]; omega
        · obtain ⟨s', w', b'⟩ := ins_l (w.deep (e := max l.ht r.ht + 1) (by omega)) hk wl
          rw [show max 4 (k + 2) = 4 by omega] at w'
          exact ⟨s', hp0, .inr ⟨w', by omega⟩⟩
    · cases c' with
      | nil => exact absurd (List.cons.inj hb).1.symm s40
      | cons T M1 =>
        obtain ⟨f1, f2⟩ := List.cons.inj hb
        subst f1
        obtain ⟨B, C, s, hp0, hs⟩ := cut_wrap hnl (cut_all l hnl) (by omega) (by omega) ha
        rw [lk] at hs
        have ew : A ++ (B ++ (C ++ sgL k :: wrapP (lvO o + 1) r (tokF r))) = (A ++ (B ++ C)) ++ sgL k :: wrapP (lvO o + 1) r (tokF r) := by simp
        refine ⟨B, C ++ sgL k :: wrapP (lvO o + 1) r (tokF r), ?_⟩
        rw [ew]
        have hp1 : prt 0 M = some (B, C ++ sgL k :: wrapP (lvO o + 1) r (tokF r)) := by rw [f2]; exact prt_app hp0
        rcases hs with ⟨w, b⟩ | ⟨w, b⟩
        · refine ⟨.bin (opL k) s r, hp1, .inl ⟨.bin hk (w.deep (by omega)) wr, ?_⟩⟩
          rw [ht_bin]; omega
        · obtain ⟨s', w', b'⟩ := ins_r (w.deep (e := max l.ht r.ht + 1) (by omega)) hk wr
          rw [show max 4 (k + 2) = 4 by omega] at w'
          exact ⟨s', hp1, .inr ⟨w', by omega⟩⟩
/-! ## no form is shorter than the one with few brackets -/
theorem wrap_len {a b : Nat} (h : a ≤ b) (t : Tr) (ts : List (List Nat)) : (wrapP a t ts).length ≤ (wrapP b t ts).length := by
  unfold wrapP
  split
  · rw [if_pos (by omega)]
    exact Nat.le_refl _
  · split <;> simp <;> omega
theorem wrap_two (a : Nat) (t : Tr) (ts : List (List Nat)) : (wrapP a t ts).length ≤ ts.length + 2 := by
  unfold wrapP
  split <;> simp
theorem wr_min {d lv : Nat} {t : Tr} {ts : List (List Nat)} (h : Wr d lv t ts) : lv ≤ 4 → (wrapP (5 - lv) t (tokF t)).length ≤ ts.length := by
  induction h with
  | name h => exact fun _ => Nat.le_refl 1
  | const b => exact fun _ => Nat.le_refl 1
  | @box d t ts h ih =>
    intro _
    have := ih (by omega)
    have h2 := wrap_two 5 t (tokF t)
    have h3 : (tokF t).length ≤ (wrapP (5 - 4) t (tokF t)).length := by unfold wrapP; split <;> simp <;> omega
    rw [List.length_cons, List.length_append, List.length_singleton]
    show (wrapP 5 t (tokF t)).length ≤ _
    omega
  | @neg d t ts h ih =>
    intro _
    have := ih (by omega)
    show (wrapP 4 (.neg t) ([33] :: wrapP 4 t (tokF t))).length ≤ _
    unfold wrapP at this ⊢
    rw [if_neg (show ¬ lvT (.neg t) < 4 by show ¬ (4 : Nat) < 4; omega)]
    exact Nat.succ_le_succ this
  | @up d lv t ts h ih =>
    intro hl
    exact Nat.le_trans (wrap_len (by omega) _ _) (ih (by omega))
  | @bin d k l r a b hk hl hr ihl ihr =>
    intro _
    have h1 := ihl (by omega)
    have h2 := ihr (by omega)
    have hlv : lvO (opL k) = 3 - k := by
      match k, hk with
      | 0, _ => rfl
      | 1, _ => rfl
      | 2, _ => rfl
    have e : wrapP (5 - (k + 2)) (.bin (opL k) l r) (tokF (.bin (opL k) l r)) = wrapP (3 - k) l (tokF l) ++ sgO (opL k) :: wrapP (3 - k + 1) r (tokF r) := by
      unfold wrapP
      rw [if_neg (show ¬ lvT (.bin (opL k) l r) < 5 - (k + 2) by show ¬ lvO (opL k) < _; omega)]
      show (wrapP (lvO (opL k)) l (tokF l) ++ sgO (opL k) :: wrapP (lvO (opL k) + 1) r (tokF r)) = _
      rw [hlv]; rfl
    rw [e, List.length_append, List.length_append, List.length_cons, List.length_cons]
    rw [show 5 - (k + 2) = 3 - k by omega] at h1
    rw [show 5 - (k + 1) = 3 - k + 1 by omega] at h2
    omega
theorem wr_ne_tree {d : Nat} {s t : Tr} {A B C M : List (List Nat)} (h : Wr d 4 s (A ++ (B ++ C))) (ht : tokF t = A ++ [40] :: M) (hM : M = B ++ [41] :: C) : s ≠ t := by
  intro e
  have h1 := wr_min h (by omega)
  have h3 : (tokF s).length ≤ (wrapP (5 - 4) s (tokF s)).length := by unfold wrapP; split <;> simp <;> omega
  rw [e] at h3 h1
  rw [ht, hM] at h3
  simp only [List.length_append, List.length_cons] at h1 h3
  rw [ht, hM] at h1
  omega
end G
namespace G
open PySem PySem.Spec PyProof.Rows L2 Evl TL
/-! ## the text of tokens -/
def isBin (T : List Nat) : Bool := decide (T = [124]) || decide (T = [94]) || decide (T = [38])
def pc (T : List Nat) : List Nat := if isBin T = true then 32 :: (T ++ [32]) else T
def flat (ts : List (List Nat)) : List Nat := (ts.map pc).flatten
theorem flat_cons (T : List Nat) (r : List (List Nat)) : flat (T :: r) = pc T ++ flat r := by unfold flat; rw [List.map_cons, List.flatten_cons]
theorem flat_app (a b : List (List Nat)) : flat (a ++ b) = flat a ++ flat b := by unfold flat; rw [List.map_append, List.flatten_append]
theorem flat_nil : flat [] = [] := rfl
theorem pc_len (T : List Nat) : (pc T).length ≤ T.length + 2 := by
  unfold pc
  split
  · rw [List.length_cons, List.length_append, List.length_singleton]; omega
  · omega
theorem flat_len : ∀ ts : List (List Nat), (∀ T ∈ ts, T.length ≤ 20) → (flat ts).length ≤ 22 * ts.length
  | [], _ => Nat.zero_le _
  | T :: r, h => by
    rw [flat_cons, List.length_append, List.length_cons]
    have h1 := pc_len T
    have h2 := h T (List.mem_cons_self ..)
    have h3 := flat_len r fun U hU => h U (List.mem_cons_of_mem _ hU)
    omega
def adj : List (List Nat) → Prop
  | T :: U :: r => ¬ (headRun T = true ∧ headRun U = true) ∧ adj (U :: r)
  | _ => True
theorem adj_mid {s : List Nat} (hs : headRun s = false) : ∀ {a b : List (List Nat)}, adj a → adj b → adj (a ++ s :: b)
  | [], [], _, _ => trivial
  | [], u :: b, _, hb => ⟨fun z => by rw [hs] at z; exact Bool.false_ne_true z.1, hb⟩
  | [x], b, _, hb => ⟨fun z => by rw [hs] at z; exact Bool.false_ne_true z.2, adj_mid hs (a := []) trivial hb⟩
  | x :: y :: r, b, ha, hb => ⟨ha.1, adj_mid hs (a := y :: r) ha.2 hb⟩
theorem adj_left : ∀ {a b : List (List Nat)}, adj (a ++ b) → adj a
  | [], _, _ => trivial
  | [x], _, _ => trivial
  | x :: y :: r, b, h => ⟨h.1, adj_left (a := y :: r) h.2⟩
theorem adj_tail : ∀ {x : List Nat} {r : List (List Nat)}, adj (x :: r) → adj r
  | _, [], _ => trivial
  | _, _ :: _, h => h.2
theorem adj_right : ∀ {a b : List (List Nat)}, adj (a ++ b) → adj b
  | [], _, h => h
  | x :: r, b, h => adj_right (a := r) (adj_tail h)
theorem sgn_noRun : headRun [40] = false ∧ headRun [41] = false ∧ headRun [33] = false ∧ ∀ k, k ≤ 2 → headRun (sgL k) = false := by
  refine ⟨by decide +kernel, by decide +kernel, by decide +kernel, fun k hk => ?_⟩
  match k, hk with
  | 0, _ => decide +kernel
  | 1, _ => decide +kernel
  | 2, _ => decide +kernel
theorem wr_adj {d lv : Nat} {t : Tr} {ts : List (List Nat)} (h : Wr d lv t ts) : adj ts := by
  induction h with
  | name h => trivial
  | const b => trivial
  | @box d t ts h ih => exact adj_mid sgn_noRun.1 (a := []) trivial (adj_mid sgn_noRun.2.1 ih (b := []) trivial)
  | neg h ih => exact adj_mid sgn_noRun.2.2.1 (a := []) trivial ih
  | up h ih => exact ih
  | bin hk hl hr ihl ihr => exact adj_mid (sgn_noRun.2.2.2 _ hk) ihl ihr
theorem bin_tok {T : List Nat} (h : isBin T = true) : SgnTok T := by
  unfold isBin at h
  have hc : (T = [124] ∨ T = [94]) ∨ T = [38] := by simpa using h
  rcases hc with (h | h) | h <;> rw [h] <;> (unfold SgnTok; decide +kernel)
theorem headRun_of {T : List Nat} (h : RunTok T) : headRun T = true := by
  obtain ⟨c, r, rfl⟩ := List.exists_cons_of_ne_nil h.1
  exact h.2.1 c (List.mem_cons_self ..)
theorem norun_pc {U : List Nat} (hU : TokOk U) (h : headRun U = false) (S : List Nat) : NoRun (pc U ++ S) := by
  unfold pc
  split
  · exact norun_cons run_not.1
  · obtain ⟨c, r, rfl⟩ := List.exists_cons_of_ne_nil (tok_ne hU)
    exact norun_cons h
theorem flat_lx : ∀ {ts : List (List Nat)}, adj ts → (∀ T ∈ ts, TokOk T) → ∀ {S : List Nat} {us : List (List Nat)}, NoRun S → Lx S us → Lx (flat ts ++ S) (ts ++ us)
  | [], _, _, S, us, _, h => h
  | T :: r, ha, ht, S, us, hS, h => by
    have ih := flat_lx (adj_tail ha) (fun U hU => ht U (List.mem_cons_of_mem _ hU)) hS h
    rw [flat_cons, List.append_assoc]
    by_cases hb : isBin T = true
    · have e : pc T ++ (flat r ++ S) = 32 :: (T ++ (32 :: (flat r ++ S))) := by unfold pc; rw [if_pos hb]; simp
      rw [e]
      exact .sp (.inl rfl) (.sgn (bin_tok hb) (.sp (.inl rfl) ih))
    · have e : pc T = T := by unfold pc; rw [if_neg hb]
      rw [e]
      rcases ht T (List.mem_cons_self ..) with hr | hs
      · refine .run hr ?_ ih
        cases r with
        | nil => exact hS
        | cons U r' =>
          have hU : headRun U = false := by
            cases hh : headRun U with
            | false => rfl
            | true => exact absurd ⟨headRun_of hr, hh⟩ ha.1
          rw [flat_cons, List.append_assoc]
          exact norun_pc (ht U (by simp)) hU _
      · exact .sgn hs ih
/-! ## brackets among the signs -/
theorem sgn_br : ∀ s ∈ sgns, (40 ∈ tl s → tl s = [40]) ∧ (41 ∈ tl s → tl s = [41]) := by decide +kernel
theorem run_br : isRun 40 = false ∧ isRun 41 = false := by decide +kernel
theorem tok_br {T : List Nat} (h : TokOk T) : (40 ∈ pc T → T = [40]) ∧ (41 ∈ pc T → T = [41]) := by
  have hm : ∀ c, c ≠ 32 → c ∈ pc T → c ∈ T := fun c hc h => by
    unfold pc at h
    split at h
    · rcases List.mem_cons.mp h with z | z
      · exact absurd z hc
      · rcases List.mem_append.mp z with z | z
        · exact z
        · exact absurd (List.mem_singleton.mp z) hc
    · exact h
  rcases h with h | h
  · refine ⟨fun z => ?_, fun z => ?_⟩
    · have := h.2.1 _ (hm 40 (by decide) z)
      rw [run_br.1] at this; cases this
    · have := h.2.1 _ (hm 41 (by decide) z)
      rw [run_br.2] at this; cases this
  · have := sgn_br (mk T) h
    exact ⟨fun z => this.1 (hm 40 (by decide) z), fun z => this.2 (hm 41 (by decide) z)⟩
theorem pc_open : pc [40] = [40] ∧ pc [41] = [41] := by decide
theorem at40 : ∀ {ts : List (List Nat)}, (∀ T ∈ ts, TokOk T) → ∀ {i : Nat}, (flat ts)[i]? = some 40 → ∃ A M, ts = A ++ [40] :: M ∧ i = (flat A).length
  | [], _, i, h => by rw [flat_nil] at h; cases h
  | T :: r, ht, i, h => by
    rw [flat_cons] at h
    by_cases hi : i < (pc T).length
    · rw [List.getElem?_append_left hi] at h
      have e := (tok_br (ht T (List.mem_cons_self ..))).1 (List.mem_of_getElem? h)
      subst e
      rw [pc_open.1, List.length_singleton] at hi
      exact ⟨[], r, rfl, by rw [flat_nil, List.length_nil]; omega⟩
    · rw [List.getElem?_append_right (by omega)] at h
      obtain ⟨A, M, e1, e2⟩ := at40 (fun U hU => ht U (List.mem_cons_of_mem _ hU)) h
      refine ⟨T :: A, M, by rw [e1]; rfl, ?_⟩
      rw [flat_cons, List.length_append]
      omega
/-- where the bracket closes, by the signs -/
def cp : Nat → List Nat → Option Nat
  | _, [] => none
  | n, c :: r =>
    if c = 40 then (cp (n + 1) r).map (· + 1)
    else if c = 41 then
      match n with
      | 0 => some 0
      | m + 1 => (cp m r).map (· + 1)
    else (cp n r).map (· + 1)
theorem cp_open (n : Nat) (r : List Nat) : cp n (40 :: r) = (cp (n + 1) r).map (· + 1) := by simp [cp]
theorem cp_shut0 (r : List Nat) : cp 0 (41 :: r) = some 0 := by simp [cp]
theorem cp_shut (n : Nat) (r : List Nat) : cp (n + 1) (41 :: r) = (cp n r).map (· + 1) := by simp [cp]
theorem cp_more {c : Nat} (h1 : c ≠ 40) (h2 : c ≠ 41) (n : Nat) (r : List Nat) : cp n (c :: r) = (cp n r).map (· + 1) := by simp [cp, h1, h2]
theorem cp_skip : ∀ {X : List Nat}, 40 ∉ X → 41 ∉ X → ∀ {n : Nat} {R : List Nat} {e : Nat}, cp n R = some e → cp n (X ++ R) = some (X.length + e)
  | [], _, _, n, R, e, h => by rw [List.nil_append, h]; simp
  | c :: X, h1, h2, n, R, e, h => by
    have ih := cp_skip (fun z => h1 (List.mem_cons_of_mem _ z)) (fun z => h2 (List.mem_cons_of_mem _ z)) h
    rw [List.cons_append, cp_more (fun z => h1 (by rw [z]; exact List.mem_cons_self ..)) (fun z => h2 (by rw [z]; exact List.mem_cons_self ..)), ih, List.length_cons]
    show some (_ + 1) = _
    congr 1
    omega
theorem cp_flat : ∀ {M : List (List Nat)}, (∀ T ∈ M, TokOk T) → ∀ {n : Nat} {B C : List (List Nat)}, prt n M = some (B, C) → cp n (flat M) = some (flat B).length
  | [], _, n, B, C, h => by cases h
  | T :: r, ht, n, B, C, h => by
    have htr : ∀ U ∈ r, TokOk U := fun U hU => ht U (List.mem_cons_of_mem _ hU)
    rw [flat_cons]
    by_cases h1 : T = [40]
    · subst h1
      rw [prt_open] at h
      obtain ⟨⟨B', C'⟩, g1, g2⟩ := Option.map_eq_some_iff.mp h
      cases g2
      rw [pc_open.1]
      show cp n (40 :: flat r) = _
      rw [cp_open, cp_flat htr g1, flat_cons, pc_open.1, List.length_append]
      show some ((flat B').length + 1) = some (1 + (flat B').length)
      rw [Nat.add_comm]
    · by_cases h2 : T = [41]
      · subst h2
        rw [pc_open.2]
        cases n with
        | zero =>
          rw [prt_shut0] at h
          cases h
          exact cp_shut0 _
        | succ m =>
          rw [prt_shut] at h
          obtain ⟨⟨B', C'⟩, g1, g2⟩ := Option.map_eq_some_iff.mp h
          cases g2
          show cp (m + 1) (41 :: flat r) = _
          rw [cp_shut, cp_flat htr g1, flat_cons, pc_open.2, List.length_append]
          show some ((flat B').length + 1) = some (1 + (flat B').length)
          rw [Nat.add_comm]
      · rw [prt_more h1 h2] at h
        obtain ⟨⟨B', C'⟩, g1, g2⟩ := Option.map_eq_some_iff.mp h
        cases g2
        have hb := tok_br (ht T (List.mem_cons_self ..))
        rw [cp_skip (fun z => h1 (hb.1 z)) (fun z => h2 (hb.2 z)) (cp_flat htr g1), flat_cons, List.length_append]
/-- the text with both brackets taken out -/
theorem cut_lx {t : List (List Nat)} {A B C M : List (List Nat)} (ha : adj t) (ht : ∀ T ∈ t, TokOk T) (e : t = A ++ [40] :: M) (eM : M = B ++ [41] :: C) : Lx (flat A ++ 32 :: (flat B ++ 32 :: flat C)) (A ++ (B ++ C)) := by
  rw [eM] at e
  have hA : adj A := adj_left (by rw [e] at ha; exact ha)
  have h1 : adj (B ++ [41] :: C) := adj_tail (adj_right (by rw [e] at ha; exact ha))
  have hB : adj B := adj_left h1
  have hC : adj C := adj_tail (adj_right h1)
  have tA : ∀ T ∈ A, TokOk T := fun T hT => ht T (by rw [e]; simp [hT])
  have tB : ∀ T ∈ B, TokOk T := fun T hT => ht T (by rw [e]; simp [hT])
  have tC : ∀ T ∈ C, TokOk T := fun T hT => ht T (by rw [e]; simp [hT])
  have c0 : Lx (flat C) C := by
    have := flat_lx hC tC (S := []) (us := []) (by intro c r e; cases e) .nil
    rwa [List.append_nil, List.append_nil] at this
  exact flat_lx hA tA (norun_cons run_not.1) (.sp (.inl rfl) (flat_lx hB tB (norun_cons run_not.1) (.sp (.inl rfl) c0)))
theorem whole_lx {t : List (List Nat)} (ha : adj t) (ht : ∀ T ∈ t, TokOk T) : Lx (flat t) t := by
  have := flat_lx ha ht (S := []) (us := []) (by intro c r e; cases e) .nil
  rwa [List.append_nil, List.append_nil] at this
/-! ## how high it gets -/
def f3 (n : Nat) : Nat := max (n + 2) (2 * n - 2)
def f2 (n : Nat) : Nat := max (n + 2) (n - 1 + f3 (n - 1))
def f1 (n : Nat) : Nat := max (n + 2) (n - 1 + f2 (n - 1))
theorem lvO_le (o : Op) : 1 ≤ lvO o ∧ lvO o ≤ 3 := by cases o <;> decide
theorem tn_neg (u : Tr) : (TN (.neg u)).1 = tb 4 u + 1 ∧ (TN (.neg u)).2 = nb 4 u + 1 := ⟨rfl, rfl⟩
theorem tn_bin (o : Op) (l r : Tr) : (TN (.bin o l r)).1 = max (max (tb (lvO o) l + 1) (r.ht + 3)) (l.ht + tb (lvO o + 1) r) ∧ (TN (.bin o l r)).2 = max (max (nb (lvO o) l) r.ht) (max (nb (lvO o + 1) r) l.ht) + 1 := ⟨rfl, rfl⟩
theorem tb_eq (a : Nat) (u : Tr) : (lvT u < a ∧ tb a u = u.ht ∧ nb a u = max (TN u).1 (TN u).2) ∨ (¬ lvT u < a ∧ tb a u = (TN u).1 ∧ nb a u = (TN u).2) := by
  unfold tb nb
  by_cases h : lvT u < a
  · exact .inl ⟨h, if_pos h, if_pos h⟩
  · exact .inr ⟨h, if_neg h, if_neg h⟩
structure TnB (t : Tr) : Prop where
  b4 : 4 ≤ lvT t → (TN t).1 ≤ t.ht
  b3 : 3 ≤ lvT t → (TN t).1 ≤ f3 t.ht
  b2 : 2 ≤ lvT t → (TN t).1 ≤ f2 t.ht
  b1 : (TN t).1 ≤ f1 t.ht
  n1 : (TN t).2 ≤ f1 t.ht
theorem f3_mono {a b : Nat} (h : a ≤ b) : f3 a ≤ f3 b := by unfold f3; omega
theorem f2_mono {a b : Nat} (h : a ≤ b) : f2 a ≤ f2 b := by
  have := f3_mono (show a - 1 ≤ b - 1 by omega)
  unfold f2; omega
theorem f1_mono {a b : Nat} (h : a ≤ b) : f1 a ≤ f1 b := by
  have := f2_mono (show a - 1 ≤ b - 1 by omega)
  unfold f1; omega
theorem f3_step {m : Nat} (h : 1 ≤ m) : f3 m + 1 ≤ f3 (m + 1) := by unfold f3; omega
theorem f2_step (m : Nat) : f2 m + 1 ≤ f2 (m + 1) := by
  have := f3_mono (show m - 1 ≤ m by omega)
  have h0 : f3 0 = 2 := by decide
  have e : f2 (m + 1) = max (m + 3) (m + f3 m) := rfl
  rw [e]
  unfold f2
  generalize hx : f3 (m - 1) = x at *
  generalize f3 m = y at *
  simp only [Nat.max_def]
  by_cases hm : m = 0
  · subst hm
    rw [show f3 (0 - 1) = 2 from h0] at hx
    split <;> split <;> omega
  · split <;> split <;> omega
theorem f1_step (m : Nat) : f1 m + 1 ≤ f1 (m + 1) := by
  have := f2_mono (show m - 1 ≤ m by omega)
  have h0 : f2 0 = 2 := by decide
  have e : f1 (m + 1) = max (m + 3) (m + f2 m) := rfl
  rw [e]
  unfold f1
  generalize hx : f2 (m - 1) = x at *
  generalize f2 m = y at *
  simp only [Nat.max_def]
  by_cases hm : m = 0
  · subst hm
    rw [show f2 (0 - 1) = 2 from h0] at hx
    split <;> split <;> omega
  · split <;> split <;> omega
theorem f3_f2 {m : Nat} (h : 1 ≤ m) : f3 m ≤ f2 m := by unfold f2 f3; omega
theorem f2_f1 (m : Nat) : f2 m ≤ f1 m := by
  by_cases h : m ≤ 1
  · match m, h with
    | 0, _ => decide
    | 1, _ => decide
  · have := f3_f2 (show 1 ≤ m - 1 by omega)
    unfold f1
    rw [f2]
    omega
theorem side {u : Tr} (h : TnB u) {m : Nat} (hu : u.ht ≤ m) (c : Nat) (hc : 1 ≤ c) : tb c u ≤ f1 m ∧ nb c u ≤ f1 m ∧ (2 ≤ c → tb c u ≤ f2 m) ∧ (3 ≤ c → tb c u ≤ f3 m) := by
  have m1 := f1_mono hu
  have m2 := f2_mono hu
  have m3 := f3_mono hu
  have q1 := h.b1
  have q2 := h.b2
  have q3 := h.b3
  have qn := h.n1
  have k3 : u.ht ≤ f3 u.ht := by unfold f3; omega
  have k2 : u.ht ≤ f2 u.ht := by unfold f2; omega
  have k1 : u.ht ≤ f1 u.ht := by unfold f1; omega
  rcases tb_eq c u with ⟨g, g1, g2⟩ | ⟨g, g1, g2⟩
  · exact ⟨by omega, by omega, fun _ => by omega, fun _ => by omega⟩
  · exact ⟨by omega, by omega, fun z => by have := q2 (by omega); omega, fun z => by have := q3 (by omega); omega⟩
theorem tn_all : ∀ t : Tr, TnB t
  | .name x => ⟨fun _ => Nat.zero_le _, fun _ => Nat.zero_le _, fun _ => Nat.zero_le _, Nat.zero_le _, Nat.zero_le _⟩
  | .const b => ⟨fun _ => Nat.zero_le _, fun _ => Nat.zero_le _, fun _ => Nat.zero_le _, Nat.zero_le _, Nat.zero_le _⟩
  | .neg u => by
    have ih := tn_all u
    have hp := ht_pos u
    obtain ⟨e1, e2⟩ := tn_neg u
    have h1 : (TN (.neg u)).1 ≤ (Tr.neg u).ht := by
      rw [e1, ht_neg]
      rcases tb_eq 4 u with ⟨c, g1, _⟩ | ⟨c, g1, _⟩
      · omega
      · have := ih.b4 (by omega)
        omega
    have h2 : (TN (.neg u)).2 ≤ f1 (Tr.neg u).ht := by
      have i1 := ih.b1
      have i2 := ih.n1
      rw [e2, ht_neg]
      have : nb 4 u ≤ f1 u.ht := by rcases tb_eq 4 u with ⟨c, _, g2⟩ | ⟨c, _, g2⟩ <;> omega
      have hm : f1 u.ht + 1 ≤ f1 (u.ht + 1) := by unfold f1 f2 f3; omega
      omega
    refine ⟨fun _ => h1, fun _ => ?_, fun _ => ?_, ?_, h2⟩ <;> (refine Nat.le_trans h1 ?_; first | (unfold f3; omega) | (unfold f2; omega) | (unfold f1; omega))
  | .bin o l r => by
    have il := tn_all l
    have ir := tn_all r
    have pl := ht_pos l
    have pr := ht_pos r
    have ho := lvO_le o
    obtain ⟨e1, e2⟩ := tn_bin o l r
    have hlv : lvT (.bin o l r) = lvO o := rfl
    have hh := ht_bin o l r
    have hl : l.ht ≤ max l.ht r.ht := Nat.le_max_left _ _
    have hr : r.ht ≤ max l.ht r.ht := Nat.le_max_right _ _
    have hm1 : 1 ≤ max l.ht r.ht := Nat.le_trans pl hl
    generalize max l.ht r.ht = m at *
    have l1 : ∀ c, 1 ≤ c → tb c l ≤ f1 m ∧ nb c l ≤ f1 m ∧ (2 ≤ c → tb c l ≤ f2 m) ∧ (3 ≤ c → tb c l ≤ f3 m) := fun c hc => side il hl c hc
    have r1 : ∀ c, 1 ≤ c → tb c r ≤ f1 m ∧ nb c r ≤ f1 m ∧ (2 ≤ c → tb c r ≤ f2 m) ∧ (3 ≤ c → tb c r ≤ f3 m) := fun c hc => side ir hr c hc
    have r4 : 4 ≤ lvO o + 1 → tb (lvO o + 1) r ≤ m := fun h => by
      rcases tb_eq (lvO o + 1) r with ⟨c, g1, _⟩ | ⟨c, g1, _⟩
      · omega
      · have := ir.b4 (by omega)
        omega
    obtain ⟨a1, a2, a3, a4⟩ := l1 (lvO o) (by omega)
    obtain ⟨b1, b2, b3, b4⟩ := r1 (lvO o + 1) (by omega)
    have s1 := f1_step m
    have s2 := f2_step m
    have s3 := f3_step hm1
    have t1 := f2_f1 m
    have t2 := f3_f2 hm1
    have v1 : m + 1 + 2 ≤ f1 (m + 1) ∧ m + f2 m ≤ f1 (m + 1) := ⟨Nat.le_max_left (m + 1 + 2) (m + f2 m), Nat.le_max_right (m + 1 + 2) (m + f2 m)⟩
    have v2 : m + 1 + 2 ≤ f2 (m + 1) ∧ m + f3 m ≤ f2 (m + 1) := ⟨Nat.le_max_left (m + 1 + 2) (m + f3 m), Nat.le_max_right (m + 1 + 2) (m + f3 m)⟩
    have v3 : m + 1 + 2 ≤ f3 (m + 1) ∧ m + m ≤ f3 (m + 1) := ⟨by unfold f3; omega, by unfold f3; omega⟩
    have c3 : 3 ≤ lvO o → (TN (.bin o l r)).1 ≤ f3 (m + 1) := fun h => by
      have := a4 h
      have := r4 (by omega)
      omega
    have c2 : 2 ≤ lvO o → (TN (.bin o l r)).1 ≤ f2 (m + 1) := fun h => by
      have := a3 h
      have := b4 (by omega)
      omega
    have c1 : (TN (.bin o l r)).1 ≤ f1 (m + 1) := by
      have := b3 (by omega)
      omega
    refine ⟨fun h => ?_, fun h => ?_, fun h => ?_, ?_, ?_⟩
    · rw [hlv] at h; omega
    · rw [hlv] at h; rw [hh]; exact c3 h
    · rw [hlv] at h; rw [hh]; exact c2 h
    · rw [hh]; exact c1
    · rw [hh, e2]; omega
/-- a tree of at most seven levels -/
theorem tn_seven {t : Tr} (h : t.ht ≤ 7) : (TN t).1 ≤ 20 ∧ (TN t).2 ≤ 20 := by
  have ih := tn_all t
  have e : f1 t.ht ≤ f1 7 := f1_mono h
  have e7 : f1 7 = 19 := by decide
  exact ⟨by have := ih.b1; omega, by have := ih.n1; omega⟩
/-- m steps, each with a tree of at most two levels on one side -/
inductive Chn : Nat → Tr → Prop where
  | base {t : Tr} (h : t.ht ≤ 2) : Chn 0 t
  | left {m : Nat} {c o : Tr} (p : Op) (h : Chn m c) (ho : o.ht ≤ 2) : Chn (m + 1) (.bin p c o)
  | right {m : Nat} {c o : Tr} (p : Op) (h : Chn m c) (ho : o.ht ≤ 2) : Chn (m + 1) (.bin p o c)
theorem tn_two {t : Tr} (h : t.ht ≤ 2) : (TN t).1 ≤ 4 ∧ (TN t).2 ≤ 4 := by
  have ih := tn_all t
  have e : f1 t.ht ≤ f1 2 := f1_mono h
  have e7 : f1 2 = 4 := by decide
  exact ⟨by have := ih.b1; omega, by have := ih.n1; omega⟩
theorem chn_all {m : Nat} {t : Tr} (h : Chn m t) : t.ht ≤ m + 2 ∧ (TN t).1 ≤ m + 4 + (4 - lvT t) ∧ (TN t).2 ≤ m + 7 := by
  induction h with
  | base h => have := tn_two h; exact ⟨h, by omega, by omega⟩
  | @left m c o p h ho ih =>
    obtain ⟨i1, i2, i3⟩ := ih
    have hp := lvO_le p
    have ho2 := tn_two ho
    obtain ⟨e1, e2⟩ := tn_bin p c o
    have hlv : lvT (.bin p c o) = lvO p := rfl
    have pc := lvT_pos c
    rw [ht_bin, hlv, e1, e2]
    refine ⟨by omega, ?_, ?_⟩
    · rcases tb_eq (lvO p) c with ⟨c1, g1, g2⟩ | ⟨c1, g1, g2⟩ <;> rcases tb_eq (lvO p + 1) o with ⟨d1, q1, q2⟩ | ⟨d1, q1, q2⟩ <;> omega
    · rcases tb_eq (lvO p) c with ⟨c1, g1, g2⟩ | ⟨c1, g1, g2⟩ <;> rcases tb_eq (lvO p + 1) o with ⟨d1, q1, q2⟩ | ⟨d1, q1, q2⟩ <;> omega
  | @right m c o p h ho ih =>
    obtain ⟨i1, i2, i3⟩ := ih
    have hp := lvO_le p
    have ho2 := tn_two ho
    obtain ⟨e1, e2⟩ := tn_bin p o c
    have hlv : lvT (.bin p o c) = lvO p := rfl
    have pc := lvT_pos c
    rw [ht_bin, hlv, e1, e2]
    refine ⟨by omega, ?_, ?_⟩
    · rcases tb_eq (lvO p) o with ⟨c1, g1, g2⟩ | ⟨c1, g1, g2⟩ <;> rcases tb_eq (lvO p + 1) c with ⟨d1, q1, q2⟩ | ⟨d1, q1, q2⟩ <;> omega
    · rcases tb_eq (lvO p) o with ⟨c1, g1, g2⟩ | ⟨c1, g1, g2⟩ <;> rcases tb_eq (lvO p + 1) c with ⟨d1, q1, q2⟩ | ⟨d1, q1, q2⟩ <;> omega
theorem chn_twenty {m : Nat} {t : Tr} (h : Chn m t) (hm : m ≤ 12) : t.ht ≤ 14 ∧ (TN t).1 ≤ 20 ∧ (TN t).2 ≤ 20 := by
  obtain ⟨i1, i2, i3⟩ := chn_all h
  have := lvT_pos t
  omega
end G
namespace G
open PySem PySem.Spec PyProof.Rows L2 Evl TL
/-! ## expressions shown -/
structure LevT (K : PySem.W.Frag) (w : World) (mg : Str → Option Value) : Prop where
  ex : ∃ a : Addr, mg "LEVELS" = some (.ref a) ∧ ∀ t : Tr, KDct K w a t.tag (.int (lvT t : Nat))
structure SgnT (K : PySem.W.Frag) (w : World) (mg : Str → Option Value) : Prop where
  ex : ∃ a : Addr, mg "SIGNS_printer" = some (.ref a) ∧ ∀ o : Op, KDct K w a o.s (.str (mk (pc (sgO o))))
def shF (t : Tr) : List Nat := flat (tokF t)
def shs (S : List Tr) : List Str := S.map fun u => mk (shF u)
theorem pc_atom {T : List Nat} (h : isBin T = false) : pc T = T := by unfold pc; rw [h]; rfl
theorem name_pc {T : List Nat} (h : isName T = true) : pc T = T := pc_atom (by
  unfold isBin
  have hn : isName [124] = false ∧ isName [94] = false ∧ isName [38] = false := by decide +kernel
  have a1 : T ≠ [124] := fun z => by rw [z, hn.1] at h; cases h
  have a2 : T ≠ [94] := fun z => by rw [z, hn.2.1] at h; cases h
  have a3 : T ≠ [38] := fun z => by rw [z, hn.2.2] at h; cases h
  rw [decide_eq_false a1, decide_eq_false a2, decide_eq_false a3]; rfl)
theorem flat_one (T : List Nat) : flat [T] = pc T := by rw [flat_cons, flat_nil, List.append_nil]
def opF (least : Nat) (t : Tr) (x : List Nat) : List Nat := if lvT t < least then 40 :: (x ++ [41]) else x
theorem flat_wrap (least : Nat) (t : Tr) : flat (wrapP least t (tokF t)) = opF least t (shF t) := by
  unfold wrapP opF shF
  split
  · rw [flat_cons, flat_app, pc_open.1, flat_one, pc_open.2]; rfl
  · rfl
theorem shF_neg (u : Tr) : shF (.neg u) = 33 :: opF 4 u (shF u) := by
  show flat ([33] :: wrapP 4 u (tokF u)) = _
  rw [flat_cons, flat_wrap]; rfl
theorem shF_bin (o : Op) (l r : Tr) : shF (.bin o l r) = opF (lvO o) l (shF l) ++ pc (sgO o) ++ opF (lvO o + 1) r (shF r) := by
  show flat (wrapP (lvO o) l (tokF l) ++ sgO o :: wrapP (lvO o + 1) r (tokF r)) = _
  rw [flat_app, flat_cons, flat_wrap, flat_wrap, List.append_assoc]
theorem opF_len (least : Nat) (t : Tr) (x : List Nat) : x.length ≤ (opF least t x).length ∧ (opF least t x).length ≤ x.length + 2 := by
  unfold opF
  split
  · rw [List.length_cons, List.length_append, List.length_singleton]; omega
  · omega
theorem shF_part {t u : Tr} (h : u ∈ t.parts) : (shF u).length ≤ (shF t).length := by
  cases t with
  | name x => cases h
  | const b => cases h
  | neg v =>
    have : u = v := List.mem_singleton.mp h
    rw [this, shF_neg, List.length_cons]
    have := (opF_len 4 v (shF v)).1
    omega
  | bin o l r =>
    rw [shF_bin, List.length_append, List.length_append]
    have h1 := (opF_len (lvO o) l (shF l)).1
    have h2 := (opF_len (lvO o + 1) r (shF r)).1
    have hm : u ∈ [l, r] := h
    rcases List.mem_cons.mp hm with z | z
    · rw [z]; omega
    · rw [List.mem_singleton.mp z]; omega
theorem shF_post : ∀ (t : Tr) {u : Tr}, u ∈ t.post → (shF u).length ≤ (shF t).length
  | .name x, u, h => by rw [List.mem_singleton.mp (show u ∈ [Tr.name x] from h)]; exact Nat.le_refl _
  | .const b, u, h => by rw [List.mem_singleton.mp (show u ∈ [Tr.const b] from h)]; exact Nat.le_refl _
  | .neg v, u, h => by
    rcases List.mem_append.mp (show u ∈ v.post ++ [Tr.neg v] from h) with z | z
    · exact Nat.le_trans (shF_post v z) (shF_part (t := .neg v) (List.mem_singleton.mpr rfl))
    · rw [List.mem_singleton.mp z]; exact Nat.le_refl _
  | .bin o l r, u, h => by
    rcases List.mem_append.mp (show u ∈ l.post ++ r.post ++ [Tr.bin o l r] from h) with z | z
    · rcases List.mem_append.mp z with z | z
      · exact Nat.le_trans (shF_post l z) (shF_part (t := .bin o l r) (List.mem_cons_self ..))
      · exact Nat.le_trans (shF_post r z) (shF_part (t := .bin o l r) (List.mem_cons_of_mem _ (List.mem_singleton.mpr rfl)))
    · rw [List.mem_singleton.mp z]; exact Nat.le_refl _
section
variable {P : Program} {w : World} {K : PySem.W.Frag} {mg : Str → Option Value} {base : Heap}
def spOper : Sp := fun vs H Q _ => ∃ (v : V) (t : Tr) (H0 : Hp) (x : List Nat) (least : Nat), vs = [v, .str (mk x), .int (least : Nat)] ∧ Ex H0 H ∧ TreeAt K H0 v t ∧ x.length ≤ 50000 ∧ Q (.str (mk (opF least t x))) H
theorem sc_operand : FnScope ["tree", "text", "least"] ["tree", "text", "least"] (defScope s_operand) := ⟨rfl, rfl, rfl, by decide +kernel, rfl, by decide +kernel, by decide +kernel⟩
theorem ok_operand (D : Dfd K mg "_operand" s_operand ["tree", "text", "least"]) (LT : LevT K w mg) : Has P w K mg base 1 "_operand" ["tree", "text", "least"] (spOper (K := K)) := by
  obtain ⟨aL, g_LEVELS, hLV⟩ := LT.ex
  refine D.has fun f fd F => F.ok sc_operand (fun vs H Q E h => ?_) (fun cdv A outer s H vs Q E hr h => ?_)
  · obtain ⟨v, t, H0, x, least, rfl, _⟩ := h
    rfl
  · obtain ⟨v, t, H0, x, least, rfl, E0, ht, hx, q⟩ := h
    refine ⟨_, (pss_one (ps_ret (pe_ifExp (pt_cmpR op_lt (pe_ix ix_kdict (gRef rfl g_LEVELS) (pe_ix ix_tup (pv 0) pe_int (fun _ _ => rfl)) (fun _ _ => rfl)) (pv 2) (nomark _)) (pe_op op_add_str (pe_op op_add_str pe_str (pv 1)) pe_str) (pv 1)))), ?_⟩
    obtain ⟨b, zs, rfl, hs', hzs⟩ := ht.seq
    have hs := ex_t E0 hs'
    have e2 : mk [40] ++ mk x ++ mk [41] = mk (40 :: (x ++ [41])) := by rw [mk_app, mk_app]; rfl
    refine ⟨_, rfl, _, _, _, _, rfl, rfl, hs, atI_nat (j := 0) rfl, _, _, _, rfl, rfl, hLV t, _, rfl, _, _, rfl, rfl, _, rfl, ite2 (fun c => ?_) (fun c => ?_)⟩
    · have hc : lvT t < least := by have := of_decide_eq_true c; omega
      refine ⟨_, rfl, _, _, rfl, rfl, ?_, _, _, rfl, rfl, ?_, ?_⟩
      · rw [mk_len]; exact sz_of (by show 1 + x.length ≤ _; omega)
      · show (mk [40] ++ mk x).length + 1 ≤ _
        rw [mk_app, mk_len, List.length_append]; exact sz_of (by show 1 + x.length + 1 ≤ _; omega)
      · have : opF least t x = 40 :: (x ++ [41]) := if_pos hc
        rw [this, ← e2] at q
        exact q
    · have hc : ¬ lvT t < least := fun z => c (decide_eq_true (by omega))
      have : opF least t x = x := if_neg hc
      rw [this] at q
      exact ⟨_, rfl, q⟩
theorem shs_at {S : List Tr} {i : Nat} {u : Tr} (h : S[i]? = some u) : ((shs S).map V.str)[i]? = some (.str (mk (shF u))) := by
  unfold shs
  rw [List.map_map, List.getElem?_map, h]; rfl
def spWithO : Sp := fun vs H Q _ => ∃ (v : V) (t : Tr) (H0 : Hp) (L : Addr), vs = [v, .ref L] ∧ Ex H0 H ∧ TreeAt K H0 v t ∧ NamesOk t ∧ H L = some (.lst ((shs t.parts).map V.str)) ∧ (shF t).length ≤ 40000 ∧ Q (.str (mk (shF t))) H
theorem sc_with_operands : FnScope ["part", "texts", "kind", "level"] ["part", "texts"] (defScope s_with_operands) := ⟨rfl, rfl, rfl, by decide +kernel, rfl, by decide +kernel, by decide +kernel⟩
theorem ok_with_operands (D : Dfd K mg "_with_operands" s_with_operands ["part", "texts"]) (LT : LevT K w mg) (GT : SgnT K w mg) (C1 : Has P w K mg base 1 "_operand" ["tree", "text", "least"] (spOper (K := K))) : Has P w K mg base 2 "_with_operands" ["part", "texts"] (spWithO (K := K)) := by
  obtain ⟨f_operand, d_operand, G_operand, g_operand, k_operand, b_operand⟩ := C1
  obtain ⟨aL, g_LEVELS, hLV⟩ := LT.ex
  obtain ⟨aG, g_SIGNS_printer, hSG⟩ := GT.ex
  refine D.has fun f fd F => F.ok sc_with_operands (fun vs H Q E h => ?_) (fun cdv A outer s H vs Q E hr h => ?_)
  · obtain ⟨v, t, H0, L, rfl, _⟩ := h
    rfl
  · obtain ⟨v, t, H0, L, rfl, E0, ht, hno, hL, hl, q⟩ := h
    refine ⟨_, (pss_cons (ps_set (i := 2) sc_with_operands.nd rfl (.inl rfl) (pe_ix ix_tup (pv 0) pe_int (fun _ _ => rfl)))
    (pss_cons (ps_if (pt_cmpR op_eq (pv 2) pe_str (nomark _))
      (pss_one (ps_ret (pe_ix ix_tup (pv 0) pe_int (fun _ _ => rfl))))
      pss_nil)
    (pss_cons (ps_if (pt_cmpR op_eq (pv 2) pe_str (nomark _))
      (pss_one (ps_ret (pe_ifExp (pt_truth (pe_ix ix_tup (pv 0) pe_int (fun _ _ => rfl)) (by intro _; rfl)) pe_str pe_str)))
      pss_nil)
    (pss_cons (ps_set (i := 3) sc_with_operands.nd rfl (.inl rfl) (pe_ix ix_kdict (gRef rfl g_LEVELS) (pv 2) (fun _ _ => rfl)))
    (pss_cons (ps_if (pt_cmpR op_eq (pv 2) pe_str (nomark _))
      (pss_one (ps_ret (pe_op op_add_str pe_str (pe_call G_operand (hr.mono (by omega)) (by rfl) g_operand k_operand b_operand .nil pass0 (pa_cons (pe_ix ix_tup (pv 0) pe_int (fun _ _ => rfl)) (pa_cons (pe_ix ix_list (pv 1) pe_int (fun _ _ => rfl)) (pa_cons (pv 3) pa_nil)))))))
      pss_nil)
    (pss_one (ps_ret (pe_op op_add_str (pe_op op_add_str (pe_call G_operand (hr.mono (by omega)) (by rfl) g_operand k_operand b_operand .nil pass0 (pa_cons (pe_ix ix_tup (pv 0) pe_int (fun _ _ => rfl)) (pa_cons (pe_ix ix_list (pv 1) pe_int (fun _ _ => rfl)) (pa_cons (pv 3) pa_nil)))) (pe_ix ix_kdict (gRef rfl g_SIGNS_printer) (pv 2) (fun _ _ => rfl))) (pe_call G_operand (hr.mono (by omega)) (by rfl) g_operand k_operand b_operand .nil pass0 (pa_cons (pe_ix ix_tup (pv 0) pe_int (fun _ _ => rfl)) (pa_cons (pe_ix ix_list (pv 1) pe_int (fun _ _ => rfl)) (pa_cons (pe_op op_add (pv 3) pe_int) pa_nil)))))))))))), ?_⟩
    have ht0 := ht
    obtain ⟨b, zs, rfl, hs', hzs⟩ := ht.seq
    have hs := ex_t E0 hs'
    refine ⟨_, rfl, _, _, _, _, rfl, rfl, hs, atI_nat (j := 0) rfl, _, rfl, rfl, _, rfl, ?_⟩
    cases t with
    | name x =>
      obtain rfl : zs = [.str x] := hzs
      have hx := hno x (by simp [Tr.post])
      have e : mk (shF (.name x)) = x := by
        show mk (flat [tl x]) = x
        rw [flat_one, name_pc hx, mk_tlS]
      rw [e] at q
      exact iteY (decide_eq_true rfl) ⟨_, rfl, _, _, _, _, rfl, rfl, hs, atI_nat (j := 1) rfl, q⟩
    | const c =>
      obtain rfl : zs = [.bl c] := hzs
      refine iteN (decide_eq_false fun z => tagNe.1 (V.str.inj z)) ?_
      refine ⟨_, rfl, rfl, _, rfl, iteY (decide_eq_true rfl) ?_⟩
      refine ⟨_, rfl, _, _, _, _, rfl, rfl, hs, atI_nat (j := 1) rfl, c, rfl, ?_⟩
      cases c with
      | true => exact iteT q
      | false => exact iteF q
    | neg u =>
      obtain ⟨a, x, e1, h2, h3⟩ := ht0
      cases e1
      have hs2 := ex_t E0 h2
      refine iteN (decide_eq_false fun z => tagNe.2.1 (V.str.inj z)) ?_
      refine ⟨_, rfl, rfl, _, rfl, iteN (decide_eq_false fun z => tagNe.2.2 (V.str.inj z)) ?_⟩
      refine ⟨_, rfl, _, _, _, rfl, rfl, hLV (.neg u), _, rfl, rfl, _, rfl, iteY (decide_eq_true rfl) ?_⟩
      rw [shF_neg] at hl q
      rw [List.length_cons] at hl
      have ho := opF_len 4 u (shF u)
      refine ⟨_, rfl, _, _, _, _, rfl, rfl, hs2, atI_nat (j := 1) rfl, _, rfl, _, _, _, _, rfl, rfl, SqL.of hL, atI_nat (j := 0) (shs_at (S := [u]) rfl), _, rfl, x, u, H0, shF u, 4, rfl, E0, h3, by omega, ?_⟩
      refine ⟨_, _, rfl, rfl, ?_, ?_⟩
      · show 1 + _ ≤ sizeLine
        rw [mk_len]; exact sz_of (by omega)
      · show Q (.str (mk [33] ++ mk (opF 4 u (shF u)))) H
        rw [mk_app]; exact q
    | bin o l r =>
      obtain ⟨a, x, y, e1, h2, h3, h4⟩ := ht0
      cases e1
      have hs2 := ex_t E0 h2
      have tn : decide (V.str (Tr.bin o l r).tag = V.str "not") = false := decide_eq_false fun z => o.ne.2.2 (V.str.inj z)
      refine iteN (decide_eq_false fun z => o.ne.1 (V.str.inj z)) ?_
      refine ⟨_, rfl, rfl, _, rfl, iteN (decide_eq_false fun z => o.ne.2.1 (V.str.inj z)) ?_⟩
      refine ⟨_, rfl, _, _, _, rfl, rfl, hLV (.bin o l r), _, rfl, rfl, _, rfl, iteN tn ?_⟩
      rw [shF_bin] at hl q
      rw [List.length_append, List.length_append] at hl
      have ho := opF_len (lvO o) l (shF l)
      have ho2 := opF_len (lvO o + 1) r (shF r)
      refine ⟨_, rfl, _, _, _, _, rfl, rfl, hs2, atI_nat (j := 1) rfl, _, rfl, _, _, _, _, rfl, rfl, SqL.of hL, atI_nat (j := 0) (shs_at (S := [l, r]) rfl), _, rfl, x, l, H0, shF l, lvO o, rfl, E0, h3, by omega, ?_⟩
      refine ⟨_, rfl, _, _, _, rfl, rfl, hSG o, _, _, rfl, rfl, ?_, ?_⟩
      · rw [mk_len, mk_len]; exact sz_of (by omega)
      refine ⟨_, rfl, _, _, _, _, rfl, rfl, hs2, atI_nat (j := 2) rfl, _, rfl, _, _, _, _, rfl, rfl, SqL.of hL, atI_nat (j := 1) (shs_at (S := [l, r]) rfl), _, rfl, _, _, rfl, rfl, y, r, H0, shF r, lvO o + 1, rfl, E0, h4, by omega, ?_⟩
      refine ⟨_, _, rfl, rfl, ?_, ?_⟩
      · rw [mk_app, mk_len, mk_len, List.length_append]; exact sz_of (by omega)
      · rw [mk_app, mk_app]; exact q
def spShow : Sp := fun vs H Q _ => ∃ (v : V) (t : Tr), vs = [v] ∧ TreeAt K H v t ∧ NamesOk t ∧ t.post.length ≤ 10000 ∧ (shF t).length ≤ 40000 ∧ ∀ H', Ex H H' → Q (.str (mk (shF t))) H'
theorem shs_app (S T : List Tr) : shs (S ++ T) = shs S ++ shs T := List.map_append
theorem shs_len (S : List Tr) : ((shs S).map V.str).length = S.length := by unfold shs; rw [List.length_map, List.length_map]
theorem post_sub : ∀ (t : Tr) {u : Tr}, u ∈ t.post → ∀ {x : Tr}, x ∈ u.post → x ∈ t.post
  | .name _, u, h, x, hx => by rw [List.mem_singleton.mp (show u ∈ [Tr.name _] from h)] at hx; exact hx
  | .const _, u, h, x, hx => by rw [List.mem_singleton.mp (show u ∈ [Tr.const _] from h)] at hx; exact hx
  | .neg v, u, h, x, hx => by
    rcases List.mem_append.mp (show u ∈ v.post ++ [Tr.neg v] from h) with z | z
    · exact List.mem_append_left _ (post_sub v z hx)
    · rw [List.mem_singleton.mp z] at hx; exact hx
  | .bin o l r, u, h, x, hx => by
    rcases List.mem_append.mp (show u ∈ l.post ++ r.post ++ [Tr.bin o l r] from h) with z | z
    · rcases List.mem_append.mp z with z | z
      · exact List.mem_append_left _ (List.mem_append_left _ (post_sub l z hx))
      · exact List.mem_append_left _ (List.mem_append_right _ (post_sub r z hx))
    · rw [List.mem_singleton.mp z] at hx; exact hx
theorem sc_show_expression : FnScope ["tree", "shown", "part", "first", "text"] ["tree"] (defScope s_show_expression) := ⟨rfl, rfl, rfl, by decide +kernel, rfl, by decide +kernel, by decide +kernel⟩
theorem ok_show_expression (D : Dfd K mg "show_expression" s_show_expression ["tree"]) (T : TxtPz mg) (C1 : Has P w K mg base 1 "operands" ["tree"] (spOps (K := K))) (C2 : Has P w K mg base 2 "postorder" ["tree"] (spPost (K := K))) (C3 : Has P w K mg base 2 "_with_operands" ["part", "texts"] (spWithO (K := K))) : Has P w K mg base 3 "show_expression" ["tree"] (spShow (K := K)) := by
  obtain ⟨f_operands, d_operands, G_operands, g_operands, k_operands, b_operands⟩ := C1
  obtain ⟨f_postorder, d_postorder, G_postorder, g_postorder, k_postorder, b_postorder⟩ := C2
  obtain ⟨f_with_operands, d_with_operands, G_with_operands, g_with_operands, k_with_operands, b_with_operands⟩ := C3
  refine D.has fun f fd F => F.ok sc_show_expression (fun vs H Q E h => ?_) (fun cdv A outer s H vs Q E hr h => ?_)
  · obtain ⟨v, t, rfl, _⟩ := h
    rfl
  · obtain ⟨v, t, rfl, ht, hno, htl, hsl, q⟩ := h
    refine ⟨_, (pss_cons (ps_set (i := 1) sc_show_expression.nd rfl (.inl rfl) (pe_lst pa_nil))
    (pss_cons (ps_for PassesOwn.never rfl (pi_list (pe_call G_postorder (hr.mono (by omega)) (by rfl) g_postorder k_postorder b_postorder .nil pass0 (pa_cons (pv 0) pa_nil))) (pg_name (i := 2) sc_show_expression.nd rfl (.inl rfl))
      (pss_cons (ps_set (i := 3) sc_show_expression.nd rfl (.inl rfl) (pe_op op_sub (pe_callB call_len_seq (by rfl) T.len (by decide +kernel) (pa_cons (pv 1) pa_nil)) (pe_callB call_len_seq (by rfl) T.len (by decide +kernel) (pa_cons (pe_call G_operands (hr.mono (by omega)) (by rfl) g_operands k_operands b_operands .nil pass0 (pa_cons (pv 2) pa_nil)) pa_nil))))
      (pss_cons (ps_set (i := 4) sc_show_expression.nd rfl (.inl rfl) (pe_call G_with_operands (hr.mono (by omega)) (by rfl) g_with_operands k_with_operands b_with_operands .nil pass0 (pa_cons (pv 2) (pa_cons (pe_slice sl_list (pv 1) (po_some (pv 3)) po_none) pa_nil))))
      (pss_cons (ps_delSl (pv 1) (po_some (pv 3)))
      (pss_one (ps_expr (pe_bm PySem.F.plainAttrs_list PySem.F.slot_list_append PySem.F.type_list_append mt_append (pv 1) (pa_cons (pv 4) pa_nil))))))))
    (pss_one (ps_ret (pe_ix ix_list (pv 1) pe_int (fun _ _ => rfl)))))), ?_⟩
    refine ⟨(by show 0 ≤ sizeLine; decide), fun M nM => ⟨_, rfl, v, t, H, rfl, Ex.new nM, ht, htl, fun L zs H2 E2 nL hL aZ => ⟨_, rfl, ⟨_, SqL.of hL⟩, ?_⟩⟩⟩
    have E3 : Ex H H2 := (Ex.new nM).trans E2
    have hM2 : H2 M = some (.lst []) := E2 _ _ upd_same
    have hML : M ≠ L := fun z => by rw [← z, upd_same] at nL; cases nL
    refine for_list (K := K) (a := L) (xs := zs)
      (fun j σ H' => Ex H H' ∧ ∃ (S : List Tr) (y2 y3 y4 : Option V), Good t S (t.post.drop j) ∧ H' L = some (.lst zs) ∧ H' M = some (.lst ((shs S).map V.str)) ∧ S.length ≤ j ∧ σ = [some v, some (.ref M), y2, y3, y4])
      ⟨E3, [], _, _, _, good_all t, hL, hM2, Nat.le_refl _, rfl⟩ (fun j σ H' _ g => let ⟨_, _, _, _, _, _, h, _⟩ := g; SqL.of h) ?_ ?_
    · rintro j z σ H3 hz ⟨E4, S, y2, y3, y4, hG, hL3, hM3, hSl, rfl⟩
      have hj : j < t.post.length := by rw [← aZ.1]; exact (List.getElem?_eq_some_iff.mp hz).1
      obtain ⟨τ, hτ⟩ : ∃ τ, t.post[j]? = some τ := ⟨_, List.getElem?_eq_getElem hj⟩
      have hτm := List.mem_of_getElem? hτ
      have hdr : t.post.drop j = τ :: t.post.drop (j + 1) := by
        rw [List.drop_eq_getElem_cons hj]
        rw [List.getElem?_eq_getElem hj] at hτ
        rw [Option.some.inj hτ]
      rw [hdr] at hG
      obtain ⟨S', rfl, hG'⟩ := hG
      have hTz := aZ.2 j z τ hz hτ
      have hpl : (S' ++ τ.parts).length = S'.length + τ.parts.length := List.length_append
      refine ⟨_, rfl, M, _, rfl, .inl (SqL.of hM3), _, rfl, z, τ, H, rfl, E4, hTz, fun p zs' H4 E5 hs hA => ⟨p, _, rfl, .inr hs, _, _, rfl, rfl, ?_⟩⟩
      have hzl : zs'.length = τ.parts.length := hA.1
      have hM4 := E5 _ _ hM3
      have hL4 := E5 _ _ hL3
      have hsub : (((shs (S' ++ τ.parts)).map V.str).length : Int) - (zs'.length : Int) = ((S'.length : Nat) : Int) := by rw [shs_len, hpl, hzl]; omega
      have ecut : cutV ((shs (S' ++ τ.parts)).map V.str) (some ((((shs (S' ++ τ.parts)).map V.str).length : Int) - (zs'.length : Int))) none = (shs τ.parts).map V.str := by
        rw [hsub, cutV_tail (by rw [shs_len, hpl]; omega), shs_app, List.map_append]
        exact List.drop_left' (by rw [shs_len])
      refine ⟨_, rfl, _, rfl, _, rfl, _, rfl, M, _, rfl, SqL.of hM4, fun Sl nSl => ?_⟩
      rw [ecut]
      have hM5 : (upd H4 Sl (.lst ((shs τ.parts).map V.str))) M = some (.lst ((shs (S' ++ τ.parts)).map V.str)) := Ex.new nSl _ _ hM4
      have hL5 : (upd H4 Sl (.lst ((shs τ.parts).map V.str))) L = some (.lst zs) := Ex.new nSl _ _ hL4
      have E6 : Ex H (upd H4 Sl (.lst ((shs τ.parts).map V.str))) := (E4.trans E5).trans (Ex.new nSl)
      have hSl5 : (upd H4 Sl (.lst ((shs τ.parts).map V.str))) Sl = some (.lst ((shs τ.parts).map V.str)) := upd_same
      generalize upd H4 Sl (.lst ((shs τ.parts).map V.str)) = H5 at *
      have etk : ((shs (S' ++ τ.parts)).map V.str).take S'.length = (shs S').map V.str := by
        rw [shs_app, List.map_append]
        exact List.take_left' (shs_len S')
      have hτl := shF_post t hτm
      refine ⟨z, τ, H, Sl, rfl, E6, hTz, fun x hx => hno x (post_sub t hτm hx), hSl5, by omega, ?_⟩
      refine ⟨_, rfl, _, rfl, _, rfl, M, _, S'.length, rfl, congrArg some hsub, hM5, by rw [shs_len, hpl]; omega, ?_⟩
      rw [etk]
      have hM6 : (upd H5 M (.lst ((shs S').map V.str))) M = some (.lst ((shs S').map V.str)) := upd_same
      refine ⟨_, rfl, .inl ⟨rfl, _, SqL.of hM6⟩, _, rfl, M, _, _, rfl, rfl, hM6, ?_, ?_⟩
      · rw [hpl] at hSl
        exact sz_lt (by rw [shs_len]; omega)
      · refine ⟨?_, S' ++ [τ], _, _, _, hG', ?_, ?_, ?_, rfl⟩
        · exact (E6.mut nM).mut nM
        · rw [upd_ne (fun z => hML z.symm), upd_ne (fun z => hML z.symm)]; exact hL5
        · rw [upd_same, shs_app, List.map_append]; rfl
        · rw [List.length_append]; rw [hpl] at hSl; show _ + 1 ≤ _; omega
    · rintro σ H3 ⟨E4, S, y2, y3, y4, hG, hL3, hM3, hSl, rfl⟩
      rw [aZ.1, List.drop_length] at hG
      obtain rfl : S = [t] := hG
      refine ⟨_, rfl, _, _, _, _, rfl, rfl, SqL.of hM3, atI_nat (j := 0) (shs_at (S := [t]) rfl), q H3 E4⟩
end
end G
namespace G
open PySem PySem.Spec PyProof.Rows L2 Evl TL
/-! ## the law's helpers -/
theorem isBin_in (T : List Nat) : decide (mk T ∈ (["|", "^", "&"] : List Str)) = isBin T := by
  have e1 : (mk T = "|") ↔ T = [124] := ⟨fun h => congrArg tl h, fun h => by rw [h]; rfl⟩
  have e2 : (mk T = "^") ↔ T = [94] := ⟨fun h => congrArg tl h, fun h => by rw [h]; rfl⟩
  have e3 : (mk T = "&") ↔ T = [38] := ⟨fun h => congrArg tl h, fun h => by rw [h]; rfl⟩
  unfold isBin
  rw [Bool.eq_iff_iff, decide_eq_true_iff]
  simp only [List.mem_cons, List.not_mem_nil, or_false, Bool.or_eq_true, decide_eq_true_iff, e1, e2, e3, or_assoc]
section
variable {P : Program} {w : World} {K : PySem.W.Frag} {mg : Str → Option Value} {base : Heap}
def spPrinted : Sp := fun vs H Q _ => ∃ (L : Addr) (ts : List (List Nat)), vs = [.ref L] ∧ H L = some (.lst (strsV ts)) ∧ (∀ T ∈ ts, T.length ≤ 20) ∧ ts.length ≤ 1000 ∧ ∀ H', Ex H H' → Q (.str (mk (flat ts))) H'
theorem strs_at {us : List (List Nat)} {i : Nat} (h : i < us.length) : (strsV us)[i]? = some (.str (mk us[i])) := by unfold strsV; rw [List.getElem?_map, List.getElem?_eq_getElem h]; rfl
theorem sc_law_printed : FnScope ["tokens", "text", "token"] ["tokens"] (defScope s_law_printed) := ⟨rfl, rfl, rfl, by decide +kernel, rfl, by decide +kernel, by decide +kernel⟩
theorem ok_law_printed (D : Dfd K mg "_law_printed" s_law_printed ["tokens"]) : Has P w K mg base 1 "_law_printed" ["tokens"] spPrinted := by
  refine D.has fun f fd F => F.ok sc_law_printed (fun vs H Q E h => ?_) (fun cdv A outer s H vs Q E hr h => ?_)
  · obtain ⟨L, ts, rfl, _⟩ := h
    rfl
  · obtain ⟨L, ts, rfl, hL, hT, hn, q⟩ := h
    refine ⟨_, (pss_cons (ps_set (i := 1) sc_law_printed.nd rfl (.inl rfl) pe_str)
    (pss_cons (ps_for PassesOwn.never rfl (pi_list (pv 0)) (pg_name (i := 2) sc_law_printed.nd rfl (.inl rfl))
      (pss_one (ps_if (pt_cmpR op_in_seq (pv 2) (pe_lst (pa_cons pe_str (pa_cons pe_str (pa_cons pe_str pa_nil)))) (by rfl))
        (pss_one (ps_set (i := 1) sc_law_printed.nd rfl (.inl rfl) (pe_op op_add_str (pe_op op_add_str (pe_op op_add_str (pv 1) pe_str) (pv 2)) pe_str)))
        (pss_one (ps_set (i := 1) sc_law_printed.nd rfl (.inl rfl) (pe_op op_add_str (pv 1) (pv 2)))))))
    (pss_one (ps_ret (pv 1))))), ?_⟩
    refine ⟨_, rfl, L, rfl, ⟨_, SqL.of hL⟩, for_list (K := K) (a := L) (xs := strsV ts)
      (fun j σ H' => Ex H H' ∧ H' L = some (.lst (strsV ts)) ∧ ∃ z : Option V, σ = [some (.ref L), some (.str (mk (flat (ts.take j)))), z])
      ⟨Ex.refl H, hL, _, rfl⟩ (fun j σ H' _ g => SqL.of g.2.1) ?_ ?_⟩
    · rintro j x σ H1 hx ⟨E1, hL1, z, rfl⟩
      have hj : j < ts.length := by have := (List.getElem?_eq_some_iff.mp hx).1; rw [strsV_len] at this; exact this
      rw [strs_at hj] at hx
      cases hx
      have hTj := hT ts[j] (List.getElem_mem hj)
      have et : ts.take (j + 1) = ts.take j ++ [ts[j]] := by rw [List.take_add_one, List.getElem?_eq_getElem hj]; rfl
      have hfl := flat_len (ts.take j) fun T h => hT T (List.mem_of_mem_take h)
      rw [List.length_take] at hfl
      have hfl' : (flat (ts.take j)).length ≤ 22000 := by omega
      refine ⟨_, rfl, (by show 3 ≤ sizeLine; decide), fun l nl => ⟨l, (["|", "^", "&"] : List Str).map V.str, rfl, .inl (SqL.of upd_same), rfl, flat_map (fun _ => rfl) _, _, rfl, ?_⟩⟩
      show if (if false = true then !inV (.str (mk ts[j])) ((["|", "^", "&"] : List Str).map V.str) else inV (.str (mk ts[j])) ((["|", "^", "&"] : List Str).map V.str)) = true then _ else _
      rw [if_neg Bool.false_ne_true, inV_strs, isBin_in]
      have E2 := E1.trans (Ex.new (o := .lst ((["|", "^", "&"] : List Str).map V.str)) nl)
      have hL2 := Ex.new (o := .lst ((["|", "^", "&"] : List Str).map V.str)) nl _ _ hL1
      cases hb : isBin ts[j] with
      | true =>
        refine iteT ⟨_, rfl, _, _, rfl, rfl, ?_, _, rfl, _, _, rfl, rfl, ?_, _, _, rfl, rfl, ?_, E2, hL2, some (.str (mk ts[j])), ?_⟩
        · rw [mk_len]; exact sz_of (by show _ + 1 ≤ _; omega)
        · show (mk (flat (ts.take j)) ++ mk [32]).length + _ ≤ _
          rw [mk_app, mk_len, mk_len, List.length_append]; exact sz_of (by show _ + 1 + _ ≤ _; omega)
        · show ((mk (flat (ts.take j)) ++ mk [32]) ++ mk ts[j]).length + 1 ≤ _
          rw [mk_app, mk_app, mk_len, List.length_append, List.length_append]; exact sz_of (by show _ + 1 + _ + 1 ≤ _; omega)
        · have e : ((mk (flat (ts.take j)) ++ mk [32]) ++ mk ts[j]) ++ mk [32] = mk (flat (ts.take (j + 1))) := by
            rw [mk_app, mk_app, mk_app, et, flat_app, flat_one]
            unfold pc
            rw [hb]; simp
          rw [← e]; rfl
      | false =>
        refine iteF ⟨_, rfl, _, rfl, _, _, rfl, rfl, ?_, E2, hL2, some (.str (mk ts[j])), ?_⟩
        · rw [mk_len, mk_len]; exact sz_of (by omega)
        · have e : mk (flat (ts.take j)) ++ mk ts[j] = mk (flat (ts.take (j + 1))) := by
            rw [mk_app, et, flat_app, flat_one, pc_atom hb]
          rw [← e]; rfl
    · rintro σ H1 ⟨E1, hL1, z, rfl⟩
      rw [strsV_len, List.take_length]
      exact ⟨_, rfl, q H1 E1⟩
end
end G
namespace G
open PySem PySem.Spec PyProof.Rows L2 Evl TL
/-! ## decks shown as texts -/
theorem join_tl (s : Str) (ps : List Str) : tl (Txt.join s ps) = joinL (tl s) (ps.map tl) := by rw [join_eq, tl_join]
theorem joinL_le (S : List Nat) : ∀ ps : List (List Nat), (joinL S ps).length ≤ (ps.map (·.length)).sum + ps.length * S.length
  | [] => Nat.zero_le _
  | [p] => by show p.length ≤ _; simp
  | p :: q :: r => by
    show (p ++ (S ++ joinL S (q :: r))).length ≤ _
    have := joinL_le S (q :: r)
    rw [List.length_append, List.length_append, List.map_cons, List.sum_cons, List.length_cons, Nat.succ_mul]
    omega
theorem sum_le {α : Type} {g : α → Nat} {m : Nat} : ∀ l : List α, (∀ x ∈ l, g x ≤ m) → (l.map g).sum ≤ l.length * m
  | [], _ => Nat.zero_le _
  | x :: l, h => by
    have := sum_le l fun y hy => h y (List.mem_cons_of_mem _ hy)
    have h2 := h x (List.mem_cons_self ..)
    rw [List.map_cons, List.sum_cons, List.length_cons, Nat.succ_mul]
    omega
/-- the names in brackets -/
def lstX (l : List (List Nat)) : List Nat := 40 :: (joinL [44, 32] l ++ [41])
def rngX (p : Nat × Nat) : List Nat := numL p.1 ++ ([46, 46] ++ numL p.2)
theorem str_nat5 (n : Nat) : Str.ofString (toString ((n : Nat) : Int)) = mk (numL n) := ext_tl (tl_num n)
theorem log_ok5 {n : Nat} (h : n < 1000000000) : ((n : Nat) : Int).natAbs.log2 < 1920 := by
  have : (n : Int).natAbs < 2 ^ 30 := by rw [Int.natAbs_natCast]; omega
  have := PySem.Flt.log2_lt_of (by decide : 0 < 30) this
  omega
section
variable {P : Program} {w : World} {K : PySem.W.Frag} {mg : Str → Option Value} {base : Heap}
def spLstX : Sp := fun vs H Q _ => ∃ (v : V) (k : Nat) (l : List (List Nat)), vs = [v] ∧ Rep H v (nsD l) ∧ k ≤ 100 ∧ L20 k l ∧ Q (.str (mk (lstX l))) H
def spRngX : Sp := fun vs H Q _ => ∃ (v : V) (r : Nat × Nat), vs = [v] ∧ Rep H v (pD r) ∧ RgOk r ∧ Q (.str (mk (rngX r))) H
theorem strs_reps {H : Hp} : ∀ {l : List (List Nat)} {xs : List V}, Reps H xs (l.map sD) → xs = strsV l
  | [], xs, h => h.un0
  | T :: l, xs, h => by
    obtain ⟨x, ys, rfl, h1, h2⟩ := Reps.un (d := sD T) (ds := l.map sD) h
    rw [strs_reps h2, rep_str (s := mk T) h1]; rfl
theorem join_names {k : Nat} {l : List (List Nat)} (hk : k ≤ 100) (h : L20 k l) : ((l.map mk).map (·.length)).sum + (l.map mk).length * (", " : Str).length ≤ 16777216 ∧ (Txt.join (", " : Str) (l.map mk)).length ≤ 2200 ∧ ("(" : Str) ++ Txt.join (", " : Str) (l.map mk) ++ (")" : Str) = mk (lstX l) := by
  have es : (l.map mk).map (·.length) = l.map (·.length) := by
    rw [List.map_map]
    exact List.map_congr_left fun T _ => mk_len T
  have hs := sum_le (g := fun x : List Nat => x.length) (m := 20) l fun x hx => (h.2 x hx).2
  have hl := h.1
  have e1 : (", " : Str).length = 2 := rfl
  have et : tl (Txt.join (", " : Str) (l.map mk)) = joinL [44, 32] l := by
    rw [join_tl, List.map_map]
    have e : (tl ∘ mk : List Nat → List Nat) = id := rfl
    rw [e, List.map_id]; rfl
  refine ⟨by rw [es, List.length_map, e1]; omega, ?_, ext_tl ?_⟩
  · rw [len_tl, et]
    have := joinL_le [44, 32] l
    have e2 : ([44, 32] : List Nat).length = 2 := rfl
    rw [e2] at this
    omega
  · rw [tl_append, tl_append, et]; rfl
theorem sc_names_printer : FnScope ["names"] ["names"] (defScope s_names_printer) := ⟨rfl, rfl, rfl, by decide +kernel, rfl, by decide +kernel, by decide +kernel⟩
theorem ok_names_printer (D : DfdA K mg "names_printer" "_names" s_names_printer ["names"]) : Has P w K mg base 1 "names_printer" ["names"] spLstX := by
  refine D.has fun f fd F => F.ok sc_names_printer (fun vs H Q E h => ?_) (fun cdv A outer s H vs Q E hr h => ?_)
  · obtain ⟨_, _, _, rfl, _⟩ := h
    rfl
  · obtain ⟨v, k, l, rfl, hv, hk, hl, q⟩ := h
    refine ⟨_, (pss_one (ps_ret (pe_op op_add_str (pe_op op_add_str pe_str (pe_join pe_str (pv 0))) pe_str))), ?_⟩
    obtain ⟨a, xs, rfl, ha, hr⟩ := rep_tup hv
    obtain rfl := strs_reps hr
    obtain ⟨j1, j2, j3⟩ := join_names hk hl
    refine ⟨⟨_, rfl⟩, _, rfl, _, a, l.map mk, rfl, rfl, .inr (by rw [List.map_map]; exact SqT.of ha), j1, _, _, rfl, rfl, ?_, _, _, rfl, rfl, ?_, ?_⟩
    · exact sz_of (by first | (rw [Str.length_append]; show 1 + _ + 1 ≤ _; omega) | (show 1 + _ ≤ _; omega))
    · exact sz_of (by first | (rw [Str.length_append]; show 1 + _ + 1 ≤ _; omega) | (show 1 + _ ≤ _; omega))
    · rw [j3]; exact q
theorem sc_range_printer : FnScope ["pair", "low", "high"] ["pair"] (defScope s_range_printer) := ⟨rfl, rfl, rfl, by decide +kernel, rfl, by decide +kernel, by decide +kernel⟩
theorem ok_range_printer (D : DfdA K mg "range_printer" "_range" s_range_printer ["pair"]) : Has P w K mg base 1 "range_printer" ["pair"] spRngX := by
  refine D.has fun f fd F => F.ok sc_range_printer (fun vs H Q E h => ?_) (fun cdv A outer s H vs Q E hr h => ?_)
  · obtain ⟨_, _, rfl, _⟩ := h
    rfl
  · obtain ⟨v, r, rfl, hv, hk, q⟩ := h
    refine ⟨_, (pss_cons (ps_asg (pv 0) (pg_tup rfl (pgs_cons (pg_name (i := 1) sc_range_printer.nd rfl (.inl rfl)) (pgs_cons (pg_name (i := 2) sc_range_printer.nd rfl (.inl rfl)) pgs_nil))))
    (pss_one (ps_ret (pe_joined (.cons (pe_fmt (pv 1)) (.cons pe_str (.cons (pe_fmt (pv 2)) .nil))))))), ?_⟩
    obtain ⟨a, xs, rfl, ha, hr⟩ := rep_tup hv
    obtain ⟨u1, r1, rfl, g1, hr1⟩ := hr.un
    obtain ⟨u2, r2, rfl, g2, hr2⟩ := hr1.un
    rw [rep_int g1, rep_int g2, hr2.un0] at ha
    refine ⟨_, rfl, a, _, rfl, SqT.of ha, rfl, _, _, rfl, _, _, rfl, rfl, ?_⟩
    have e0 : ∀ n : Nat, n < 1000000000 → (numL n).length ≤ 9 := fun n h => numL_len (by decide) h
    have l1 := e0 _ hk.1
    have l2 := e0 _ hk.2
    refine ⟨_, rfl, .inr ⟨_, rfl, log_ok5 hk.1, _, rfl, ?_, _, rfl, ?_, _, rfl, .inr ⟨_, rfl, log_ok5 hk.2, _, rfl, ?_, ?_⟩⟩⟩
    · rw [show toString ((r.1 : Nat) : Int) = toString ((r.1 : Nat) : Int) from rfl]
      exact sz_of (by rw [Str.length_append, str_nat5, mk_len]; show 0 + _ ≤ _; omega)
    · exact sz_of (by rw [Str.length_append, Str.length_append, str_nat5, mk_len]; show 0 + _ + 2 ≤ _; omega)
    · exact sz_of (by rw [Str.length_append, Str.length_append, Str.length_append, str_nat5, str_nat5, mk_len, mk_len]; show 0 + _ + 2 + _ ≤ _; omega)
    · have e : Str.empty ++ Str.ofString (toString ((r.1 : Nat) : Int)) ++ (".." : Str) ++ Str.ofString (toString ((r.2 : Nat) : Int)) = mk (rngX r) := ext_tl (by
        rw [tl_append, tl_append, tl_append, str_nat5, str_nat5]
        show ([] ++ numL r.1 ++ [46, 46]) ++ numL r.2 = _
        unfold rngX
        rw [show tl (mk (numL r.1 ++ ([46, 46] ++ numL r.2))) = numL r.1 ++ ([46, 46] ++ numL r.2) from tl_mkS _]
        simp)
      rw [e]; exact q
end
end G
namespace G
open PySem PySem.Spec PyProof.Rows L2 Evl TL
def itemS : ItemD → Str
  | .gate n c ps => ("gate " : Str) ++ mk n ++ (" = " : Str) ++ mk c ++ mk (lstX ps)
  | .part n os m ps => ("part " : Str) ++ mk n ++ (": " : Str) ++ mk (lstX os) ++ (" = " : Str) ++ mk m ++ mk (lstX ps)
  | .reg n w e o s h b => (("reg " : Str) ++ mk n ++ (" = " : Str) ++ mk w ++ (" edge " : Str) ++ mk (rngX e) ++ (" out " : Str) ++ mk (rngX o)) ++ (Str.empty ++ (" setup " : Str) ++ mk (numL s) ++ (" hold " : Str) ++ mk (numL h) ++ (" start " : Str)) ++ (if b = true then ("1" : Str) else ("0" : Str))
theorem lstX_le {k : Nat} {l : List (List Nat)} (hk : k ≤ 100) (h : L20 k l) : (lstX l).length ≤ 2202 := by
  have hs := sum_le (g := fun x : List Nat => x.length) (m := 20) l fun x hx => (h.2 x hx).2
  have hl := h.1
  have := joinL_le [44, 32] l
  have e2 : ([44, 32] : List Nat).length = 2 := rfl
  rw [e2] at this
  unfold lstX
  rw [List.length_cons, List.length_append, List.length_singleton]
  omega
theorem rngX_le {p : Nat × Nat} (h : RgOk p) : (rngX p).length ≤ 20 := by
  have e0 : ∀ n : Nat, n < 1000000000 → (numL n).length ≤ 9 := fun n h => numL_len (by decide) h
  have l1 := e0 _ h.1
  have l2 := e0 _ h.2
  unfold rngX
  rw [List.length_append, List.length_append]
  show _ + (2 + _) ≤ _
  omega
section
variable {P : Program} {w : World} {K : PySem.W.Frag} {mg : Str → Option Value} {base : Heap}
def spItemX : Sp := fun vs H Q _ => ∃ (v : V) (i : ItemD), vs = [v] ∧ Rep H v i.dat ∧ GItem i ∧ Q (.str (itemS i)) H
theorem sc_item_printer : FnScope ["item", "_", "name", "cell", "nets", "outputs", "module", "net", "edge", "out", "setup", "hold", "start", "first"] ["item"] (defScope s_item_printer) := ⟨rfl, rfl, rfl, by decide +kernel, rfl, by decide +kernel, by decide +kernel⟩
theorem ok_item_printer (D : DfdA K mg "item_printer" "_item" s_item_printer ["item"]) (C1 : Has P w K mg base 1 "names_printer" ["names"] spLstX) (C2 : Has P w K mg base 1 "range_printer" ["pair"] spRngX) : Has P w K mg base 2 "item_printer" ["item"] spItemX := by
  obtain ⟨f_names_printer, d_names_printer, G_names_printer, g_names_printer, k_names_printer, b_names_printer⟩ := C1
  obtain ⟨f_range_printer, d_range_printer, G_range_printer, g_range_printer, k_range_printer, b_range_printer⟩ := C2
  refine D.has fun f fd F => F.ok sc_item_printer (fun vs H Q E h => ?_) (fun cdv A outer s H vs Q E hr h => ?_)
  · obtain ⟨_, _, rfl, _⟩ := h
    rfl
  · obtain ⟨v, i, rfl, hv, hi, q⟩ := h
    refine ⟨_, (pss_cons (ps_if (pt_cmpR op_eq (pe_ix ix_tup (pv 0) pe_int (fun _ _ => rfl)) pe_str (nomark _))
      (pss_cons (ps_asg (pv 0) (pg_tup rfl (pgs_cons (pg_name (i := 1) sc_item_printer.nd rfl (.inl rfl)) (pgs_cons (pg_name (i := 2) sc_item_printer.nd rfl (.inl rfl)) (pgs_cons (pg_name (i := 3) sc_item_printer.nd rfl (.inl rfl)) (pgs_cons (pg_name (i := 4) sc_item_printer.nd rfl (.inl rfl)) pgs_nil))))))
      (pss_one (ps_ret (pe_op op_add_str (pe_op op_add_str (pe_op op_add_str (pe_op op_add_str pe_str (pv 2)) pe_str) (pv 3)) (pe_call G_names_printer (hr.mono (by omega)) (by rfl) g_names_printer k_names_printer b_names_printer .nil pass0 (pa_cons (pv 4) pa_nil))))))
      pss_nil)
    (pss_cons (ps_if (pt_cmpR op_eq (pe_ix ix_tup (pv 0) pe_int (fun _ _ => rfl)) pe_str (nomark _))
      (pss_cons (ps_asg (pv 0) (pg_tup rfl (pgs_cons (pg_name (i := 1) sc_item_printer.nd rfl (.inl rfl)) (pgs_cons (pg_name (i := 2) sc_item_printer.nd rfl (.inl rfl)) (pgs_cons (pg_name (i := 5) sc_item_printer.nd rfl (.inl rfl)) (pgs_cons (pg_name (i := 6) sc_item_printer.nd rfl (.inl rfl)) (pgs_cons (pg_name (i := 4) sc_item_printer.nd rfl (.inl rfl)) pgs_nil)))))))
      (pss_one (ps_ret (pe_op op_add_str (pe_op op_add_str (pe_op op_add_str (pe_op op_add_str (pe_op op_add_str (pe_op op_add_str pe_str (pv 2)) pe_str) (pe_call G_names_printer (hr.mono (by omega)) (by rfl) g_names_printer k_names_printer b_names_printer .nil pass0 (pa_cons (pv 5) pa_nil))) pe_str) (pv 6)) (pe_call G_names_printer (hr.mono (by omega)) (by rfl) g_names_printer k_names_printer b_names_printer .nil pass0 (pa_cons (pv 4) pa_nil))))))
      pss_nil)
    (pss_cons (ps_asg (pv 0) (pg_tup rfl (pgs_cons (pg_name (i := 1) sc_item_printer.nd rfl (.inl rfl)) (pgs_cons (pg_name (i := 2) sc_item_printer.nd rfl (.inl rfl)) (pgs_cons (pg_name (i := 7) sc_item_printer.nd rfl (.inl rfl)) (pgs_cons (pg_name (i := 8) sc_item_printer.nd rfl (.inl rfl)) (pgs_cons (pg_name (i := 9) sc_item_printer.nd rfl (.inl rfl)) (pgs_cons (pg_name (i := 10) sc_item_printer.nd rfl (.inl rfl)) (pgs_cons (pg_name (i := 11) sc_item_printer.nd rfl (.inl rfl)) (pgs_cons (pg_name (i := 12) sc_item_printer.nd rfl (.inl rfl)) pgs_nil))))))))))
    (pss_cons (ps_set (i := 13) sc_item_printer.nd rfl (.inl rfl) (pe_op op_add_str (pe_op op_add_str (pe_op op_add_str (pe_op op_add_str (pe_op op_add_str (pe_op op_add_str (pe_op op_add_str pe_str (pv 2)) pe_str) (pv 7)) pe_str) (pe_call G_range_printer (hr.mono (by omega)) (by rfl) g_range_printer k_range_printer b_range_printer .nil pass0 (pa_cons (pv 8) pa_nil))) pe_str) (pe_call G_range_printer (hr.mono (by omega)) (by rfl) g_range_printer k_range_printer b_range_printer .nil pass0 (pa_cons (pv 9) pa_nil))))
    (pss_one (ps_ret (pe_op op_add_str (pe_op op_add_str (pv 13) (pe_joined (.cons pe_str (.cons (pe_fmt (pv 10)) (.cons pe_str (.cons (pe_fmt (pv 11)) (.cons pe_str .nil))))))) (pe_ifExp (pt_val (pv 12)) pe_str pe_str)))))))), ?_⟩
    cases i with
    | gate nm c ps =>
      obtain ⟨a1, a2, a3⟩ := hi
      obtain ⟨a, xs, rfl, ha, hr⟩ := rep_tup hv
      obtain ⟨u0, r0, rfl, g0, hr0⟩ := hr.un
      obtain ⟨u1, r1, rfl, g1, hr1⟩ := hr0.un
      obtain ⟨u2, r2, rfl, g2, hr2⟩ := hr1.un
      obtain ⟨u3, r3, rfl, g3, hr3⟩ := hr2.un
      rw [rep_str g0, rep_str g1, rep_str g2, hr3.un0] at ha
      have lp := lstX_le (by decide) a3
      have ln := a1.2
      have lc := a2.2
      refine ⟨_, rfl, _, _, _, _, rfl, rfl, SqT.of ha, atI_nat (j := 0) rfl, rfl, _, rfl, iteY (decide_eq_true rfl) ?_⟩
      refine ⟨_, rfl, a, _, rfl, SqT.of ha, rfl, _, _, rfl, _, _, rfl, _, _, rfl, _, _, rfl, rfl, ?_⟩
      refine ⟨_, rfl, _, _, rfl, rfl, ?_, _, _, rfl, rfl, ?_, _, rfl, _, _, rfl, rfl, ?_, _, rfl, u3, 3, ps, rfl, g3, by decide, a3, _, _, rfl, rfl, ?_, q⟩
      all_goals exact sz_of (by simp only [Str.length_append, mk_len]; first | (show 5 + _ ≤ _; omega) | (show 5 + _ + 3 ≤ _; omega) | (show 5 + _ + 3 + _ ≤ _; omega) | (show 5 + _ + 3 + _ + _ ≤ _; omega))
    | part nm os m ps =>
      obtain ⟨a1, a2, a3, a4⟩ := hi
      obtain ⟨a, xs, rfl, ha, hr⟩ := rep_tup hv
      obtain ⟨u0, r0, rfl, g0, hr0⟩ := hr.un
      obtain ⟨u1, r1, rfl, g1, hr1⟩ := hr0.un
      obtain ⟨u2, r2, rfl, g2, hr2⟩ := hr1.un
      obtain ⟨u3, r3, rfl, g3, hr3⟩ := hr2.un
      obtain ⟨u4, r4, rfl, g4, hr4⟩ := hr3.un
      rw [rep_str g0, rep_str g1, rep_str g3, hr4.un0] at ha
      have lo := lstX_le (by decide) a2
      have lp := lstX_le (by decide) a4
      have ln := a1.2
      have lc := a3.2
      refine ⟨_, rfl, _, _, _, _, rfl, rfl, SqT.of ha, atI_nat (j := 0) rfl, rfl, _, rfl, iteN (by decide +kernel) ?_⟩
      refine ⟨_, rfl, _, _, _, _, rfl, rfl, SqT.of ha, atI_nat (j := 0) rfl, rfl, _, rfl, iteY (decide_eq_true rfl) ?_⟩
      refine ⟨_, rfl, a, _, rfl, SqT.of ha, rfl, _, _, rfl, _, _, rfl, _, _, rfl, _, _, rfl, _, _, rfl, rfl, ?_⟩
      refine ⟨_, rfl, _, _, rfl, rfl, ?_, _, _, rfl, rfl, ?_, _, rfl, u2, 2, os, rfl, g2, by decide, a2, _, _, rfl, rfl, ?_, _, _, rfl, rfl, ?_, _, rfl, _, _, rfl, rfl, ?_, _, rfl, u4, 2, ps, rfl, g4, by decide, a4, _, _, rfl, rfl, ?_, q⟩
      all_goals exact sz_of (by simp only [Str.length_append, mk_len]; first | (show 5 + _ ≤ _; omega) | (show 5 + _ + 2 ≤ _; omega) | (show 5 + _ + 2 + _ ≤ _; omega) | (show 5 + _ + 2 + _ + 3 ≤ _; omega) | (show 5 + _ + 2 + _ + 3 + _ ≤ _; omega) | (show 5 + _ + 2 + _ + 3 + _ + _ ≤ _; omega))
    | reg nm w e o st hd b =>
      obtain ⟨a1, a2, a3, a4, a5, a6⟩ := hi
      obtain ⟨a, xs, rfl, ha, hr⟩ := rep_tup hv
      obtain ⟨u0, r0, rfl, g0, hr0⟩ := hr.un
      obtain ⟨u1, r1, rfl, g1, hr1⟩ := hr0.un
      obtain ⟨u2, r2, rfl, g2, hr2⟩ := hr1.un
      obtain ⟨u3, r3, rfl, g3, hr3⟩ := hr2.un
      obtain ⟨u4, r4, rfl, g4, hr4⟩ := hr3.un
      obtain ⟨u5, r5, rfl, g5, hr5⟩ := hr4.un
      obtain ⟨u6, r6, rfl, g6, hr6⟩ := hr5.un
      obtain ⟨u7, r7, rfl, g7, hr7⟩ := hr6.un
      rw [rep_str g0, rep_str g1, rep_str g2, rep_int g5, rep_int g6, rep_bl g7, hr7.un0] at ha
      have le := rngX_le a3
      have lo := rngX_le a4
      have ln := a1.2
      have lc := a2.2
      have e0 : ∀ n : Nat, n < 1000000000 → (numL n).length ≤ 9 := fun n h => numL_len (by decide) h
      have l1 := e0 _ a5
      have l2 := e0 _ a6
      refine ⟨_, rfl, _, _, _, _, rfl, rfl, SqT.of ha, atI_nat (j := 0) rfl, rfl, _, rfl, iteN (by decide +kernel) ?_⟩
      refine ⟨_, rfl, _, _, _, _, rfl, rfl, SqT.of ha, atI_nat (j := 0) rfl, rfl, _, rfl, iteN (by decide +kernel) ?_⟩
      refine ⟨_, rfl, a, _, rfl, SqT.of ha, rfl, _, _, rfl, _, _, rfl, _, _, rfl, _, _, rfl, _, _, rfl, _, _, rfl, _, _, rfl, _, _, rfl, rfl, ?_⟩
      refine ⟨_, rfl, _, _, rfl, rfl, ?_, _, _, rfl, rfl, ?_, _, rfl, _, _, rfl, rfl, ?_, _, _, rfl, rfl, ?_, _, rfl, u3, e, rfl, g3, a3, _, _, rfl, rfl, ?_, _, _, rfl, rfl, ?_, _, rfl, u4, o, rfl, g4, a4, _, _, rfl, rfl, ?_, ?_⟩
      iterate 7 exact sz_of (by simp only [Str.length_append, mk_len]; first | (show 4 + _ ≤ _; omega) | (show 4 + _ + 3 ≤ _; omega) | (show 4 + _ + 3 + _ ≤ _; omega) | (show 4 + _ + 3 + _ + 6 ≤ _; omega) | (show 4 + _ + 3 + _ + 6 + _ ≤ _; omega) | (show 4 + _ + 3 + _ + 6 + _ + 5 ≤ _; omega) | (show 4 + _ + 3 + _ + 6 + _ + 5 + _ ≤ _; omega))
      refine ⟨_, rfl, _, rfl, ?_, _, rfl, .inr ⟨_, rfl, log_ok5 a5, _, rfl, ?_, _, rfl, ?_, _, rfl, .inr ⟨_, rfl, log_ok5 a6, _, rfl, ?_, _, rfl, ?_, _, _, rfl, rfl, ?_, ?_⟩⟩⟩
      have c1 : (" setup " : Str).length = 7 := rfl
      have c2 : (" hold " : Str).length = 6 := rfl
      have c3 : (" start " : Str).length = 7 := rfl
      have c4 : ("reg " : Str).length = 4 := rfl
      have c5 : (" = " : Str).length = 3 := rfl
      have c6 : (" edge " : Str).length = 6 := rfl
      have c7 : (" out " : Str).length = 5 := rfl
      have c8 : Str.empty.length = 0 := rfl
      have c9 : ("1" : Str).length = 1 := rfl
      have c0 : ("0" : Str).length = 1 := rfl
      iterate 6 exact sz_of (by simp only [Str.length_append, mk_len, str_nat5]; first | (show 0 + 7 ≤ _; omega) | (show 0 + 7 + _ ≤ _; omega) | (show 0 + 7 + _ + 6 ≤ _; omega) | (show 0 + 7 + _ + 6 + _ ≤ _; omega) | (show 0 + 7 + _ + 6 + _ + 7 ≤ _; omega) | (show (4 + _ + 3 + _ + 6 + _ + 5 + _) + (0 + 7 + _ + 6 + _ + 7) ≤ _; omega))
      rw [str_nat5, str_nat5]
      cases b with
      | true =>
        refine ⟨_, rfl, _, rfl, iteT ⟨_, _, rfl, rfl, ?_, q⟩⟩
        exact sz_of (by simp only [Str.length_append, mk_len]; show (4 + _ + 3 + _ + 6 + _ + 5 + _) + (0 + 7 + _ + 6 + _ + 7) + 1 ≤ _; omega)
      | false =>
        refine ⟨_, rfl, _, rfl, iteF ⟨_, _, rfl, rfl, ?_, q⟩⟩
        exact sz_of (by simp only [Str.length_append, mk_len]; show (4 + _ + 3 + _ + 6 + _ + 5 + _) + (0 + 7 + _ + 6 + _ + 7) + 1 ≤ _; omega)
end
end G
namespace G
open PySem PySem.Spec PyProof.Rows L2 Evl TL
def pinS (x : List Nat × Nat × Nat) : Str := ("  pin " : Str) ++ mk x.1 ++ (" " : Str) ++ mk (rngX x.2) ++ (";" : Str)
def cellLs (c : CellD) : List Str := (("cell " : Str) ++ mk c.name ++ mk (lstX c.pins) ++ (" = " : Str) ++ mk (shF c.tree) ++ (" {" : Str)) :: (c.rngs.map pinS ++ [("}" : Str)])
def modLs (m : ModD) : List Str := (("module " : Str) ++ mk m.name ++ mk (lstX m.ins) ++ (" -> " : Str) ++ mk (lstX m.outs) ++ (" {" : Str)) :: ((m.items.map fun i => ("  " : Str) ++ itemS i ++ (";" : Str)) ++ [("}" : Str)])
theorem reps_map {α : Type} {f : α → D} {H : Hp} {xs : List V} {l : List α} (h : Reps H xs (l.map f)) {i : Nat} {x : V} (e : xs[i]? = some x) : ∃ c, l[i]? = some c ∧ Rep H x (f c) := by
  have hi := (List.getElem?_eq_some_iff.mp e).1
  have hl : xs.length = l.length := by rw [h.1, List.length_map]
  have e2 : l[i]? = some (l[i]'(by omega)) := List.getElem?_eq_getElem (by omega)
  exact ⟨_, e2, h.2 i x _ e (by rw [List.getElem?_map, e2]; rfl)⟩
theorem take_at {α : Type} {l : List α} {i : Nat} {c : α} (e : l[i]? = some c) : l.take (i + 1) = l.take i ++ [c] := by rw [List.take_add_one, e]; rfl
section
variable {P : Program} {w : World} {K : PySem.W.Frag} {mg : Str → Option Value} {base : Heap}
theorem itemS_le {i : ItemD} (h : GItem i) : (itemS i).length ≤ 6000 := by
  have e0 : ∀ n : Nat, n < 1000000000 → (numL n).length ≤ 9 := fun n h => numL_len (by decide) h
  cases i with
  | gate n c ps =>
    have := lstX_le (by decide) h.2.2
    have := h.1.2
    have := h.2.1.2
    unfold itemS
    simp only [Str.length_append, mk_len]
    show 5 + _ + 3 + _ + _ ≤ _
    omega
  | part n os m ps =>
    have := lstX_le (by decide) h.2.1
    have := lstX_le (by decide) h.2.2.2
    have := h.1.2
    have := h.2.2.1.2
    unfold itemS
    simp only [Str.length_append, mk_len]
    show 5 + _ + 2 + _ + 3 + _ + _ ≤ _
    omega
  | reg n w e o s hh b =>
    obtain ⟨a1, a2, a3, a4, a5, a6⟩ := h
    have := rngX_le a3
    have := rngX_le a4
    have := a1.2
    have := a2.2
    have := e0 _ a5
    have := e0 _ a6
    have hb : (if b = true then ("1" : Str) else ("0" : Str)).length = 1 := by cases b <;> rfl
    unfold itemS
    simp only [Str.length_append, mk_len, hb]
    show (4 + _ + 3 + _ + 6 + _ + 5 + _) + (0 + 7 + _ + 6 + _ + 7) + 1 ≤ _
    omega
def spModL : Sp := fun vs H Q _ => ∃ (v : V) (m : ModD), vs = [v] ∧ Rep H v m.dat ∧ GMod m ∧ ∀ H' L, Ex H H' → H L = none → H' L = some (.lst ((modLs m).map V.str)) → Q (.ref L) H'
theorem sc_module_lines : FnScope ["module", "name", "inputs", "outputs", "items", "lines", "item"] ["module"] (defScope s_module_lines) := ⟨rfl, rfl, rfl, by decide +kernel, rfl, by decide +kernel, by decide +kernel⟩
theorem ok_module_lines (D : Dfd K mg "_module_lines" s_module_lines ["module"]) (C1 : Has P w K mg base 1 "names_printer" ["names"] spLstX) (C2 : Has P w K mg base 2 "item_printer" ["item"] spItemX) : Has P w K mg base 3 "_module_lines" ["module"] spModL := by
  obtain ⟨f_names_printer, d_names_printer, G_names_printer, g_names_printer, k_names_printer, b_names_printer⟩ := C1
  obtain ⟨f_item_printer, d_item_printer, G_item_printer, g_item_printer, k_item_printer, b_item_printer⟩ := C2
  refine D.has fun f fd F => F.ok sc_module_lines (fun vs H Q E h => ?_) (fun cdv A outer s H vs Q E hr h => ?_)
  · obtain ⟨_, _, rfl, _⟩ := h
    rfl
  · obtain ⟨v, m, rfl, hv, hm, q⟩ := h
    refine ⟨_, (pss_cons (ps_asg (pv 0) (pg_tup rfl (pgs_cons (pg_name (i := 1) sc_module_lines.nd rfl (.inl rfl)) (pgs_cons (pg_name (i := 2) sc_module_lines.nd rfl (.inl rfl)) (pgs_cons (pg_name (i := 3) sc_module_lines.nd rfl (.inl rfl)) (pgs_cons (pg_name (i := 4) sc_module_lines.nd rfl (.inl rfl)) pgs_nil))))))
    (pss_cons (ps_set (i := 5) sc_module_lines.nd rfl (.inl rfl) (pe_lst (pa_cons (pe_op op_add_str (pe_op op_add_str (pe_op op_add_str (pe_op op_add_str (pe_op op_add_str pe_str (pv 1)) (pe_call G_names_printer (hr.mono (by omega)) (by rfl) g_names_printer k_names_printer b_names_printer .nil pass0 (pa_cons (pv 2) pa_nil))) pe_str) (pe_call G_names_printer (hr.mono (by omega)) (by rfl) g_names_printer k_names_printer b_names_printer .nil pass0 (pa_cons (pv 3) pa_nil))) pe_str) pa_nil)))
    (pss_cons (ps_for PassesOwn.never rfl (pi_tup (pv 4)) (pg_name (i := 6) sc_module_lines.nd rfl (.inl rfl))
      (pss_one (ps_expr (pe_bm PySem.F.plainAttrs_list PySem.F.slot_list_append PySem.F.type_list_append mt_append (pv 5) (pa_cons (pe_op op_add_str (pe_op op_add_str pe_str (pe_call G_item_printer (hr.mono (by omega)) (by rfl) g_item_printer k_item_printer b_item_printer .nil pass0 (pa_cons (pv 6) pa_nil))) pe_str) pa_nil)))))
    (pss_one (ps_ret (pe_op op_cat (pv 5) (pe_lst (pa_cons pe_str pa_nil)))))))), ?_⟩
    obtain ⟨a, xs, rfl, ha, hr⟩ := rep_tup hv
    obtain ⟨u0, r0, rfl, g0, hr0⟩ := hr.un
    obtain ⟨u1, r1, rfl, g1, hr1⟩ := hr0.un
    obtain ⟨u2, r2, rfl, g2, hr2⟩ := hr1.un
    obtain ⟨u3, r3, rfl, g3, hr3⟩ := hr2.un
    rw [rep_str g0, hr3.un0] at ha
    obtain ⟨at3, xt, rfl, hat, hxt⟩ := rep_tup g3
    have hxl : xt.length = m.items.length := by rw [hxt.1, List.length_map]
    have hil := hm.il
    have l1 := lstX_le (by decide) hm.is
    have l2 := lstX_le (by decide) hm.os
    have ln := hm.nm.2
    refine ⟨_, rfl, a, _, rfl, SqT.of ha, rfl, _, _, rfl, _, _, rfl, _, _, rfl, _, _, rfl, rfl, ?_⟩
    refine ⟨_, rfl, _, _, rfl, rfl, ?_, _, rfl, u1, 3, m.ins, rfl, g1, by decide, hm.is, _, _, rfl, rfl, ?_, _, _, rfl, rfl, ?_, _, rfl, u2, 3, m.outs, rfl, g2, by decide, hm.os, _, _, rfl, rfl, ?_, _, _, rfl, rfl, ?_, (by show 1 ≤ sizeLine; decide), fun L nL => ?_⟩
    iterate 5 exact sz_of (by simp only [Str.length_append, mk_len]; first | (show 7 + _ ≤ _; omega) | (show 7 + _ + _ ≤ _; omega) | (show 7 + _ + _ + 4 ≤ _; omega) | (show 7 + _ + _ + 4 + _ ≤ _; omega) | (show 7 + _ + _ + 4 + _ + 2 ≤ _; omega))
    have E1 := Ex.new (o := .lst [V.str (("module " : Str) ++ mk m.name ++ mk (lstX m.ins) ++ (" -> " : Str) ++ mk (lstX m.outs) ++ (" {" : Str))]) nL
    have hL : (upd H L (.lst [V.str (("module " : Str) ++ mk m.name ++ mk (lstX m.ins) ++ (" -> " : Str) ++ mk (lstX m.outs) ++ (" {" : Str))])) L = some (.lst [V.str (("module " : Str) ++ mk m.name ++ mk (lstX m.ins) ++ (" -> " : Str) ++ mk (lstX m.outs) ++ (" {" : Str))]) := upd_same
    generalize upd H L (.lst [V.str (("module " : Str) ++ mk m.name ++ mk (lstX m.ins) ++ (" -> " : Str) ++ mk (lstX m.outs) ++ (" {" : Str))]) = H1 at *
    refine ⟨_, rfl, at3, rfl, ⟨_, SqT.of (E1 _ _ hat)⟩, for_tup (K := K) (a := at3) (xs := xt)
      (fun i σ H' => Ex H H' ∧ H' L = some (.lst (((("module " : Str) ++ mk m.name ++ mk (lstX m.ins) ++ (" -> " : Str) ++ mk (lstX m.outs) ++ (" {" : Str)) :: (m.items.take i).map fun i => ("  " : Str) ++ itemS i ++ (";" : Str)).map V.str)) ∧ ∃ z : Option V, σ = [some (.ref a), some (.str (mk m.name)), some u1, some u2, some (.ref at3), some (.ref L), z])
      ⟨E1, hL, _, rfl⟩ (fun i σ H' _ g => SqT.of (g.1 _ _ hat)) ?_ ?_⟩
    · rintro i x σ H2 hx ⟨E2, hL2, z, rfl⟩
      obtain ⟨it, hit, hxr⟩ := reps_map hxt hx
      have hgi := hm.it it (List.mem_of_getElem? hit)
      have hi := (List.getElem?_eq_some_iff.mp hit).1
      have hlen := itemS_le hgi
      refine ⟨_, rfl, .inl ⟨rfl, _, SqL.of hL2⟩, _, rfl, x, it, rfl, hxr.ex E2, hgi, _, _, rfl, rfl, ?_, _, _, rfl, rfl, ?_, L, _, _, rfl, rfl, hL2, sz_lt ?_, Ex.mut E2 nL, ?_, _, rfl⟩
      · exact sz_of (by show 2 + _ ≤ _; omega)
      · exact sz_of (by first | (show 2 + _ + 1 ≤ _; omega) | (rw [Str.length_append]; show 2 + _ + 1 ≤ _; omega))
      · rw [List.length_map, List.length_cons, List.length_map, List.length_take]; omega
      · rw [upd_same, take_at hit, List.map_append]
        simp
    · rintro σ H2 ⟨E2, hL2, z, rfl⟩
      rw [hxl, List.take_length] at hL2
      refine ⟨_, rfl, (by show 1 ≤ sizeLine; decide), fun M nM => ?_⟩
      have E3 := Ex.new (o := .lst [V.str "}"]) nM
      refine ⟨L, M, _, _, rfl, rfl, E3 _ _ hL2, upd_same, ?_, fun N nN => ?_⟩
      · exact sz_of (by rw [List.length_map, List.length_cons, List.length_map]; show _ + 1 ≤ _; omega)
      refine q _ N ((E2.trans E3).trans (Ex.new nN)) (frb (E2.trans E3) nN) ?_
      rw [upd_same]
      unfold modLs
      simp
end
end G
namespace G
open PySem PySem.Spec PyProof.Rows L2 Evl TL
theorem pinS_le {x : List Nat × Nat × Nat} (h : G20 x.1 ∧ RgOk x.2) : (pinS x).length ≤ 60 := by
  have := h.1.2
  have := rngX_le h.2
  unfold pinS
  simp only [Str.length_append, mk_len]
  show 6 + _ + 1 + _ + 1 ≤ _
  omega
section
variable {P : Program} {w : World} {K : PySem.W.Frag} {mg : Str → Option Value} {base : Heap}
def spCellL : Sp := fun vs H Q _ => ∃ (v : V) (m : CellD), vs = [v] ∧ Rep H v m.dat ∧ GCell m ∧ (shF m.tree).length ≤ 4000 ∧ ∀ H' L, Ex H H' → H L = none → H' L = some (.lst ((cellLs m).map V.str)) → Q (.ref L) H'
theorem sc_cell_lines : FnScope ["cell", "name", "pins", "tree", "ranges", "lines", "pin", "low", "high"] ["cell"] (defScope s_cell_lines) := ⟨rfl, rfl, rfl, by decide +kernel, rfl, by decide +kernel, by decide +kernel⟩
theorem ok_cell_lines (D : Dfd K mg "_cell_lines" s_cell_lines ["cell"]) (C1 : Has P w K mg base 1 "names_printer" ["names"] spLstX) (C2 : Has P w K mg base 1 "range_printer" ["pair"] spRngX) (C3 : Has P w K mg base 3 "show_expression" ["tree"] (spShow (K := K))) : Has P w K mg base 4 "_cell_lines" ["cell"] spCellL := by
  obtain ⟨f_names_printer, d_names_printer, G_names_printer, g_names_printer, k_names_printer, b_names_printer⟩ := C1
  obtain ⟨f_range_printer, d_range_printer, G_range_printer, g_range_printer, k_range_printer, b_range_printer⟩ := C2
  obtain ⟨f_show_expression, d_show_expression, G_show_expression, g_show_expression, k_show_expression, b_show_expression⟩ := C3
  refine D.has fun f fd F => F.ok sc_cell_lines (fun vs H Q E h => ?_) (fun cdv A outer s H vs Q E hr h => ?_)
  · obtain ⟨_, _, rfl, _⟩ := h
    rfl
  · obtain ⟨v, m, rfl, hv, hm, hsf, q⟩ := h
    refine ⟨_, (pss_cons (ps_asg (pv 0) (pg_tup rfl (pgs_cons (pg_name (i := 1) sc_cell_lines.nd rfl (.inl rfl)) (pgs_cons (pg_name (i := 2) sc_cell_lines.nd rfl (.inl rfl)) (pgs_cons (pg_name (i := 3) sc_cell_lines.nd rfl (.inl rfl)) (pgs_cons (pg_name (i := 4) sc_cell_lines.nd rfl (.inl rfl)) pgs_nil))))))
    (pss_cons (ps_set (i := 5) sc_cell_lines.nd rfl (.inl rfl) (pe_lst (pa_cons (pe_op op_add_str (pe_op op_add_str (pe_op op_add_str (pe_op op_add_str (pe_op op_add_str pe_str (pv 1)) (pe_call G_names_printer (hr.mono (by omega)) (by rfl) g_names_printer k_names_printer b_names_printer .nil pass0 (pa_cons (pv 2) pa_nil))) pe_str) (pe_call G_show_expression (hr.mono (by omega)) (by rfl) g_show_expression k_show_expression b_show_expression .nil pass0 (pa_cons (pv 3) pa_nil))) pe_str) pa_nil)))
    (pss_cons (ps_for PassesOwn.never rfl (pi_tup (pv 4)) (pg_tup rfl (pgs_cons (pg_name (i := 6) sc_cell_lines.nd rfl (.inl rfl)) (pgs_cons (pg_name (i := 7) sc_cell_lines.nd rfl (.inl rfl)) (pgs_cons (pg_name (i := 8) sc_cell_lines.nd rfl (.inl rfl)) pgs_nil))))
      (pss_one (ps_expr (pe_bm PySem.F.plainAttrs_list PySem.F.slot_list_append PySem.F.type_list_append mt_append (pv 5) (pa_cons (pe_op op_add_str (pe_op op_add_str (pe_op op_add_str (pe_op op_add_str pe_str (pv 6)) pe_str) (pe_call G_range_printer (hr.mono (by omega)) (by rfl) g_range_printer k_range_printer b_range_printer .nil pass0 (pa_cons (pe_tup (pa_cons (pv 7) (pa_cons (pv 8) pa_nil))) pa_nil))) pe_str) pa_nil)))))
    (pss_one (ps_ret (pe_op op_cat (pv 5) (pe_lst (pa_cons pe_str pa_nil)))))))), ?_⟩
    obtain ⟨a, xs, rfl, ha, hr⟩ := rep_tup hv
    obtain ⟨u0, r0, rfl, g0, hr0⟩ := hr.un
    obtain ⟨u1, r1, rfl, g1, hr1⟩ := hr0.un
    obtain ⟨u2, r2, rfl, g2, hr2⟩ := hr1.un
    obtain ⟨u3, r3, rfl, g3, hr3⟩ := hr2.un
    rw [rep_str g0, hr3.un0] at ha
    obtain ⟨at3, xt, rfl, hat, hxt⟩ := rep_tup g3
    have hxl : xt.length = m.rngs.length := by rw [hxt.1, List.length_map]
    have hil := hm.rl
    have l1 := lstX_le (by decide) hm.ps
    have ln := hm.nm.2
    have hno : NamesOk m.tree := fun x hx => (hm.tn x hx).1
    have htp := hm.tp
    refine ⟨_, rfl, a, _, rfl, SqT.of ha, rfl, _, _, rfl, _, _, rfl, _, _, rfl, _, _, rfl, rfl, ?_⟩
    refine ⟨_, rfl, _, _, rfl, rfl, ?_, _, rfl, u1, 4, m.pins, rfl, g1, by decide, hm.ps, _, _, rfl, rfl, ?_, _, _, rfl, rfl, ?_, _, rfl, u2, m.tree, rfl, (tree_rep g2).at_, hno, by omega, by omega, fun H0 E0 => ⟨_, _, rfl, rfl, ?_, _, _, rfl, rfl, ?_, (by show 1 ≤ sizeLine; decide), fun L nL => ?_⟩⟩
    iterate 5 exact sz_of (by simp only [Str.length_append, mk_len]; first | (show 5 + _ ≤ _; omega) | (show 5 + _ + _ ≤ _; omega) | (show 5 + _ + _ + 3 ≤ _; omega) | (show 5 + _ + _ + 3 + _ ≤ _; omega) | (show 5 + _ + _ + 3 + _ + 2 ≤ _; omega))
    generalize hhd : ("cell " : Str) ++ mk m.name ++ mk (lstX m.pins) ++ (" = " : Str) ++ mk (shF m.tree) ++ (" {" : Str) = hd at *
    have E1 := E0.trans (Ex.new (o := .lst [V.str hd]) nL)
    have hL : (upd H0 L (.lst [V.str hd])) L = some (.lst [V.str hd]) := upd_same
    have nLH := frb E0 nL
    generalize upd H0 L (.lst [V.str hd]) = H1 at *
    refine ⟨_, rfl, at3, rfl, ⟨_, SqT.of (E1 _ _ hat)⟩, for_tup (K := K) (a := at3) (xs := xt)
      (fun i σ H' => Ex H H' ∧ H' L = some (.lst ((hd :: (m.rngs.take i).map pinS).map V.str)) ∧ ∃ z6 z7 z8 : Option V, σ = [some (.ref a), some (.str (mk m.name)), some u1, some u2, some (.ref at3), some (.ref L), z6, z7, z8])
      ⟨E1, hL, _, _, _, rfl⟩ (fun i σ H' _ g => SqT.of (g.1 _ _ hat)) ?_ ?_⟩
    · rintro i x σ H2 hx ⟨E2, hL2, z6, z7, z8, rfl⟩
      obtain ⟨it, hit, hxr⟩ := reps_map hxt hx
      have hgi := hm.rg it (List.mem_of_getElem? hit)
      have hi := (List.getElem?_eq_some_iff.mp hit).1
      have li := hgi.1.2
      have lr := rngX_le hgi.2
      obtain ⟨tb, zs, rfl, htb, hzr⟩ := rep_tup hxr
      obtain ⟨w0, s0, rfl, k0, hs0⟩ := hzr.un
      obtain ⟨w1, s1, rfl, k1, hs1⟩ := hs0.un
      obtain ⟨w2, s2, rfl, k2, hs2⟩ := hs1.un
      rw [rep_str k0, rep_int k1, rep_int k2, hs2.un0] at htb
      refine ⟨tb, _, rfl, SqT.of (E2 _ _ htb), rfl, _, _, rfl, _, _, rfl, _, _, rfl, rfl, ?_⟩
      refine ⟨_, rfl, .inl ⟨rfl, _, SqL.of hL2⟩, _, rfl, _, _, rfl, rfl, ?_, _, _, rfl, rfl, ?_, _, rfl, _, rfl, (by show 2 ≤ sizeLine; decide), fun y ny => ?_⟩
      · exact sz_of (by simp only [mk_len]; show 6 + _ ≤ _; omega)
      · exact sz_of (by simp only [Str.length_append, mk_len]; show 6 + _ + 1 ≤ _; omega)
      have E3 := Ex.new (o := .tup [.int (it.2.1 : Nat), .int (it.2.2 : Nat)]) ny
      have hy : (upd H2 y (.tup [.int (it.2.1 : Nat), .int (it.2.2 : Nat)])) y = some (.tup [.int (it.2.1 : Nat), .int (it.2.2 : Nat)]) := upd_same
      generalize upd H2 y (.tup [.int (it.2.1 : Nat), .int (it.2.2 : Nat)]) = H3 at *
      refine ⟨_, it.2, rfl, Reps.tup (.cons (.int _) (.cons (.int _) .nil)) hy, hgi.2, _, _, rfl, rfl, ?_, _, _, rfl, rfl, ?_, L, _, _, rfl, rfl, E3 _ _ hL2, sz_lt ?_, Ex.mut (E2.trans E3) nLH, ?_, _, _, _, rfl⟩
      · exact sz_of (by simp only [Str.length_append, mk_len]; show 6 + _ + 1 + _ ≤ _; omega)
      · exact sz_of (by simp only [Str.length_append, mk_len]; show 6 + _ + 1 + _ + 1 ≤ _; omega)
      · rw [List.length_map, List.length_cons, List.length_map, List.length_take]; omega
      · rw [upd_same, take_at hit, List.map_append]
        simp [pinS]
    · rintro σ H2 ⟨E2, hL2, z6, z7, z8, rfl⟩
      rw [hxl, List.take_length] at hL2
      refine ⟨_, rfl, (by show 1 ≤ sizeLine; decide), fun M nM => ?_⟩
      have E3 := Ex.new (o := .lst [V.str "}"]) nM
      refine ⟨L, M, _, _, rfl, rfl, E3 _ _ hL2, upd_same, ?_, fun N nN => ?_⟩
      · exact sz_of (by rw [List.length_map, List.length_cons, List.length_map]; show _ + 1 ≤ _; omega)
      refine q _ N ((E2.trans E3).trans (Ex.new nN)) (frb (E2.trans E3) nN) ?_
      rw [upd_same]
      unfold cellLs
      rw [hhd]
      simp
end
end G
namespace G
open PySem PySem.Spec PyProof.Rows L2 Evl TL
def deckLs (d : DeckD) : List Str := d.cells.flatMap cellLs ++ d.mods.flatMap modLs
def deckS (d : DeckD) : Str := Txt.join ("" : Str) ((deckLs d).map fun s => s ++ ("\n" : Str))
theorem cellLs_len {c : CellD} (h : GCell c) : (cellLs c).length ≤ 5 := by
  have := h.rl
  unfold cellLs
  rw [List.length_cons, List.length_append, List.length_map]
  show _ + 1 + 1 ≤ _
  omega
theorem modLs_len {c : ModD} (h : GMod c) : (modLs c).length ≤ 6 := by
  have := h.il
  unfold modLs
  rw [List.length_cons, List.length_append, List.length_map]
  show _ + 1 + 1 ≤ _
  omega
section
variable {P : Program} {w : World} {K : PySem.W.Frag} {mg : Str → Option Value} {base : Heap}
theorem flat_le5 {α β : Type} {f : α → List β} {k : Nat} : ∀ l : List α, (∀ x ∈ l, (f x).length ≤ k) → (l.flatMap f).length ≤ l.length * k
  | [], _ => Nat.zero_le _
  | x :: l, h => by
    rw [List.flatMap_cons, List.length_append, List.length_cons, Nat.succ_mul]
    have := h x (List.mem_cons_self ..)
    have := flat_le5 l fun y hy => h y (List.mem_cons_of_mem _ hy)
    omega
def spShowD : Sp := fun vs H Q _ => ∃ (v : V) (d : DeckD), vs = [v] ∧ Rep H v d.dat ∧ d.cells.length ≤ 3 ∧ (∀ c ∈ d.cells, GCell c ∧ (shF c.tree).length ≤ 4000) ∧ d.mods.length ≤ 3 ∧ (∀ m ∈ d.mods, GMod m) ∧ (∀ s ∈ deckLs d, s.length ≤ 7000) ∧ ∀ H', Ex H H' → Q (.str (deckS d)) H'
theorem sc_show_deck : FnScope ["deck", "cells", "modules", "lines", "cell", "module", "line"] ["deck"] (defScope s_show_deck) := ⟨rfl, rfl, rfl, by decide +kernel, rfl, by decide +kernel, by decide +kernel⟩
theorem ok_show_deck (D : Dfd K mg "show_deck" s_show_deck ["deck"]) (C1 : Has P w K mg base 4 "_cell_lines" ["cell"] spCellL) (C2 : Has P w K mg base 3 "_module_lines" ["module"] spModL) : Has P w K mg base 5 "show_deck" ["deck"] spShowD := by
  obtain ⟨f_cell_lines, d_cell_lines, G_cell_lines, g_cell_lines, k_cell_lines, b_cell_lines⟩ := C1
  obtain ⟨f_module_lines, d_module_lines, G_module_lines, g_module_lines, k_module_lines, b_module_lines⟩ := C2
  refine D.has fun f fd F => F.ok sc_show_deck (fun vs H Q E h => ?_) (fun cdv A outer s H vs Q E hr h => ?_)
  · obtain ⟨_, _, rfl, _⟩ := h
    rfl
  · obtain ⟨v, d, rfl, hv, hcl, hgc, hml, hgm, hll, q⟩ := h
    refine ⟨_, (pss_cons (ps_asg (pv 0) (pg_tup rfl (pgs_cons (pg_name (i := 1) sc_show_deck.nd rfl (.inl rfl)) (pgs_cons (pg_name (i := 2) sc_show_deck.nd rfl (.inl rfl)) pgs_nil))))
    (pss_cons (ps_set (i := 3) sc_show_deck.nd rfl (.inl rfl) (pe_lst pa_nil))
    (pss_cons (ps_for PassesOwn.never rfl (pi_tup (pv 1)) (pg_name (i := 4) sc_show_deck.nd rfl (.inl rfl))
      (pss_one (ps_expr (pe_bm PySem.F.plainAttrs_list PySem.F.slot_list_extend PySem.F.type_list_extend mt_extend (pv 3) (pa_cons (pe_call G_cell_lines (hr.mono (by omega)) (by rfl) g_cell_lines k_cell_lines b_cell_lines .nil pass0 (pa_cons (pv 4) pa_nil)) pa_nil)))))
    (pss_cons (ps_for PassesOwn.never rfl (pi_tup (pv 2)) (pg_name (i := 5) sc_show_deck.nd rfl (.inl rfl))
      (pss_one (ps_expr (pe_bm PySem.F.plainAttrs_list PySem.F.slot_list_extend PySem.F.type_list_extend mt_extend (pv 3) (pa_cons (pe_call G_module_lines (hr.mono (by omega)) (by rfl) g_module_lines k_module_lines b_module_lines .nil pass0 (pa_cons (pv 5) pa_nil)) pa_nil)))))
    (pss_one (ps_ret (pe_join pe_str (pe_lc (own := [("line", 6)]) (g := gName 6) (tt := tYes) rfl sc_show_deck.nd (pi_list (pv 3)) (blkOk_by (N := ["deck", "cells", "modules", "lines", "cell", "module", "line"]) (sc := defScope s_show_deck) (own := [("line", 6)]) (by decide +kernel)) (fun _ _ _ _ _ => (pg_name (i := 6) sc_show_deck.nd rfl (.inl rfl))) (fun _ _ _ _ _ => pts_nil) (fun _ _ _ _ _ => (pe_op op_add_str (pv 6) pe_str)))))))))), ?_⟩
    obtain ⟨a, xs, rfl, ha, hr⟩ := rep_tup hv
    obtain ⟨u0, r0, rfl, g0, hr0⟩ := hr.un
    obtain ⟨u1, r1, rfl, g1, hr1⟩ := hr0.un
    rw [hr1.un0] at ha
    obtain ⟨ac, xc, rfl, hac, hxc⟩ := rep_tup g0
    obtain ⟨am, xm, rfl, ham, hxm⟩ := rep_tup g1
    have hxcl : xc.length = d.cells.length := by rw [hxc.1, List.length_map]
    have hxml : xm.length = d.mods.length := by rw [hxm.1, List.length_map]
    have hc5 := flat_le5 (f := cellLs) (k := 5) d.cells fun c hc => cellLs_len (hgc c hc).1
    refine ⟨_, rfl, a, _, rfl, SqT.of ha, rfl, _, _, rfl, _, _, rfl, rfl, (by show 0 ≤ sizeLine; decide), fun L nL => ?_⟩
    have E1 := Ex.new (o := .lst []) nL
    have hL : (upd H L (.lst [])) L = some (.lst []) := upd_same
    generalize upd H L (.lst []) = H1 at *
    refine ⟨_, rfl, ac, rfl, ⟨_, SqT.of (E1 _ _ hac)⟩, for_tup (K := K) (a := ac) (xs := xc)
      (fun i σ H' => Ex H H' ∧ H' L = some (.lst (((d.cells.take i).flatMap cellLs).map V.str)) ∧ ∃ z4 z5 z6 : Option V, σ = [some (.ref a), some (.ref ac), some (.ref am), some (.ref L), z4, z5, z6])
      ⟨E1, hL, _, _, _, rfl⟩ (fun i σ H' _ g => SqT.of (g.1 _ _ hac)) ?_ ?_⟩
    · rintro i x σ H2 hx ⟨E2, hL2, z4, z5, z6, rfl⟩
      obtain ⟨c, hc, hxr⟩ := reps_map hxc hx
      have hgi := hgc c (List.mem_of_getElem? hc)
      have hi := (List.getElem?_eq_some_iff.mp hc).1
      have l5 := cellLs_len hgi.1
      have l6 := flat_le5 (f := cellLs) (k := 5) (d.cells.take i) fun c hc => cellLs_len (hgc c (List.mem_of_mem_take hc)).1
      rw [List.length_take] at l6
      refine ⟨_, rfl, .inl ⟨rfl, _, SqL.of hL2⟩, _, rfl, x, c, rfl, hxr.ex E2, hgi.1, hgi.2, fun H3 M E3 nM hM => ⟨L, M, _, _, rfl, rfl, E3 _ _ hL2, hM, ?_, Ex.mut (E2.trans E3) nL, ?_, _, _, _, rfl⟩⟩
      · exact sz_of (by rw [List.length_map, List.length_map]; omega)
      · rw [upd_same, take_at hc, List.flatMap_append, List.map_append]
        simp
    rintro σ H2 ⟨E2, hL2, z4, z5, z6, rfl⟩
    rw [hxcl, List.take_length] at hL2
    refine ⟨_, rfl, am, rfl, ⟨_, SqT.of (E2 _ _ ham)⟩, for_tup (K := K) (a := am) (xs := xm)
      (fun i σ H' => Ex H H' ∧ H' L = some (.lst ((d.cells.flatMap cellLs ++ (d.mods.take i).flatMap modLs).map V.str)) ∧ ∃ z4 z5 z6 : Option V, σ = [some (.ref a), some (.ref ac), some (.ref am), some (.ref L), z4, z5, z6])
      ⟨E2, by rw [List.take_zero, List.flatMap_nil, List.append_nil]; exact hL2, _, _, _, rfl⟩ (fun i σ H' _ g => SqT.of (g.1 _ _ ham)) ?_ ?_⟩
    · rintro i x σ H3 hx ⟨E3, hL3, z4, z5, z6, rfl⟩
      obtain ⟨m, hm, hxr⟩ := reps_map hxm hx
      have hgi := hgm m (List.mem_of_getElem? hm)
      have hi := (List.getElem?_eq_some_iff.mp hm).1
      have l5 := modLs_len hgi
      have l6 := flat_le5 (f := modLs) (k := 6) (d.mods.take i) fun c hc => modLs_len (hgm c (List.mem_of_mem_take hc))
      rw [List.length_take] at l6
      refine ⟨_, rfl, .inl ⟨rfl, _, SqL.of hL3⟩, _, rfl, x, m, rfl, hxr.ex E3, hgi, fun H4 M E4 nM hM => ⟨L, M, _, _, rfl, rfl, E4 _ _ hL3, hM, ?_, Ex.mut (E3.trans E4) nL, ?_, _, _, _, rfl⟩⟩
      · exact sz_of (by rw [List.length_map, List.length_map, List.length_append]; omega)
      · rw [upd_same, take_at hm, List.flatMap_append, ← List.map_append]
        simp
    · rintro σ H3 ⟨E3, hL3, z4, z5, z6, rfl⟩
      rw [hxml, List.take_length] at hL3
      have hL3 : H3 L = some (.lst ((deckLs d).map V.str)) := hL3
      have l6 := flat_le5 (f := modLs) (k := 6) d.mods fun c hc => modLs_len (hgm c hc)
      have hdl : (deckLs d).length ≤ 33 := by
        unfold deckLs
        rw [List.length_append]; omega
      refine ⟨⟨_, rfl⟩, _, rfl, L, rfl, ⟨_, SqL.of hL3⟩, fun S nS => wk_list (K := K) (a := L) (xs := (deckLs d).map V.str)
        (fun k H2 => Ex H3 H2 ∧ H2 S = some (.lst ((((deckLs d).take k).map fun s => s ++ ("\n" : Str)).map V.str))) ⟨Ex.new nS, upd_same⟩ (fun k H2 _ g => SqL.of (g.1 _ _ hL3)) ?_ ?_⟩
      · rintro k y H4 hy ⟨E4, hS⟩
        rw [List.getElem?_map] at hy
        obtain ⟨s, hs, rfl⟩ := Option.map_eq_some_iff.mp hy
        have hsl := hll s (List.mem_of_getElem? hs)
        refine ⟨rfl, tYes_in ?_⟩
        simp only [wipe, _root_.L2.start, List.map_cons, List.map_nil, List.length_cons, List.length_nil, Nat.reduceAdd, Nat.reduceSub, List.replicate_succ, List.replicate_zero, List.cons_append, List.nil_append, List.set_cons_zero, List.set_cons_succ]
        refine ⟨_, rfl, _, _, rfl, rfl, ?_, _, hS, sz_lt ?_, Ex.mut E4 nS, ?_⟩
        · exact sz_of (by show _ + 1 ≤ _; omega)
        · rw [List.length_map, List.length_map, List.length_take]; omega
        · rw [upd_same, take_at hs]
          simp
      · rintro H4 ⟨E4, hS⟩
        rw [List.length_map, List.take_length] at hS
        refine ⟨_, S, (deckLs d).map fun s => s ++ ("\n" : Str), rfl, rfl, .inl (SqL.of hS), ?_, q _ (E3.trans E4)⟩
        have h1 := sum_le (g := fun x : Str => x.length) (m := 7001) ((deckLs d).map fun s => s ++ ("\n" : Str)) fun x hx => by
          obtain ⟨s, hs, rfl⟩ := List.mem_map.mp hx
          have := hll s hs
          rw [Str.length_append]
          show _ + 1 ≤ _
          omega
        have e1 : ("" : Str).length = 0 := rfl
        rw [e1, Nat.mul_zero]
        rw [List.length_map] at h1
        have : (deckLs d).length * 7001 ≤ 33 * 7001 := Nat.mul_le_mul_right _ hdl
        omega
end
end G
namespace G
open PySem PySem.Spec PyProof.Rows L2 Evl TL
structure TxtSt (mg : Str → Option Value) : Prop where
  str : mg "str" = none
  int : mg "int" = none
section
variable {P : Program} {w : World} {K : PySem.W.Frag} {mg : Str → Option Value} {base : Heap}
theorem sc_law_list : FnScope ["names"] ["names"] (defScope s_law_list) := ⟨rfl, rfl, rfl, by decide +kernel, rfl, by decide +kernel, by decide +kernel⟩
theorem ok_law_list (D : Dfd K mg "_law_list" s_law_list ["names"]) : Has P w K mg base 1 "_law_list" ["names"] spLstX := by
  refine D.has fun f fd F => F.ok sc_law_list (fun vs H Q E h => ?_) (fun cdv A outer s H vs Q E hr h => ?_)
  · obtain ⟨_, _, _, rfl, _⟩ := h
    rfl
  · obtain ⟨v, k, l, rfl, hv, hk, hl, q⟩ := h
    refine ⟨_, (pss_one (ps_ret (pe_op op_add_str (pe_op op_add_str pe_str (pe_join pe_str (pv 0))) pe_str))), ?_⟩
    obtain ⟨a, xs, rfl, ha, hr⟩ := rep_tup hv
    obtain rfl := strs_reps hr
    obtain ⟨j1, j2, j3⟩ := join_names hk hl
    refine ⟨⟨_, rfl⟩, _, rfl, _, a, l.map mk, rfl, rfl, .inr (by rw [List.map_map]; exact SqT.of ha), j1, _, _, rfl, rfl, ?_, _, _, rfl, rfl, ?_, ?_⟩
    · exact sz_of (by first | (rw [Str.length_append]; show 1 + _ + 1 ≤ _; omega) | (show 1 + _ ≤ _; omega))
    · exact sz_of (by first | (rw [Str.length_append]; show 1 + _ + 1 ≤ _; omega) | (show 1 + _ ≤ _; omega))
    · rw [j3]; exact q
theorem sc_law_pair : FnScope ["pair"] ["pair"] (defScope s_law_pair) := ⟨rfl, rfl, rfl, by decide +kernel, rfl, by decide +kernel, by decide +kernel⟩
theorem ok_law_pair (D : Dfd K mg "_law_pair" s_law_pair ["pair"]) (T : TxtSt mg) : Has P w K mg base 1 "_law_pair" ["pair"] spRngX := by
  refine D.has fun f fd F => F.ok sc_law_pair (fun vs H Q E h => ?_) (fun cdv A outer s H vs Q E hr h => ?_)
  · obtain ⟨_, _, rfl, _⟩ := h
    rfl
  · obtain ⟨v, r, rfl, hv, hk, q⟩ := h
    refine ⟨_, (pss_one (ps_ret (pe_op op_add_str (pe_op op_add_str (pe_callTy call_str_int (by rfl) T.str (by decide +kernel) (pa_cons (pe_ix ix_tup (pv 0) pe_int (fun _ _ => rfl)) pa_nil)) pe_str) (pe_callTy call_str_int (by rfl) T.str (by decide +kernel) (pa_cons (pe_ix ix_tup (pv 0) pe_int (fun _ _ => rfl)) pa_nil))))), ?_⟩
    obtain ⟨a, xs, rfl, ha, hr⟩ := rep_tup hv
    obtain ⟨u1, r1, rfl, g1, hr1⟩ := hr.un
    obtain ⟨u2, r2, rfl, g2, hr2⟩ := hr1.un
    rw [rep_int g1, rep_int g2, hr2.un0] at ha
    have e0 : ∀ n : Nat, n < 1000000000 → (numL n).length ≤ 9 := fun n h => numL_len (by decide) h
    have l1 := e0 _ hk.1
    have l2 := e0 _ hk.2
    refine ⟨_, rfl, _, _, _, _, rfl, rfl, SqT.of ha, atI_nat (j := 0) rfl, _, rfl, log_ok5 hk.1, _, _, rfl, rfl, ?_, _, rfl, _, _, _, _, rfl, rfl, SqT.of ha, atI_nat (j := 1) rfl, _, rfl, log_ok5 hk.2, _, _, rfl, rfl, ?_, ?_⟩
    · exact sz_of (by rw [str_nat5, mk_len]; show _ + 2 ≤ _; omega)
    · exact sz_of (by rw [Str.length_append, str_nat5, str_nat5, mk_len, mk_len]; show _ + 2 + _ ≤ _; omega)
    · have e : Str.ofString (toString ((r.1 : Nat) : Int)) ++ (".." : Str) ++ Str.ofString (toString ((r.2 : Nat) : Int)) = mk (rngX r) := ext_tl (by
        rw [tl_append, tl_append, str_nat5, str_nat5]
        show (numL r.1 ++ [46, 46]) ++ numL r.2 = _
        unfold rngX
        rw [show tl (mk (numL r.1 ++ ([46, 46] ++ numL r.2))) = numL r.1 ++ ([46, 46] ++ numL r.2) from tl_mkS _]
        simp)
      rw [e]; exact q
end
end G
namespace G
open PySem PySem.Spec PyProof.Rows L2 Evl TL
section
variable {P : Program} {w : World} {K : PySem.W.Frag} {mg : Str → Option Value} {base : Heap}
def spLineX : Sp := fun vs H Q _ => ∃ (v : V) (i : ItemD), vs = [v] ∧ Rep H v i.dat ∧ GItem i ∧ Q (.str (("  " : Str) ++ itemS i ++ (";" : Str))) H
theorem sc_law_line : FnScope ["item", "text"] ["item"] (defScope s_law_line) := ⟨rfl, rfl, rfl, by decide +kernel, rfl, by decide +kernel, by decide +kernel⟩
theorem ok_law_line (D : Dfd K mg "_law_line" s_law_line ["item"]) (T : TxtSt mg) (C1 : Has P w K mg base 1 "_law_list" ["names"] spLstX) (C2 : Has P w K mg base 1 "_law_pair" ["pair"] spRngX) : Has P w K mg base 2 "_law_line" ["item"] spLineX := by
  obtain ⟨f_law_list, d_law_list, G_law_list, g_law_list, k_law_list, b_law_list⟩ := C1
  obtain ⟨f_law_pair, d_law_pair, G_law_pair, g_law_pair, k_law_pair, b_law_pair⟩ := C2
  refine D.has fun f fd F => F.ok sc_law_line (fun vs H Q E h => ?_) (fun cdv A outer s H vs Q E hr h => ?_)
  · obtain ⟨_, _, rfl, _⟩ := h
    rfl
  · obtain ⟨v, i, rfl, hv, hi, q⟩ := h
    refine ⟨_, (pss_cons (ps_if (pt_cmpR op_eq (pe_ix ix_tup (pv 0) pe_int (fun _ _ => rfl)) pe_str (nomark _))
      (pss_one (ps_ret (pe_op op_add_str (pe_op op_add_str (pe_op op_add_str (pe_op op_add_str (pe_op op_add_str pe_str (pe_ix ix_tup (pv 0) pe_int (fun _ _ => rfl))) pe_str) (pe_ix ix_tup (pv 0) pe_int (fun _ _ => rfl))) (pe_call G_law_list (hr.mono (by omega)) (by rfl) g_law_list k_law_list b_law_list .nil pass0 (pa_cons (pe_ix ix_tup (pv 0) pe_int (fun _ _ => rfl)) pa_nil))) pe_str)))
      pss_nil)
    (pss_cons (ps_if (pt_cmpR op_eq (pe_ix ix_tup (pv 0) pe_int (fun _ _ => rfl)) pe_str (nomark _))
      (pss_one (ps_ret (pe_op op_add_str (pe_op op_add_str (pe_op op_add_str (pe_op op_add_str (pe_op op_add_str (pe_op op_add_str (pe_op op_add_str pe_str (pe_ix ix_tup (pv 0) pe_int (fun _ _ => rfl))) pe_str) (pe_call G_law_list (hr.mono (by omega)) (by rfl) g_law_list k_law_list b_law_list .nil pass0 (pa_cons (pe_ix ix_tup (pv 0) pe_int (fun _ _ => rfl)) pa_nil))) pe_str) (pe_ix ix_tup (pv 0) pe_int (fun _ _ => rfl))) (pe_call G_law_list (hr.mono (by omega)) (by rfl) g_law_list k_law_list b_law_list .nil pass0 (pa_cons (pe_ix ix_tup (pv 0) pe_int (fun _ _ => rfl)) pa_nil))) pe_str)))
      pss_nil)
    (pss_cons (ps_set (i := 1) sc_law_line.nd rfl (.inl rfl) (pe_op op_add_str (pe_op op_add_str (pe_op op_add_str (pe_op op_add_str (pe_op op_add_str (pe_op op_add_str (pe_op op_add_str pe_str (pe_ix ix_tup (pv 0) pe_int (fun _ _ => rfl))) pe_str) (pe_ix ix_tup (pv 0) pe_int (fun _ _ => rfl))) pe_str) (pe_call G_law_pair (hr.mono (by omega)) (by rfl) g_law_pair k_law_pair b_law_pair .nil pass0 (pa_cons (pe_ix ix_tup (pv 0) pe_int (fun _ _ => rfl)) pa_nil))) pe_str) (pe_call G_law_pair (hr.mono (by omega)) (by rfl) g_law_pair k_law_pair b_law_pair .nil pass0 (pa_cons (pe_ix ix_tup (pv 0) pe_int (fun _ _ => rfl)) pa_nil))))
    (pss_one (ps_ret (pe_op op_add_str (pe_op op_add_str (pe_op op_add_str (pe_op op_add_str (pe_op op_add_str (pe_op op_add_str (pe_op op_add_str (pv 1) pe_str) (pe_callTy call_str_int (by rfl) T.str (by decide +kernel) (pa_cons (pe_ix ix_tup (pv 0) pe_int (fun _ _ => rfl)) pa_nil))) pe_str) (pe_callTy call_str_int (by rfl) T.str (by decide +kernel) (pa_cons (pe_ix ix_tup (pv 0) pe_int (fun _ _ => rfl)) pa_nil))) pe_str) (pe_callTy call_str_int (by rfl) T.str (by decide +kernel) (pa_cons (pe_callTy call_int1 (by rfl) T.int (by decide +kernel) (pa_cons (pe_ix ix_tup (pv 0) pe_int (fun _ _ => rfl)) pa_nil)) pa_nil))) pe_str)))))), ?_⟩
    cases i with
    | gate nm c ps =>
      obtain ⟨a1, a2, a3⟩ := hi
      obtain ⟨a, xs, rfl, ha, hr⟩ := rep_tup hv
      obtain ⟨u0, r0, rfl, g0, hr0⟩ := hr.un
      obtain ⟨u1, r1, rfl, g1, hr1⟩ := hr0.un
      obtain ⟨u2, r2, rfl, g2, hr2⟩ := hr1.un
      obtain ⟨u3, r3, rfl, g3, hr3⟩ := hr2.un
      rw [rep_str g0, rep_str g1, rep_str g2, hr3.un0] at ha
      have lp := lstX_le (by decide) a3
      have ln := a1.2
      have lc := a2.2
      refine ⟨_, rfl, _, _, _, _, rfl, rfl, SqT.of ha, atI_nat (j := 0) rfl, rfl, _, rfl, iteY (decide_eq_true rfl) ?_⟩
      refine ⟨_, rfl, _, _, _, _, rfl, rfl, SqT.of ha, atI_nat (j := 1) rfl, _, _, rfl, rfl, ?_, _, _, rfl, rfl, ?_, _, rfl, _, _, _, _, rfl, rfl, SqT.of ha, atI_nat (j := 2) rfl, _, _, rfl, rfl, ?_, _, rfl, _, _, _, _, rfl, rfl, SqT.of ha, atI_nat (j := 3) rfl, u3, 3, ps, rfl, g3, by decide, a3, _, _, rfl, rfl, ?_, _, _, rfl, rfl, ?_, ?_⟩
      iterate 5 exact sz_of (by simp only [Str.length_append, mk_len]; first | (show 7 + _ ≤ _; omega) | (show 7 + _ + 3 ≤ _; omega) | (show 7 + _ + 3 + _ ≤ _; omega) | (show 7 + _ + 3 + _ + _ ≤ _; omega) | (show 7 + _ + 3 + _ + _ + 1 ≤ _; omega))
      have e : ("  gate " : Str) ++ mk nm ++ (" = " : Str) ++ mk c ++ mk (lstX ps) ++ (";" : Str) = ("  " : Str) ++ itemS (.gate nm c ps) ++ (";" : Str) := ext_tl (by unfold itemS; simp only [tl_append, List.append_assoc]; rfl)
      rw [← e] at q
      exact q
    | part nm os m ps =>
      obtain ⟨a1, a2, a3, a4⟩ := hi
      obtain ⟨a, xs, rfl, ha, hr⟩ := rep_tup hv
      obtain ⟨u0, r0, rfl, g0, hr0⟩ := hr.un
      obtain ⟨u1, r1, rfl, g1, hr1⟩ := hr0.un
      obtain ⟨u2, r2, rfl, g2, hr2⟩ := hr1.un
      obtain ⟨u3, r3, rfl, g3, hr3⟩ := hr2.un
      obtain ⟨u4, r4, rfl, g4, hr4⟩ := hr3.un
      rw [rep_str g0, rep_str g1, rep_str g3, hr4.un0] at ha
      have lo := lstX_le (by decide) a2
      have lp := lstX_le (by decide) a4
      have ln := a1.2
      have lc := a3.2
      refine ⟨_, rfl, _, _, _, _, rfl, rfl, SqT.of ha, atI_nat (j := 0) rfl, rfl, _, rfl, iteN (by decide +kernel) ?_⟩
      refine ⟨_, rfl, _, _, _, _, rfl, rfl, SqT.of ha, atI_nat (j := 0) rfl, rfl, _, rfl, iteY (decide_eq_true rfl) ?_⟩
      refine ⟨_, rfl, _, _, _, _, rfl, rfl, SqT.of ha, atI_nat (j := 1) rfl, _, _, rfl, rfl, ?_, _, _, rfl, rfl, ?_, _, rfl, _, _, _, _, rfl, rfl, SqT.of ha, atI_nat (j := 2) rfl, u2, 2, os, rfl, g2, by decide, a2, _, _, rfl, rfl, ?_, _, _, rfl, rfl, ?_, _, rfl, _, _, _, _, rfl, rfl, SqT.of ha, atI_nat (j := 3) rfl, _, _, rfl, rfl, ?_, _, rfl, _, _, _, _, rfl, rfl, SqT.of ha, atI_nat (j := 4) rfl, u4, 2, ps, rfl, g4, by decide, a4, _, _, rfl, rfl, ?_, _, _, rfl, rfl, ?_, ?_⟩
      iterate 7 exact sz_of (by simp only [Str.length_append, mk_len]; first | (show 7 + _ ≤ _; omega) | (show 7 + _ + 2 ≤ _; omega) | (show 7 + _ + 2 + _ ≤ _; omega) | (show 7 + _ + 2 + _ + 3 ≤ _; omega) | (show 7 + _ + 2 + _ + 3 + _ ≤ _; omega) | (show 7 + _ + 2 + _ + 3 + _ + _ ≤ _; omega) | (show 7 + _ + 2 + _ + 3 + _ + _ + 1 ≤ _; omega))
      have e : ("  part " : Str) ++ mk nm ++ (": " : Str) ++ mk (lstX os) ++ (" = " : Str) ++ mk m ++ mk (lstX ps) ++ (";" : Str) = ("  " : Str) ++ itemS (.part nm os m ps) ++ (";" : Str) := ext_tl (by unfold itemS; simp only [tl_append, List.append_assoc]; rfl)
      rw [← e] at q
      exact q
    | reg nm w e o st hd b =>
      obtain ⟨a1, a2, a3, a4, a5, a6⟩ := hi
      obtain ⟨a, xs, rfl, ha, hr⟩ := rep_tup hv
      obtain ⟨u0, r0, rfl, g0, hr0⟩ := hr.un
      obtain ⟨u1, r1, rfl, g1, hr1⟩ := hr0.un
      obtain ⟨u2, r2, rfl, g2, hr2⟩ := hr1.un
      obtain ⟨u3, r3, rfl, g3, hr3⟩ := hr2.un
      obtain ⟨u4, r4, rfl, g4, hr4⟩ := hr3.un
      obtain ⟨u5, r5, rfl, g5, hr5⟩ := hr4.un
      obtain ⟨u6, r6, rfl, g6, hr6⟩ := hr5.un
      obtain ⟨u7, r7, rfl, g7, hr7⟩ := hr6.un
      rw [rep_str g0, rep_str g1, rep_str g2, rep_int g5, rep_int g6, rep_bl g7, hr7.un0] at ha
      have le := rngX_le a3
      have lo := rngX_le a4
      have ln := a1.2
      have lc := a2.2
      have e0 : ∀ n : Nat, n < 1000000000 → (numL n).length ≤ 9 := fun n h => numL_len (by decide) h
      have l1 := e0 _ a5
      have l2 := e0 _ a6
      refine ⟨_, rfl, _, _, _, _, rfl, rfl, SqT.of ha, atI_nat (j := 0) rfl, rfl, _, rfl, iteN (by decide +kernel) ?_⟩
      refine ⟨_, rfl, _, _, _, _, rfl, rfl, SqT.of ha, atI_nat (j := 0) rfl, rfl, _, rfl, iteN (by decide +kernel) ?_⟩
      refine ⟨_, rfl, _, _, _, _, rfl, rfl, SqT.of ha, atI_nat (j := 1) rfl, _, _, rfl, rfl, ?_, _, _, rfl, rfl, ?_, _, rfl, _, _, _, _, rfl, rfl, SqT.of ha, atI_nat (j := 2) rfl, _, _, rfl, rfl, ?_, _, _, rfl, rfl, ?_, _, rfl, _, _, _, _, rfl, rfl, SqT.of ha, atI_nat (j := 3) rfl, u3, e, rfl, g3, a3, _, _, rfl, rfl, ?_, _, _, rfl, rfl, ?_, _, rfl, _, _, _, _, rfl, rfl, SqT.of ha, atI_nat (j := 4) rfl, u4, o, rfl, g4, a4, _, _, rfl, rfl, ?_, ?_⟩
      iterate 7 exact sz_of (by simp only [Str.length_append, mk_len]; first | (show 6 + _ ≤ _; omega) | (show 6 + _ + 3 ≤ _; omega) | (show 6 + _ + 3 + _ ≤ _; omega) | (show 6 + _ + 3 + _ + 6 ≤ _; omega) | (show 6 + _ + 3 + _ + 6 + _ ≤ _; omega) | (show 6 + _ + 3 + _ + 6 + _ + 5 ≤ _; omega) | (show 6 + _ + 3 + _ + 6 + _ + 5 + _ ≤ _; omega))
      generalize hA : ("  reg " : Str) ++ mk nm ++ (" = " : Str) ++ mk w ++ (" edge " : Str) ++ mk (rngX e) ++ (" out " : Str) ++ mk (rngX o) = AA at *
      have lA : AA.length ≤ 100 := by
        rw [← hA]
        simp only [Str.length_append, mk_len]
        show 6 + _ + 3 + _ + 6 + _ + 5 + _ ≤ _
        omega
      have lb : (Str.ofString (toString (if b = true then (1 : Int) else 0))).length ≤ 1 ∧ ((if b = true then (1 : Int) else 0)).natAbs.log2 < 1920 := by cases b <;> decide
      refine ⟨_, rfl, _, _, rfl, rfl, ?_, _, rfl, _, _, _, _, rfl, rfl, SqT.of ha, atI_nat (j := 5) rfl, _, rfl, log_ok5 a5, _, _, rfl, rfl, ?_, _, _, rfl, rfl, ?_, _, rfl, _, _, _, _, rfl, rfl, SqT.of ha, atI_nat (j := 6) rfl, _, rfl, log_ok5 a6, _, _, rfl, rfl, ?_, _, _, rfl, rfl, ?_, _, rfl, _, _, _, _, rfl, rfl, SqT.of ha, atI_nat (j := 7) rfl, .inr ⟨b, rfl, _, rfl, lb.2, _, _, rfl, rfl, ?_, _, _, rfl, rfl, ?_, ?_⟩⟩
      iterate 7 exact sz_of (by (try simp only [Str.length_append, str_nat5, mk_len]); first | (show AA.length + 7 ≤ _; omega) | (show AA.length + 7 + _ ≤ _; omega) | (show AA.length + 7 + _ + 6 ≤ _; omega) | (show AA.length + 7 + _ + 6 + _ ≤ _; omega) | (show AA.length + 7 + _ + 6 + _ + 7 ≤ _; omega) | (show AA.length + 7 + _ + 6 + _ + 7 + (Str.ofString (toString (if b = true then (1 : Int) else 0))).length ≤ _; omega) | (show AA.length + 7 + _ + 6 + _ + 7 + (Str.ofString (toString (if b = true then (1 : Int) else 0))).length + 1 ≤ _; omega))
      have e : AA ++ (" setup " : Str) ++ Str.ofString (toString ((st : Nat) : Int)) ++ (" hold " : Str) ++ Str.ofString (toString ((hd : Nat) : Int)) ++ (" start " : Str) ++ Str.ofString (toString (if b = true then (1 : Int) else 0)) ++ (";" : Str) = ("  " : Str) ++ itemS (.reg nm w e o st hd b) ++ (";" : Str) := ext_tl (by
        have eb : tl (Str.ofString (toString (if b = true then (1 : Int) else 0))) = tl (if b = true then ("1" : Str) else ("0" : Str)) := by cases b <;> decide
        rw [← hA]
        unfold itemS
        simp only [tl_append, List.append_assoc, str_nat5, eb]; rfl)
      rw [← e] at q
      exact q
end
end G
namespace G
open PySem PySem.Spec PyProof.Rows L2 Evl TL
section
variable {P : Program} {w : World} {K : PySem.W.Frag} {mg : Str → Option Value} {base : Heap}
def spLShow : Sp := fun vs H Q _ => ∃ (v : V) (d : DeckD), vs = [v] ∧ Rep H v d.dat ∧ GDeck d ∧ (∀ c ∈ d.cells, (shF c.tree).length ≤ 4000) ∧ (∀ s ∈ deckLs d, s.length ≤ 7000) ∧ ∀ H', Ex H H' → Q (.str (deckS d)) H'
theorem sc_law_show : FnScope ["deck", "lines", "cell", "told", "module", "line", "item"] ["deck"] (defScope s_law_show) := ⟨rfl, rfl, rfl, by decide +kernel, rfl, by decide +kernel, by decide +kernel⟩
theorem ok_law_show (D : Dfd K mg "_law_show" s_law_show ["deck"]) (C1 : Has P w K mg base 1 "_law_list" ["names"] spLstX) (C2 : Has P w K mg base 1 "_law_pair" ["pair"] spRngX) (C3 : Has P w K mg base 2 "_law_line" ["item"] spLineX)
    (C4 : Has P w K mg base 1 "_law_printed" ["tokens"] spPrinted) (C5 : Has P w K mg base 11 "_law_tokens" ["tree"] (spTokN (K := K) 5)) : Has P w K mg base 12 "_law_show" ["deck"] spLShow := by
  obtain ⟨f_law_list, d_law_list, G_law_list, g_law_list, k_law_list, b_law_list⟩ := C1
  obtain ⟨f_law_pair, d_law_pair, G_law_pair, g_law_pair, k_law_pair, b_law_pair⟩ := C2
  obtain ⟨f_law_line, d_law_line, G_law_line, g_law_line, k_law_line, b_law_line⟩ := C3
  obtain ⟨f_law_printed, d_law_printed, G_law_printed, g_law_printed, k_law_printed, b_law_printed⟩ := C4
  obtain ⟨f_law_tokens, d_law_tokens, G_law_tokens, g_law_tokens, k_law_tokens, b_law_tokens⟩ := C5
  refine D.has fun f fd F => F.ok sc_law_show (fun vs H Q E h => ?_) (fun cdv A outer s H vs Q E hr h => ?_)
  · obtain ⟨_, _, rfl, _⟩ := h
    rfl
  · obtain ⟨v, d, rfl, hv, hgd, hsf, hll, q⟩ := h
    refine ⟨_, (pss_cons (ps_set (i := 1) sc_law_show.nd rfl (.inl rfl) (pe_lst pa_nil))
    (pss_cons (ps_for PassesOwn.never rfl (pi_tup (pe_ix ix_tup (pv 0) pe_int (fun _ _ => rfl))) (pg_name (i := 2) sc_law_show.nd rfl (.inl rfl))
      (pss_cons (ps_expr (pe_bm PySem.F.plainAttrs_list PySem.F.slot_list_append PySem.F.type_list_append mt_append (pv 1) (pa_cons (pe_op op_add_str (pe_op op_add_str (pe_op op_add_str (pe_op op_add_str (pe_op op_add_str pe_str (pe_ix ix_tup (pv 2) pe_int (fun _ _ => rfl))) (pe_call G_law_list (hr.mono (by omega)) (by rfl) g_law_list k_law_list b_law_list .nil pass0 (pa_cons (pe_ix ix_tup (pv 2) pe_int (fun _ _ => rfl)) pa_nil))) pe_str) (pe_call G_law_printed (hr.mono (by omega)) (by rfl) g_law_printed k_law_printed b_law_printed .nil pass0 (pa_cons (pe_call G_law_tokens (hr.mono (by omega)) (by rfl) g_law_tokens k_law_tokens b_law_tokens .nil pass0 (pa_cons (pe_ix ix_tup (pv 2) pe_int (fun _ _ => rfl)) pa_nil)) pa_nil))) pe_str) pa_nil)))
      (pss_cons (ps_for PassesOwn.never rfl (pi_tup (pe_ix ix_tup (pv 2) pe_int (fun _ _ => rfl))) (pg_name (i := 3) sc_law_show.nd rfl (.inl rfl))
        (pss_one (ps_expr (pe_bm PySem.F.plainAttrs_list PySem.F.slot_list_append PySem.F.type_list_append mt_append (pv 1) (pa_cons (pe_op op_add_str (pe_op op_add_str (pe_op op_add_str (pe_op op_add_str pe_str (pe_ix ix_tup (pv 3) pe_int (fun _ _ => rfl))) pe_str) (pe_call G_law_pair (hr.mono (by omega)) (by rfl) g_law_pair k_law_pair b_law_pair .nil pass0 (pa_cons (pe_tup (pa_cons (pe_ix ix_tup (pv 3) pe_int (fun _ _ => rfl)) (pa_cons (pe_ix ix_tup (pv 3) pe_int (fun _ _ => rfl)) pa_nil))) pa_nil))) pe_str) pa_nil)))))
      (pss_one (ps_expr (pe_bm PySem.F.plainAttrs_list PySem.F.slot_list_append PySem.F.type_list_append mt_append (pv 1) (pa_cons pe_str pa_nil)))))))
    (pss_cons (ps_for PassesOwn.never rfl (pi_tup (pe_ix ix_tup (pv 0) pe_int (fun _ _ => rfl))) (pg_name (i := 4) sc_law_show.nd rfl (.inl rfl))
      (pss_cons (ps_expr (pe_bm PySem.F.plainAttrs_list PySem.F.slot_list_append PySem.F.type_list_append mt_append (pv 1) (pa_cons (pe_op op_add_str (pe_op op_add_str (pe_op op_add_str (pe_op op_add_str (pe_op op_add_str pe_str (pe_ix ix_tup (pv 4) pe_int (fun _ _ => rfl))) (pe_call G_law_list (hr.mono (by omega)) (by rfl) g_law_list k_law_list b_law_list .nil pass0 (pa_cons (pe_ix ix_tup (pv 4) pe_int (fun _ _ => rfl)) pa_nil))) pe_str) (pe_call G_law_list (hr.mono (by omega)) (by rfl) g_law_list k_law_list b_law_list .nil pass0 (pa_cons (pe_ix ix_tup (pv 4) pe_int (fun _ _ => rfl)) pa_nil))) pe_str) pa_nil)))
      (pss_one (ps_set (i := 1) sc_law_show.nd rfl (.inl rfl) (pe_op op_cat (pe_op op_cat (pv 1) (pe_lc (own := [("item", 6)]) (g := gName 6) (tt := tYes) rfl sc_law_show.nd (pi_tup (pe_ix ix_tup (pv 4) pe_int (fun _ _ => rfl))) (blkOk_by (N := ["deck", "lines", "cell", "told", "module", "line", "item"]) (sc := defScope s_law_show) (own := [("item", 6)]) (by decide +kernel)) (fun _ _ _ _ _ => (pg_name (i := 6) sc_law_show.nd rfl (.inl rfl))) (fun _ _ _ _ _ => pts_nil) (fun _ _ _ _ _ => (pe_call G_law_line (hr.mono (by omega)) (by rfl) g_law_line k_law_line b_law_line .nil pass0 (pa_cons (pv 6) pa_nil))))) (pe_lst (pa_cons pe_str pa_nil)))))))
    (pss_one (ps_ret (pe_join pe_str (pe_lc (own := [("line", 5)]) (g := gName 5) (tt := tYes) rfl sc_law_show.nd (pi_list (pv 1)) (blkOk_by (N := ["deck", "lines", "cell", "told", "module", "line", "item"]) (sc := defScope s_law_show) (own := [("line", 5)]) (by decide +kernel)) (fun _ _ _ _ _ => (pg_name (i := 5) sc_law_show.nd rfl (.inl rfl))) (fun _ _ _ _ _ => pts_nil) (fun _ _ _ _ _ => (pe_op op_add_str (pv 5) pe_str))))))))), ?_⟩
    have hcl := hgd.cl
    have hml := hgd.ml
    obtain ⟨a, xs, rfl, ha, hr⟩ := rep_tup hv
    obtain ⟨u0, r0, rfl, g0, hr0⟩ := hr.un
    obtain ⟨u1, r1, rfl, g1, hr1⟩ := hr0.un
    rw [hr1.un0] at ha
    obtain ⟨ac, xc, rfl, hac, hxc⟩ := rep_tup g0
    obtain ⟨am, xm, rfl, ham, hxm⟩ := rep_tup g1
    have hxcl : xc.length = d.cells.length := by rw [hxc.1, List.length_map]
    have hxml : xm.length = d.mods.length := by rw [hxm.1, List.length_map]
    have hc5 := flat_le5 (f := cellLs) (k := 5) d.cells fun c hc => cellLs_len (hgd.cs c hc)
    refine ⟨(by show 0 ≤ sizeLine; decide), fun L nL => ?_⟩
    have E1 := Ex.new (o := .lst []) nL
    have hL : (upd H L (.lst [])) L = some (.lst []) := upd_same
    generalize upd H L (.lst []) = H1 at *
    refine ⟨_, rfl, _, _, _, _, rfl, rfl, SqT.of (E1 _ _ ha), atI_nat (j := 0) rfl, ac, rfl, ⟨_, SqT.of (E1 _ _ hac)⟩, for_tup (K := K) (a := ac) (xs := xc)
      (fun i σ H' => Ex H H' ∧ H' L = some (.lst (((d.cells.take i).flatMap cellLs).map V.str)) ∧ ∃ z2 z3 z4 z5 z6 : Option V, σ = [some (.ref a), some (.ref L), z2, z3, z4, z5, z6])
      ⟨E1, hL, _, _, _, _, _, rfl⟩ (fun i σ H' _ g => SqT.of (g.1 _ _ hac)) ?_ ?_⟩
    · rintro i x σ H2 hx ⟨E2, hL2, z2, z3, z4, z5, z6, rfl⟩
      obtain ⟨c, hc, hxr⟩ := reps_map hxc hx
      have hgi := hgd.cs c (List.mem_of_getElem? hc)
      have hi := (List.getElem?_eq_some_iff.mp hc).1
      have l6 := flat_le5 (f := cellLs) (k := 5) (d.cells.take i) fun c hc => cellLs_len (hgd.cs c (List.mem_of_mem_take hc))
      rw [List.length_take] at l6
      have hsh := hsf c (List.mem_of_getElem? hc)
      have l1 := lstX_le (by decide) hgi.ps
      have ln := hgi.nm.2
      have hno : NamesOk c.tree := fun x hx => (hgi.tn x hx).1
      have htp := hgi.tp
      have hth := hgi.th
      have hrl := hgi.rl
      have htk : (tokF c.tree).length ≤ 160 := by have := tokF_len c.tree; omega
      have ht20 : ∀ T ∈ tokF c.tree, T.length ≤ 20 := fun T hT => (wr_tok (tokF_wr4 hno) (fun x hx => (hgi.tn x hx).2) T hT).2
      obtain ⟨ta, ys, rfl, hta, hyr⟩ := rep_tup hxr
      obtain ⟨w0, s0, rfl, k0, hs0⟩ := hyr.un
      obtain ⟨w1, s1, rfl, k1, hs1⟩ := hs0.un
      obtain ⟨w2, s2, rfl, k2, hs2⟩ := hs1.un
      obtain ⟨w3, s3, rfl, k3, hs3⟩ := hs2.un
      rw [rep_str k0, hs3.un0] at hta
      obtain ⟨at3, xt, rfl, hat, hxt⟩ := rep_tup k3
      have hxl : xt.length = c.rngs.length := by rw [hxt.1, List.length_map]
      refine ⟨_, rfl, .inl ⟨rfl, _, SqL.of hL2⟩, _, rfl, _, _, _, _, rfl, rfl, SqT.of (E2 _ _ hta), atI_nat (j := 0) rfl, _, _, rfl, rfl, ?_, _, rfl, _, _, _, _, rfl, rfl, SqT.of (E2 _ _ hta), atI_nat (j := 1) rfl, w1, 4, c.pins, rfl, k1.ex E2, by decide, hgi.ps, _, _, rfl, rfl, ?_, _, _, rfl, rfl, ?_, _, rfl, _, _, _, _, rfl, rfl, SqT.of (E2 _ _ hta), atI_nat (j := 2) rfl, w2, c.tree, rfl, (tree_rep (k2.ex E2)).at_, hth, by omega, fun H3 M E3 nM hM => ⟨M, tokF c.tree, rfl, hM, ht20, by omega, fun H4 E4 => ⟨_, _, rfl, rfl, ?_, _, _, rfl, rfl, ?_, L, _, _, rfl, rfl, E4 _ _ (E3 _ _ hL2), sz_lt ?_, ?_⟩⟩⟩
      iterate 5 exact sz_of (by simp only [Str.length_append, mk_len]; first | (show 5 + _ ≤ _; omega) | (show 5 + _ + _ ≤ _; omega) | (show 5 + _ + _ + 3 ≤ _; omega) | (show 5 + _ + _ + 3 + (shF c.tree).length ≤ _; omega) | (show 5 + _ + _ + 3 + (shF c.tree).length + 2 ≤ _; omega))
      · rw [List.length_map]; omega
      have hhd : ("cell " : Str) ++ mk c.name ++ mk (lstX c.pins) ++ (" = " : Str) ++ mk (flat (tokF c.tree)) ++ (" {" : Str) = ("cell " : Str) ++ mk c.name ++ mk (lstX c.pins) ++ (" = " : Str) ++ mk (shF c.tree) ++ (" {" : Str) := rfl
      generalize ehd : ("cell " : Str) ++ mk c.name ++ mk (lstX c.pins) ++ (" = " : Str) ++ mk (flat (tokF c.tree)) ++ (" {" : Str) = hd at *
      have E5 := Ex.mut (o := .lst (((d.cells.take i).flatMap cellLs).map V.str ++ [V.str hd])) (E2.trans (E3.trans E4)) nL
      have hL5 : (upd H4 L (.lst (((d.cells.take i).flatMap cellLs).map V.str ++ [V.str hd]))) L = some (.lst (((d.cells.take i).flatMap cellLs).map V.str ++ [V.str hd])) := upd_same
      generalize upd H4 L (.lst (((d.cells.take i).flatMap cellLs).map V.str ++ [V.str hd])) = H5 at *
      refine ⟨_, rfl, _, _, _, _, rfl, rfl, SqT.of (E5 _ _ hta), atI_nat (j := 3) rfl, at3, rfl, ⟨_, SqT.of (E5 _ _ hat)⟩, for_tup (K := K) (a := at3) (xs := xt)
        (fun j σ H' => Ex H H' ∧ H' L = some (.lst (((d.cells.take i).flatMap cellLs ++ (hd :: (c.rngs.take j).map pinS)).map V.str)) ∧ ∃ z3 z4 z5 z6 : Option V, σ = [some (.ref a), some (.ref L), some (.ref ta), z3, z4, z5, z6])
        ⟨E5, by rw [hL5]; simp, _, _, _, _, rfl⟩ (fun j σ H' _ g => SqT.of (g.1 _ _ hat)) ?_ ?_⟩
      · rintro j y σ H6 hy ⟨E6, hL6, z3, z4, z5, z6, rfl⟩
        obtain ⟨it, hit, hyr⟩ := reps_map hxt hy
        have hgp := hgi.rg it (List.mem_of_getElem? hit)
        have hj := (List.getElem?_eq_some_iff.mp hit).1
        have li := hgp.1.2
        have lr := rngX_le hgp.2
        obtain ⟨tb, zs, rfl, htb, hzr⟩ := rep_tup hyr
        obtain ⟨p0, t0, rfl, m0, ht0⟩ := hzr.un
        obtain ⟨p1, t1, rfl, m1, ht1⟩ := ht0.un
        obtain ⟨p2, t2, rfl, m2, ht2⟩ := ht1.un
        rw [rep_str m0, rep_int m1, rep_int m2, ht2.un0] at htb
        refine ⟨_, rfl, .inl ⟨rfl, _, SqL.of hL6⟩, _, rfl, _, _, _, _, rfl, rfl, SqT.of (E6 _ _ htb), atI_nat (j := 0) rfl, _, _, rfl, rfl, ?_, _, _, rfl, rfl, ?_, _, rfl, _, _, _, _, rfl, rfl, SqT.of (E6 _ _ htb), atI_nat (j := 1) rfl, _, rfl, _, _, _, _, rfl, rfl, SqT.of (E6 _ _ htb), atI_nat (j := 2) rfl, (by show 2 ≤ sizeLine; decide), fun y ny => ?_⟩
        · exact sz_of (by simp only [mk_len]; show 6 + _ ≤ _; omega)
        · exact sz_of (by simp only [Str.length_append, mk_len]; show 6 + _ + 1 ≤ _; omega)
        have E7 := Ex.new (o := .tup [.int (it.2.1 : Nat), .int (it.2.2 : Nat)]) ny
        have hy7 : (upd H6 y (.tup [.int (it.2.1 : Nat), .int (it.2.2 : Nat)])) y = some (.tup [.int (it.2.1 : Nat), .int (it.2.2 : Nat)]) := upd_same
        generalize upd H6 y (.tup [.int (it.2.1 : Nat), .int (it.2.2 : Nat)]) = H7 at *
        refine ⟨_, it.2, rfl, Reps.tup (.cons (.int _) (.cons (.int _) .nil)) hy7, hgp.2, _, _, rfl, rfl, ?_, _, _, rfl, rfl, ?_, L, _, _, rfl, rfl, E7 _ _ hL6, sz_lt ?_, Ex.mut (E6.trans E7) nL, ?_, _, _, _, _, rfl⟩
        · exact sz_of (by simp only [Str.length_append, mk_len]; show 6 + _ + 1 + _ ≤ _; omega)
        · exact sz_of (by simp only [Str.length_append, mk_len]; show 6 + _ + 1 + _ + 1 ≤ _; omega)
        · rw [List.length_map, List.length_append, List.length_cons, List.length_map, List.length_take]; omega
        · rw [upd_same, take_at hit, List.map_append]
          simp [pinS]
      · rintro σ H6 ⟨E6, hL6, z3, z4, z5, z6, rfl⟩
        rw [hxl, List.take_length] at hL6
        refine ⟨_, rfl, .inl ⟨rfl, _, SqL.of hL6⟩, _, _, _, rfl, rfl, hL6, sz_lt ?_, Ex.mut E6 nL, ?_, _, _, _, _, _, rfl⟩
        · rw [List.length_map, List.length_append, List.length_cons, List.length_map]; omega
        · have ecl : cellLs c = hd :: (c.rngs.map pinS ++ [("}" : Str)]) := by rw [hhd]; rfl
          rw [upd_same, take_at hc, List.flatMap_append, show [c].flatMap cellLs = cellLs c from by simp, ecl]
          simp
    rintro σ H2 ⟨E2, hL2, z2, z3, z4, z5, z6, rfl⟩
    rw [hxcl, List.take_length] at hL2
    refine ⟨_, rfl, _, _, _, _, rfl, rfl, SqT.of (E2 _ _ ha), atI_nat (j := 1) rfl, am, rfl, ⟨_, SqT.of (E2 _ _ ham)⟩, for_tup (K := K) (a := am) (xs := xm)
      (fun i σ H' => Ex H H' ∧ ∃ L' : Addr, H L' = none ∧ H' L' = some (.lst ((d.cells.flatMap cellLs ++ (d.mods.take i).flatMap modLs).map V.str)) ∧ ∃ z2 z3 z4 z5 z6 : Option V, σ = [some (.ref a), some (.ref L'), z2, z3, z4, z5, z6])
      ⟨E2, L, nL, by rw [List.take_zero, List.flatMap_nil, List.append_nil]; exact hL2, _, _, _, _, _, rfl⟩ (fun i σ H' _ g => SqT.of (g.1 _ _ ham)) ?_ ?_⟩
    · rintro i x σ H3 hx ⟨E3, L', nL', hL3, z2, z3, z4, z5, z6, rfl⟩
      obtain ⟨m, hm, hxr⟩ := reps_map hxm hx
      have hgi := hgd.ms m (List.mem_of_getElem? hm)
      have hi := (List.getElem?_eq_some_iff.mp hm).1
      have l6 := flat_le5 (f := modLs) (k := 6) (d.mods.take i) fun c hc => modLs_len (hgd.ms c (List.mem_of_mem_take hc))
      rw [List.length_take] at l6
      have hil := hgi.il
      have l1 := lstX_le (by decide) hgi.is
      have l2 := lstX_le (by decide) hgi.os
      have ln := hgi.nm.2
      obtain ⟨ta, ys, rfl, hta, hyr⟩ := rep_tup hxr
      obtain ⟨w0, s0, rfl, k0, hs0⟩ := hyr.un
      obtain ⟨w1, s1, rfl, k1, hs1⟩ := hs0.un
      obtain ⟨w2, s2, rfl, k2, hs2⟩ := hs1.un
      obtain ⟨w3, s3, rfl, k3, hs3⟩ := hs2.un
      rw [rep_str k0, hs3.un0] at hta
      obtain ⟨at3, xt, rfl, hat, hxt⟩ := rep_tup k3
      have hxl : xt.length = m.items.length := by rw [hxt.1, List.length_map]
      refine ⟨_, rfl, .inl ⟨rfl, _, SqL.of hL3⟩, _, rfl, _, _, _, _, rfl, rfl, SqT.of (E3 _ _ hta), atI_nat (j := 0) rfl, _, _, rfl, rfl, ?_, _, rfl, _, _, _, _, rfl, rfl, SqT.of (E3 _ _ hta), atI_nat (j := 1) rfl, w1, 3, m.ins, rfl, k1.ex E3, by decide, hgi.is, _, _, rfl, rfl, ?_, _, _, rfl, rfl, ?_, _, rfl, _, _, _, _, rfl, rfl, SqT.of (E3 _ _ hta), atI_nat (j := 2) rfl, w2, 3, m.outs, rfl, k2.ex E3, by decide, hgi.os, _, _, rfl, rfl, ?_, _, _, rfl, rfl, ?_, L', _, _, rfl, rfl, hL3, sz_lt ?_, ?_⟩
      iterate 5 exact sz_of (by simp only [Str.length_append, mk_len]; first | (show 7 + _ ≤ _; omega) | (show 7 + _ + _ ≤ _; omega) | (show 7 + _ + _ + 4 ≤ _; omega) | (show 7 + _ + _ + 4 + _ ≤ _; omega) | (show 7 + _ + _ + 4 + _ + 2 ≤ _; omega))
      · rw [List.length_map, List.length_append]; omega
      generalize ehd : ("module " : Str) ++ mk m.name ++ mk (lstX m.ins) ++ (" -> " : Str) ++ mk (lstX m.outs) ++ (" {" : Str) = hd at *
      have E5 := Ex.mut (o := .lst ((d.cells.flatMap cellLs ++ (d.mods.take i).flatMap modLs).map V.str ++ [V.str hd])) E3 nL'
      have hL5 : (upd H3 L' (.lst ((d.cells.flatMap cellLs ++ (d.mods.take i).flatMap modLs).map V.str ++ [V.str hd]))) L' = some (.lst ((d.cells.flatMap cellLs ++ (d.mods.take i).flatMap modLs).map V.str ++ [V.str hd])) := upd_same
      generalize upd H3 L' (.lst ((d.cells.flatMap cellLs ++ (d.mods.take i).flatMap modLs).map V.str ++ [V.str hd])) = H5 at *
      refine ⟨_, rfl, _, rfl, _, _, _, _, rfl, rfl, SqT.of (E5 _ _ hta), atI_nat (j := 3) rfl, at3, rfl, ⟨_, SqT.of (E5 _ _ hat)⟩, fun S nS => wk_tup (K := K) (a := at3) (xs := xt)
        (fun k H' => Ex H5 H' ∧ H' S = some (.lst (((m.items.take k).map fun i => ("  " : Str) ++ itemS i ++ (";" : Str)).map V.str))) ⟨Ex.new nS, upd_same⟩ (fun k H' _ g => SqT.of (g.1 _ _ (E5 _ _ hat))) ?_ ?_⟩
      · rintro k y H6 hy ⟨E6, hS⟩
        obtain ⟨it, hit, hyr⟩ := reps_map hxt hy
        have hgp := hgi.it it (List.mem_of_getElem? hit)
        have hk := (List.getElem?_eq_some_iff.mp hit).1
        refine ⟨rfl, tYes_in ?_⟩
        simp only [wipe, _root_.L2.start, List.map_cons, List.map_nil, List.length_cons, List.length_nil, Nat.reduceAdd, Nat.reduceSub, List.replicate_succ, List.replicate_zero, List.cons_append, List.nil_append, List.set_cons_zero, List.set_cons_succ]
        refine ⟨_, rfl, y, it, rfl, (hyr.ex E5).ex E6, hgp, _, hS, sz_lt ?_, Ex.mut E6 nS, ?_⟩
        · rw [List.length_map, List.length_map, List.length_take]; omega
        · rw [upd_same, take_at hit]
          simp
      · rintro H6 ⟨E6, hS⟩
        rw [hxl, List.take_length] at hS
        refine ⟨L', S, _, _, rfl, rfl, E6 _ _ hL5, hS, ?_, fun N nN => ?_⟩
        · exact sz_of (by rw [List.length_append, List.length_map, List.length_map, List.length_map, List.length_append]; show _ + 1 + _ ≤ _; omega)
        refine ⟨(by show 1 ≤ sizeLine; decide), fun M nM => ?_⟩
        have E7 := Ex.new (o := .lst ((d.cells.flatMap cellLs ++ (d.mods.take i).flatMap modLs).map V.str ++ [V.str hd] ++ (m.items.map fun i => ("  " : Str) ++ itemS i ++ (";" : Str)).map V.str)) nN
        have E8 := Ex.new (o := .lst [V.str "}"]) nM
        refine ⟨N, M, _, _, rfl, rfl, E8 _ _ upd_same, upd_same, ?_, fun R nR => ?_⟩
        · exact sz_of (by rw [List.length_append, List.length_append, List.length_map, List.length_map, List.length_map, List.length_append]; show _ + 1 + _ + 1 ≤ _; omega)
        have E9 := (E5.trans E6).trans (E7.trans E8)
        refine ⟨E9.trans (Ex.new nR), R, frb E9 nR, ?_, _, _, _, _, _, rfl⟩
        have ecl : modLs m = hd :: ((m.items.map fun i => ("  " : Str) ++ itemS i ++ (";" : Str)) ++ [("}" : Str)]) := by rw [← ehd]; rfl
        rw [upd_same, take_at hm, List.flatMap_append, show [m].flatMap modLs = modLs m from by simp, ecl]
        simp
    · rintro σ H3 ⟨E3, L', nL', hL3, z2, z3, z4, z5, z6, rfl⟩
      rw [hxml, List.take_length] at hL3
      have hL3 : H3 L' = some (.lst ((deckLs d).map V.str)) := hL3
      have l6 := flat_le5 (f := modLs) (k := 6) d.mods fun c hc => modLs_len (hgd.ms c hc)
      have hdl : (deckLs d).length ≤ 33 := by
        unfold deckLs
        rw [List.length_append]; omega
      refine ⟨⟨_, rfl⟩, _, rfl, L', rfl, ⟨_, SqL.of hL3⟩, fun S nS => wk_list (K := K) (a := L') (xs := (deckLs d).map V.str)
        (fun k H2 => Ex H3 H2 ∧ H2 S = some (.lst ((((deckLs d).take k).map fun s => s ++ ("\n" : Str)).map V.str))) ⟨Ex.new nS, upd_same⟩ (fun k H2 _ g => SqL.of (g.1 _ _ hL3)) ?_ ?_⟩
      · rintro k y H4 hy ⟨E4, hS⟩
        rw [List.getElem?_map] at hy
        obtain ⟨s, hs, rfl⟩ := Option.map_eq_some_iff.mp hy
        have hsl := hll s (List.mem_of_getElem? hs)
        refine ⟨rfl, tYes_in ?_⟩
        simp only [wipe, _root_.L2.start, List.map_cons, List.map_nil, List.length_cons, List.length_nil, Nat.reduceAdd, Nat.reduceSub, List.replicate_succ, List.replicate_zero, List.cons_append, List.nil_append, List.set_cons_zero, List.set_cons_succ]
        refine ⟨_, rfl, _, _, rfl, rfl, ?_, _, hS, sz_lt ?_, Ex.mut E4 nS, ?_⟩
        · exact sz_of (by show _ + 1 ≤ _; omega)
        · rw [List.length_map, List.length_map, List.length_take]; omega
        · rw [upd_same, take_at hs]
          simp
      · rintro H4 ⟨E4, hS⟩
        rw [List.length_map, List.take_length] at hS
        refine ⟨_, S, (deckLs d).map fun s => s ++ ("\n" : Str), rfl, rfl, .inl (SqL.of hS), ?_, q _ (E3.trans E4)⟩
        have h1 := sum_le (g := fun x : Str => x.length) (m := 7001) ((deckLs d).map fun s => s ++ ("\n" : Str)) fun x hx => by
          obtain ⟨s, hs, rfl⟩ := List.mem_map.mp hx
          have := hll s hs
          rw [Str.length_append]
          show _ + 1 ≤ _
          omega
        have e1 : ("" : Str).length = 0 := rfl
        rw [e1, Nat.mul_zero]
        rw [List.length_map] at h1
        have : (deckLs d).length * 7001 ≤ 33 * 7001 := Nat.mul_le_mul_right _ hdl
        omega
end
end G
namespace G
open PySem PySem.Spec PyProof.Rows L2 Evl TL
/-! ## the text of a deck is a text of its tokens -/
theorem joinL_nil : ∀ ps : List (List Nat), joinL [] ps = ps.flatten
  | [] => rfl
  | [p] => by show p = _; simp
  | p :: q :: r => by
    show p ++ ([] ++ joinL [] (q :: r)) = _
    rw [joinL_nil (q :: r)]; simp
def nlX (s : Str) : List Nat := tl s ++ [10]
theorem tl_deckS (d : DeckD) : tl (deckS d) = (deckLs d).flatMap nlX := by
  unfold deckS
  rw [join_tl, List.map_map]
  have e : tl ("" : Str) = [] := rfl
  rw [e, joinL_nil, List.flatMap_def]
  congr 1
  exact List.map_congr_left fun s _ => by
    show tl (s ++ ("\n" : Str)) = _
    rw [tl_append]; rfl
theorem joinC : ∀ (x : List Nat) (r : List (List Nat)), joinL [44, 32] (x :: r) = x ++ r.flatMap fun y => 44 :: 32 :: y
  | x, [] => by show x = _; simp
  | x, y :: r => by
    show x ++ ([44, 32] ++ joinL [44, 32] (y :: r)) = _
    rw [joinC y r]; simp
theorem name_run {x : List Nat} (h : isName x = true) : RunTok x := by
  unfold isName at h
  rw [Bool.and_eq_true] at h
  exact word_run h.1
theorem kw_run {s : Str} (h : s ∈ kwds) : RunTok (tl s) := word_run (kw_facts s h).1
theorem n_run {n : Nat} (h : n < 1000000000) : RunTok (numL n) := num_run (isNum_num h)
theorem sgns_t : SgnTok [61] ∧ SgnTok [58] ∧ SgnTok [59] ∧ SgnTok [123] ∧ SgnTok [125] ∧ SgnTok [45, 62] ∧ SgnTok [46, 46] ∧ SgnTok [40] ∧ SgnTok [41] ∧ SgnTok [44] := by
  unfold SgnTok
  decide +kernel
theorem nr32 {S : List Nat} : NoRun (32 :: S) := norun_cons (by decide +kernel)
theorem nr10 {S : List Nat} : NoRun (10 :: S) := norun_cons (by decide +kernel)
theorem nr58 {S : List Nat} : NoRun (58 :: S) := norun_cons (by decide +kernel)
theorem nr59 {S : List Nat} : NoRun (59 :: S) := norun_cons (by decide +kernel)
theorem nr40 {S : List Nat} : NoRun (40 :: S) := norun_cons (by decide +kernel)
theorem nr41 {S : List Nat} : NoRun (41 :: S) := norun_cons (by decide +kernel)
theorem nr44 {S : List Nat} : NoRun (44 :: S) := norun_cons (by decide +kernel)
theorem nr46 {S : List Nat} : NoRun (46 :: S) := norun_cons (by decide +kernel)
theorem lxb {S : List Nat} {us : List (List Nat)} (h : Lx S us) : Lx (32 :: S) us := .sp (.inl rfl) h
theorem lxn {S : List Nat} {us : List (List Nat)} (h : Lx S us) : Lx (10 :: S) us := .sp (.inr rfl) h
theorem rest_lx : ∀ {r : List (List Nat)} {S : List Nat} {us : List (List Nat)}, NmsOk r → NoRun S → Lx S us → Lx ((r.flatMap fun y => 44 :: 32 :: y) ++ S) (restT r ++ us) ∧ NoRun ((r.flatMap fun y => 44 :: 32 :: y) ++ S)
  | [], S, us, _, hn, h => ⟨h, hn⟩
  | y :: r, S, us, hr, hn, h => by
    obtain ⟨i1, i2⟩ := rest_lx (fun x hx => hr x (List.mem_cons_of_mem _ hx)) hn h
    have e : ((y :: r).flatMap fun y => 44 :: 32 :: y) ++ S = [44] ++ (32 :: (y ++ ((r.flatMap fun y => 44 :: 32 :: y) ++ S))) := by
      rw [List.flatMap_cons]; simp
    have e2 : restT (y :: r) ++ us = [44] :: (y :: (restT r ++ us)) := rfl
    rw [e, e2]
    exact ⟨.sgn sgns_t.2.2.2.2.2.2.2.2.2 (lxb (.run (name_run (hr y (List.mem_cons_self ..))) i2 i1)), nr44⟩
theorem list_lx {l : List (List Nat)} {S : List Nat} {us : List (List Nat)} (hl : NmsOk l) (h : Lx S us) : Lx (lstX l ++ S) (listT l ++ us) := by
  obtain ⟨_, _, _, _, _, _, _, s8, s9, _⟩ := sgns_t
  cases l with
  | nil => exact .sgn (T := [40]) s8 (.sgn (T := [41]) s9 h)
  | cons x r =>
    have h9 : Lx ([41] ++ S) ([41] :: us) := .sgn s9 h
    obtain ⟨i1, i2⟩ := rest_lx (r := r) (fun y hy => hl y (List.mem_cons_of_mem _ hy)) (nr41 (S := S)) h9
    have e : lstX (x :: r) ++ S = [40] ++ (x ++ ((r.flatMap fun y => 44 :: 32 :: y) ++ (41 :: S))) := by
      unfold lstX
      rw [joinC]; simp
    have e2 : listT (x :: r) ++ us = [40] :: (x :: (restT r ++ ([41] :: us))) := by simp [listT]
    rw [e, e2]
    exact .sgn s8 (.run (name_run (hl x (List.mem_cons_self ..))) i2 i1)
theorem nr_list {l : List (List Nat)} {S : List Nat} : NoRun (lstX l ++ S) := by
  show NoRun (40 :: _)
  exact nr40
theorem range_lx {p : Nat × Nat} {S : List Nat} {us : List (List Nat)} (hp : RgOk p) (hn : NoRun S) (h : Lx S us) : Lx (rngX p ++ S) (rangeT p ++ us) := by
  have e : rngX p ++ S = numL p.1 ++ ([46, 46] ++ (numL p.2 ++ S)) := by unfold rngX; simp
  rw [e]
  exact .run (n_run hp.1) nr46 (.sgn sgns_t.2.2.2.2.2.2.1 (.run (n_run hp.2) hn h))
theorem bit_run (b : Bool) : RunTok (bitT b) := by
  cases b with
  | true => exact n_run (n := 1) (by decide)
  | false => exact n_run (n := 0) (by decide)
theorem item_lx {i : ItemD} {S : List Nat} {us : List (List Nat)} (hi : ItemOk i) (h : Lx S us) : Lx (nlX (("  " : Str) ++ itemS i ++ (";" : Str)) ++ S) (itemT i ++ us) := by
  obtain ⟨s61, s58, s59, _⟩ := sgns_t
  have h0 : Lx ([59] ++ (10 :: S)) ([59] :: us) := .sgn s59 (lxn h)
  cases i with
  | gate n c ps =>
    obtain ⟨a1, a2, a3⟩ := hi
    have e : nlX (("  " : Str) ++ itemS (.gate n c ps) ++ (";" : Str)) ++ S = 32 :: 32 :: (wGate ++ (32 :: (n ++ (32 :: ([61] ++ (32 :: (c ++ (lstX ps ++ ([59] ++ (10 :: S)))))))))) := by
      unfold nlX itemS
      simp only [tl_append, List.append_assoc]; rfl
    have e2 : itemT (.gate n c ps) ++ us = wGate :: n :: [61] :: c :: (listT ps ++ ([59] :: us)) := by simp [itemT]
    rw [e, e2]
    exact lxb (lxb (.run (kw_run (s := "gate") (by decide +kernel)) nr32 (lxb (.run (name_run a1) nr32 (lxb (.sgn s61 (lxb (.run (name_run a2) nr_list (list_lx a3 h0)))))))))
  | part n os m ps =>
    obtain ⟨a1, a2, a3, a4⟩ := hi
    have e : nlX (("  " : Str) ++ itemS (.part n os m ps) ++ (";" : Str)) ++ S = 32 :: 32 :: (wPart ++ (32 :: (n ++ ([58] ++ (32 :: (lstX os ++ (32 :: ([61] ++ (32 :: (m ++ (lstX ps ++ ([59] ++ (10 :: S))))))))))))) := by
      unfold nlX itemS
      simp only [tl_append, List.append_assoc]; rfl
    have e2 : itemT (.part n os m ps) ++ us = wPart :: n :: [58] :: (listT os ++ ([61] :: m :: (listT ps ++ ([59] :: us)))) := by simp [itemT]
    rw [e, e2]
    exact lxb (lxb (.run (kw_run (s := "part") (by decide +kernel)) nr32 (lxb (.run (name_run a1) nr58 (.sgn s58 (lxb (list_lx a2 (lxb (.sgn s61 (lxb (.run (name_run a3) nr_list (list_lx a4 h0))))))))))))
  | reg n w e o s hh b =>
    obtain ⟨a1, a2, a3, a4, a5, a6⟩ := hi
    have eb : tl (if b = true then ("1" : Str) else ("0" : Str)) = bitT b := by cases b <;> rfl
    have e1 : nlX (("  " : Str) ++ itemS (.reg n w e o s hh b) ++ (";" : Str)) ++ S = 32 :: 32 :: (wReg ++ (32 :: (n ++ (32 :: ([61] ++ (32 :: (w ++ (32 :: (wEdge ++ (32 :: (rngX e ++ (32 :: (wOut ++ (32 :: (rngX o ++ (32 :: (wSetup ++ (32 :: (numL s ++ (32 :: (wHold ++ (32 :: (numL hh ++ (32 :: (wStart ++ (32 :: (bitT b ++ ([59] ++ (10 :: S))))))))))))))))))))))))))))) := by
      unfold nlX itemS
      simp only [tl_append, List.append_assoc, eb]; rfl
    have e2 : itemT (.reg n w e o s hh b) ++ us = wReg :: n :: [61] :: w :: wEdge :: (rangeT e ++ (wOut :: (rangeT o ++ (wSetup :: numL s :: wHold :: numL hh :: wStart :: bitT b :: [59] :: us)))) := by simp [itemT]
    rw [e1, e2]
    exact lxb (lxb (.run (kw_run (s := "reg") (by decide +kernel)) nr32 (lxb (.run (name_run a1) nr32 (lxb (.sgn s61 (lxb (.run (name_run a2) nr32 (lxb (.run (kw_run (s := "edge") (by decide +kernel)) nr32 (lxb (range_lx a3 nr32 (lxb (.run (kw_run (s := "out") (by decide +kernel)) nr32 (lxb (range_lx a4 nr32 (lxb (.run (kw_run (s := "setup") (by decide +kernel)) nr32 (lxb (.run (n_run a5) nr32 (lxb (.run (kw_run (s := "hold") (by decide +kernel)) nr32 (lxb (.run (n_run a6) nr32 (lxb (.run (kw_run (s := "start") (by decide +kernel)) nr32 (lxb (.run (bit_run b) nr59 h0))))))))))))))))))))))))))))
theorem pin_lx {x : List Nat × Nat × Nat} {S : List Nat} {us : List (List Nat)} (h1 : isName x.1 = true) (h2 : RgOk x.2) (h : Lx S us) : Lx (nlX (pinS x) ++ S) (pinT x ++ us) := by
  have e : nlX (pinS x) ++ S = 32 :: 32 :: (wPin ++ (32 :: (x.1 ++ (32 :: (rngX x.2 ++ ([59] ++ (10 :: S))))))) := by
    unfold nlX pinS
    simp only [tl_append, List.append_assoc]; rfl
  have e2 : pinT x ++ us = wPin :: x.1 :: (rangeT x.2 ++ ([59] :: us)) := by simp [pinT]
  rw [e, e2]
  exact lxb (lxb (.run (kw_run (s := "pin") (by decide +kernel)) nr32 (lxb (.run (name_run h1) nr32 (lxb (range_lx h2 nr59 (.sgn sgns_t.2.2.1 (lxn h))))))))
theorem all_lx {α : Type} {f : α → List Nat} {g : α → List (List Nat)} : ∀ {l : List α} {S : List Nat} {us : List (List Nat)}, (∀ x ∈ l, ∀ S us, Lx S us → Lx (f x ++ S) (g x ++ us)) → Lx S us → Lx (l.flatMap f ++ S) (l.flatMap g ++ us)
  | [], _, _, _, h => h
  | x :: l, S, us, hx, h => by
    rw [List.flatMap_cons, List.flatMap_cons, List.append_assoc, List.append_assoc]
    exact hx x (List.mem_cons_self ..) _ _ (all_lx (fun y hy => hx y (List.mem_cons_of_mem _ hy)) h)
theorem cell_lx {c : CellD} {S : List Nat} {us : List (List Nat)} (hc : GCell c) (h : Lx S us) : Lx ((cellLs c).flatMap nlX ++ S) (cellT c (tokF c.tree) ++ us) := by
  obtain ⟨s61, _, _, s123, s125, _⟩ := sgns_t
  have hno : NamesOk c.tree := fun x hx => (hc.tn x hx).1
  have h0 : Lx ([125] ++ (10 :: S)) ([125] :: us) := .sgn s125 (lxn h)
  have h1 := all_lx (f := fun x => nlX (pinS x)) (g := pinT) (l := c.rngs) (fun x hx S us h => pin_lx (hc.rg x hx).1.1 (hc.rg x hx).2 h) h0
  have h2 := lxn h1
  have h3 : Lx ([123] ++ (10 :: _)) _ := .sgn s123 h2
  have h4 := flat_lx (ts := tokF c.tree) (wr_adj (tokF_wr4 hno)) (fun T hT => (wr_tok (tokF_wr4 hno) (fun x hx => (hc.tn x hx).2) T hT).1) nr32 (lxb h3)
  have e : (cellLs c).flatMap nlX ++ S = wCell ++ (32 :: (c.name ++ (lstX c.pins ++ (32 :: ([61] ++ (32 :: (flat (tokF c.tree) ++ (32 :: ([123] ++ (10 :: ((c.rngs.flatMap fun x => nlX (pinS x)) ++ ([125] ++ (10 :: S))))))))))))) := by
    unfold cellLs
    rw [List.flatMap_cons, List.flatMap_append, List.flatMap_map]
    have en : nlX (("cell " : Str) ++ mk c.name ++ mk (lstX c.pins) ++ (" = " : Str) ++ mk (shF c.tree) ++ (" {" : Str)) = wCell ++ (32 :: (c.name ++ (lstX c.pins ++ (32 :: ([61] ++ (32 :: (flat (tokF c.tree) ++ (32 :: ([123] ++ [10]))))))))) := by
      unfold nlX
      simp only [tl_append, List.append_assoc]; rfl
    have eb : [("}" : Str)].flatMap nlX = [125, 10] := rfl
    rw [en, eb]
    simp
  have e2 : cellT c (tokF c.tree) ++ us = wCell :: c.name :: (listT c.pins ++ ([61] :: (tokF c.tree ++ ([123] :: (c.rngs.flatMap pinT ++ ([125] :: us)))))) := by simp [cellT]
  rw [e, e2]
  exact .run (kw_run (s := "cell") (by decide +kernel)) nr32 (lxb (.run (name_run hc.nm.1) nr_list (list_lx (fun x hx => (hc.ps.2 x hx).1) (lxb (.sgn s61 (lxb h4))))))
theorem g_itemk {i : ItemD} (h : GItem i) : ItemOk i := by
  cases i with
  | gate n c ps => exact ⟨h.1.1, h.2.1.1, fun x hx => (h.2.2.2 x hx).1⟩
  | part n os m ps => exact ⟨h.1.1, fun x hx => (h.2.1.2 x hx).1, h.2.2.1.1, fun x hx => (h.2.2.2.2 x hx).1⟩
  | reg n w e o s hh b => exact ⟨h.1.1, h.2.1.1, h.2.2.1, h.2.2.2.1, h.2.2.2.2.1, h.2.2.2.2.2⟩
theorem mod_lx {m : ModD} {S : List Nat} {us : List (List Nat)} (hc : GMod m) (h : Lx S us) : Lx ((modLs m).flatMap nlX ++ S) (modT m ++ us) := by
  obtain ⟨_, _, _, s123, s125, s4562, _⟩ := sgns_t
  have h0 : Lx ([125] ++ (10 :: S)) ([125] :: us) := .sgn s125 (lxn h)
  have h1 := all_lx (f := fun i => nlX (("  " : Str) ++ itemS i ++ (";" : Str))) (g := itemT) (l := m.items) (fun x hx S us h => item_lx (g_itemk (hc.it x hx)) h) h0
  have h2 := lxn h1
  have h3 : Lx ([123] ++ (10 :: _)) _ := .sgn s123 h2
  have e : (modLs m).flatMap nlX ++ S = wModule ++ (32 :: (m.name ++ (lstX m.ins ++ (32 :: ([45, 62] ++ (32 :: (lstX m.outs ++ (32 :: ([123] ++ (10 :: ((m.items.flatMap fun i => nlX (("  " : Str) ++ itemS i ++ (";" : Str))) ++ ([125] ++ (10 :: S))))))))))))) := by
    unfold modLs
    rw [List.flatMap_cons, List.flatMap_append, List.flatMap_map]
    have en : nlX (("module " : Str) ++ mk m.name ++ mk (lstX m.ins) ++ (" -> " : Str) ++ mk (lstX m.outs) ++ (" {" : Str)) = wModule ++ (32 :: (m.name ++ (lstX m.ins ++ (32 :: ([45, 62] ++ (32 :: (lstX m.outs ++ (32 :: ([123] ++ [10]))))))))) := by
      unfold nlX
      simp only [tl_append, List.append_assoc]; rfl
    have eb : [("}" : Str)].flatMap nlX = [125, 10] := rfl
    rw [en, eb]
    simp
  have e2 : modT m ++ us = wModule :: m.name :: (listT m.ins ++ ([45, 62] :: (listT m.outs ++ ([123] :: (m.items.flatMap itemT ++ ([125] :: us)))))) := by simp [modT]
  rw [e, e2]
  exact .run (kw_run (s := "module") (by decide +kernel)) nr32 (lxb (.run (name_run hc.nm.1) nr_list (list_lx (fun x hx => (hc.is.2 x hx).1) (lxb (.sgn s4562 (lxb (list_lx (fun x hx => (hc.os.2 x hx).1) (lxb h3))))))))
def unitsD (d : DeckD) : List UnitT := (d.cells.map fun c => UnitT.cell c (tokF c.tree)) ++ d.mods.map UnitT.mod
theorem units_cs : ∀ (cs : List CellD) (ms : List ModD), UnitT.cs ((cs.map fun c => UnitT.cell c (tokF c.tree)) ++ ms.map UnitT.mod) = cs ∧ UnitT.ms ((cs.map fun c => UnitT.cell c (tokF c.tree)) ++ ms.map UnitT.mod) = ms
  | [], [] => ⟨rfl, rfl⟩
  | [], m :: ms => by
    obtain ⟨a, b⟩ := units_cs [] ms
    exact ⟨a, congrArg (m :: ·) b⟩
  | c :: cs, ms => by
    obtain ⟨a, b⟩ := units_cs cs ms
    exact ⟨congrArg (c :: ·) a, b⟩
theorem units_okD {d : DeckD} (h : GDeck d) : ∀ u ∈ unitsD d, UnitOk 5 u := fun u hu => by
  rcases List.mem_append.mp hu with z | z
  · obtain ⟨c, hc, rfl⟩ := List.mem_map.mp z
    have g := h.cs c hc
    have hno : NamesOk c.tree := fun x hx => (g.tn x hx).1
    exact ⟨⟨g.nm.1, fun x hx => (g.ps.2 x hx).1, fun x hx => ⟨(g.rg x hx).1.1, (g.rg x hx).2⟩⟩, (tokF_wr4 hno).deep g.th, by have := g.th; omega⟩
  · obtain ⟨m, hm, rfl⟩ := List.mem_map.mp z
    have g := h.ms m hm
    exact ⟨g.nm.1, fun x hx => (g.is.2 x hx).1, fun x hx => (g.os.2 x hx).1, fun i hi => g_itemk (g.it i hi)⟩
theorem deck_lx {d : DeckD} (h : GDeck d) : Lx (tl (deckS d)) ((unitsD d).flatMap UnitT.tok) := by
  have h1 := all_lx (f := fun m => (modLs m).flatMap nlX) (g := modT) (l := d.mods) (S := []) (us := []) (fun m hm S us h' => mod_lx (h.ms m hm) h') .nil
  have h2 := all_lx (f := fun c => (cellLs c).flatMap nlX) (g := fun c => cellT c (tokF c.tree)) (l := d.cells) (fun c hc S us h' => cell_lx (h.cs c hc) h') h1
  have e : tl (deckS d) = (d.cells.flatMap fun c => (cellLs c).flatMap nlX) ++ ((d.mods.flatMap fun m => (modLs m).flatMap nlX) ++ []) := by
    rw [tl_deckS]
    unfold deckLs
    rw [List.flatMap_append, List.flatMap_assoc, List.flatMap_assoc, List.append_nil]
  have e2 : (unitsD d).flatMap UnitT.tok = (d.cells.flatMap fun c => cellT c (tokF c.tree)) ++ (d.mods.flatMap modT ++ []) := by
    unfold unitsD
    rw [List.flatMap_append, List.flatMap_map, List.flatMap_map, List.append_nil]; rfl
  rw [e, e2]
  exact h2
/-! ## its length -/
theorem lstX_k {k : Nat} {l : List (List Nat)} (h : L20 k l) : (lstX l).length ≤ 22 * k + 2 := by
  have hs := sum_le (g := fun x : List Nat => x.length) (m := 20) l fun x hx => (h.2 x hx).2
  have hl := h.1
  have := joinL_le [44, 32] l
  have e2 : ([44, 32] : List Nat).length = 2 := rfl
  rw [e2] at this
  unfold lstX
  rw [List.length_cons, List.length_append, List.length_singleton]
  omega
theorem itemS_k {i : ItemD} (h : GItem i) : (itemS i).length ≤ 150 := by
  have e0 : ∀ n : Nat, n < 1000000000 → (numL n).length ≤ 9 := fun n h => numL_len (by decide) h
  cases i with
  | gate n c ps =>
    have := lstX_k h.2.2
    have := h.1.2
    have := h.2.1.2
    unfold itemS
    simp only [Str.length_append, mk_len]
    show 5 + _ + 3 + _ + _ ≤ _
    omega
  | part n os m ps =>
    have := lstX_k h.2.1
    have := lstX_k h.2.2.2
    have := h.1.2
    have := h.2.2.1.2
    unfold itemS
    simp only [Str.length_append, mk_len]
    show 5 + _ + 2 + _ + 3 + _ + _ ≤ _
    omega
  | reg n w e o s hh b =>
    obtain ⟨a1, a2, a3, a4, a5, a6⟩ := h
    have := rngX_le a3
    have := rngX_le a4
    have := a1.2
    have := a2.2
    have := e0 _ a5
    have := e0 _ a6
    have hb : (if b = true then ("1" : Str) else ("0" : Str)).length = 1 := by cases b <;> rfl
    unfold itemS
    simp only [Str.length_append, mk_len, hb]
    show (4 + _ + 3 + _ + 6 + _ + 5 + _) + (0 + 7 + _ + 6 + _ + 7) + 1 ≤ _
    omega
theorem nlX_len (s : Str) : (nlX s).length = s.length + 1 := by
  unfold nlX
  rw [List.length_append, ← len_tl]; rfl
theorem shF_le {c : CellD} (h : GCell c) : (shF c.tree).length ≤ 3520 := by
  have hno : NamesOk c.tree := fun x hx => (h.tn x hx).1
  have h1 := flat_len (tokF c.tree) fun T hT => (wr_tok (tokF_wr4 hno) (fun x hx => (h.tn x hx).2) T hT).2
  have h2 := tokF_len c.tree
  have h3 := h.tp
  show (flat (tokF c.tree)).length ≤ _
  omega
theorem cellX_len {c : CellD} (h : GCell c) : ((cellLs c).flatMap nlX).length ≤ 4000 := by
  have h1 := shF_le h
  have h2 := lstX_k h.ps
  have h3 := h.nm.2
  have h4 := flat_le5 (f := fun x => nlX (pinS x)) (k := 61) c.rngs fun x hx => by
    have := pinS_le ⟨(h.rg x hx).1, (h.rg x hx).2⟩
    show (nlX (pinS x)).length ≤ _
    rw [nlX_len]; omega
  have h5 := h.rl
  unfold cellLs
  rw [List.flatMap_cons, List.flatMap_append, List.flatMap_map, List.length_append, List.length_append, nlX_len]
  have eb : [("}" : Str)].flatMap nlX = [125, 10] := rfl
  rw [eb]
  have el : (("cell " : Str) ++ mk c.name ++ mk (lstX c.pins) ++ (" = " : Str) ++ mk (shF c.tree) ++ (" {" : Str)).length ≤ 3700 := by
    simp only [Str.length_append, mk_len]
    show 5 + _ + _ + 3 + _ + 2 ≤ _
    omega
  have e2 : ([125, 10] : List Nat).length = 2 := rfl
  rw [e2]
  omega
theorem modX_len {m : ModD} (h : GMod m) : ((modLs m).flatMap nlX).length ≤ 1000 := by
  have h1 := lstX_k h.is
  have h2 := lstX_k h.os
  have h3 := h.nm.2
  have h4 := flat_le5 (f := fun i => nlX (("  " : Str) ++ itemS i ++ (";" : Str))) (k := 154) m.items fun i hi => by
    have := itemS_k (h.it i hi)
    show (nlX (("  " : Str) ++ itemS i ++ (";" : Str))).length ≤ _
    rw [nlX_len, Str.length_append, Str.length_append]
    show 2 + _ + 1 + 1 ≤ _
    omega
  have h5 := h.il
  unfold modLs
  rw [List.flatMap_cons, List.flatMap_append, List.flatMap_map, List.length_append, List.length_append, nlX_len]
  have eb : [("}" : Str)].flatMap nlX = [125, 10] := rfl
  rw [eb]
  have el : (("module " : Str) ++ mk m.name ++ mk (lstX m.ins) ++ (" -> " : Str) ++ mk (lstX m.outs) ++ (" {" : Str)).length ≤ 200 := by
    simp only [Str.length_append, mk_len]
    show 7 + _ + _ + 4 + _ + 2 ≤ _
    omega
  have e2 : ([125, 10] : List Nat).length = 2 := rfl
  rw [e2]
  omega
theorem deckS_len {d : DeckD} (h : GDeck d) : (deckS d).length ≤ 15000 := by
  have h1 := flat_le5 (f := fun c => (cellLs c).flatMap nlX) (k := 4000) d.cells fun c hc => cellX_len (h.cs c hc)
  have h2 := flat_le5 (f := fun c => (modLs c).flatMap nlX) (k := 1000) d.mods fun c hc => modX_len (h.ms c hc)
  have h3 := h.cl
  have h4 := h.ml
  rw [len_tl, tl_deckS]
  unfold deckLs
  rw [List.flatMap_append, List.flatMap_assoc, List.flatMap_assoc, List.length_append]
  omega
theorem deckLs_le {d : DeckD} (h : GDeck d) : ∀ s ∈ deckLs d, s.length ≤ 7000 := fun s hs => by
  have hm : ∀ {l : List Str}, s ∈ l → s.length ≤ (l.flatMap nlX).length := fun {l} => by
    induction l with
    | nil => intro h; cases h
    | cons x l ih =>
      intro h
      rw [List.flatMap_cons, List.length_append, nlX_len]
      rcases List.mem_cons.mp h with z | z
      · rw [z]; omega
      · have := ih z; omega
  rcases List.mem_append.mp hs with z | z
  · obtain ⟨c, hc, hz⟩ := List.mem_flatMap.mp z
    have := hm hz
    have := cellX_len (h.cs c hc)
    omega
  · obtain ⟨c, hc, hz⟩ := List.mem_flatMap.mp z
    have := hm hz
    have := modX_len (h.ms c hc)
    omega
end G
namespace G
open PySem PySem.Spec PyProof.Rows L2 Evl TL
def spLaw (K : PySem.W.Frag) : Sp := fun vs H Q _ => ∃ (a : Addr) (ns : List Int), vs = [.ref a] ∧ SqL K H a (ns.map V.int) ∧ ns.length ≤ 63 ∧ ∀ H', Q (.bl true) H'
theorem okD_tups {α : Type} {f : α → D} {l : List α} {n k : Nat} (h : l.length ≤ k) (hk : k < 1000) (g : ∀ x ∈ l, okD n (f x)) : okD (n + 1) (.tup (l.map f)) :=
  ⟨by rw [List.length_map]; exact Nat.lt_trans (Nat.lt_of_le_of_lt h hk) (by decide), fun d hd => by obtain ⟨x, hx, rfl⟩ := List.mem_map.mp hd; exact g x hx⟩
theorem okD_names {k n : Nat} {l : List (List Nat)} (h : L20 k l) (hk : k < 1000) (hn : 1 ≤ n) : okD (n + 1) (nsD l) := okD_tups h.1 hk fun x _ => (show okD 1 (sD x) from trivial).mono hn
theorem okD_pair {n : Nat} (p : Nat × Nat) (hn : 1 ≤ n) : okD (n + 1) (pD p) := ⟨by show 2 < _; decide, fun d hd => by
  have h1 : ∀ i : Int, okD n (D.int i) := fun i => (show okD 1 (D.int i) from trivial).mono hn
  rcases List.mem_cons.mp hd with z | z
  · rw [z]; exact h1 _
  · rw [List.mem_singleton.mp z]; exact h1 _⟩
theorem okD_tupn {n : Nat} {l : List D} (hl : l.length < 1000) (h : ∀ d ∈ l, okD n d) : okD (n + 1) (.tup l) := ⟨Nat.lt_trans hl (by decide), h⟩
theorem okD_item {i : ItemD} (h : GItem i) : okD 4 i.dat := by
  have hs : ∀ s : Str, okD 3 (D.str s) := fun s => (show okD 1 (D.str s) from trivial).mono (by decide)
  have hi : ∀ s : Int, okD 3 (D.int s) := fun s => (show okD 1 (D.int s) from trivial).mono (by decide)
  have hb : ∀ s : Bool, okD 3 (D.bl s) := fun s => (show okD 1 (D.bl s) from trivial).mono (by decide)
  cases i with
  | gate n c ps =>
    refine okD_tupn (by show 4 < 1000; decide) fun d hd => ?_
    have h3 := okD_names (n := 2) h.2.2 (by decide) (by decide)
    simp only [List.mem_cons, List.not_mem_nil, or_false] at hd
    rcases hd with z | z | z | z <;> rw [z]
    · exact hs _
    · exact hs _
    · exact hs _
    · exact h3
  | part n os m ps =>
    refine okD_tupn (by show 5 < 1000; decide) fun d hd => ?_
    have h3 := okD_names (n := 2) h.2.1 (by decide) (by decide)
    have h4 := okD_names (n := 2) h.2.2.2 (by decide) (by decide)
    simp only [List.mem_cons, List.not_mem_nil, or_false] at hd
    rcases hd with z | z | z | z | z <;> rw [z]
    · exact hs _
    · exact hs _
    · exact h3
    · exact hs _
    · exact h4
  | reg n w e o s hh b =>
    refine okD_tupn (by show 8 < 1000; decide) fun d hd => ?_
    have h3 := okD_pair (n := 2) e (by decide)
    have h4 := okD_pair (n := 2) o (by decide)
    simp only [List.mem_cons, List.not_mem_nil, or_false] at hd
    rcases hd with z | z | z | z | z | z | z | z <;> rw [z]
    · exact hs _
    · exact hs _
    · exact hs _
    · exact h3
    · exact h4
    · exact hi _
    · exact hi _
    · exact hb _
theorem okD_cell {c : CellD} (h : GCell c) : okD 6 c.dat := by
  have hs : ∀ s : Str, okD 5 (D.str s) := fun s => (show okD 1 (D.str s) from trivial).mono (by decide)
  refine okD_tupn (by show 4 < 1000; decide) fun d hd => ?_
  have h2 := okD_names (n := 4) h.ps (by decide) (by decide)
  have h3 : okD 5 c.tree.dat := okD_tree h.th
  have h4 : okD 5 (.tup (c.rngs.map rgD)) := okD_tups h.rl (by decide) fun x _ => by
    have hs : ∀ s : Str, okD 3 (D.str s) := fun s => (show okD 1 (D.str s) from trivial).mono (by decide)
    have hi : ∀ s : Int, okD 3 (D.int s) := fun s => (show okD 1 (D.int s) from trivial).mono (by decide)
    refine okD_tupn (by show 3 < 1000; decide) fun d hd => ?_
    simp only [List.mem_cons, List.not_mem_nil, or_false] at hd
    rcases hd with z | z | z <;> rw [z]
    · exact hs _
    · exact hi _
    · exact hi _
  simp only [List.mem_cons, List.not_mem_nil, or_false] at hd
  rcases hd with z | z | z | z <;> rw [z]
  · exact hs _
  · exact h2
  · exact h3
  · exact h4
theorem okD_mod {m : ModD} (h : GMod m) : okD 6 m.dat := by
  have hs : ∀ s : Str, okD 5 (D.str s) := fun s => (show okD 1 (D.str s) from trivial).mono (by decide)
  refine okD_tupn (by show 4 < 1000; decide) fun d hd => ?_
  have h2 := okD_names (n := 4) h.is (by decide) (by decide)
  have h3 := okD_names (n := 4) h.os (by decide) (by decide)
  have h4 : okD 5 (.tup (m.items.map ItemD.dat)) := okD_tups h.il (by decide) fun x hx => okD_item (h.it x hx)
  simp only [List.mem_cons, List.not_mem_nil, or_false] at hd
  rcases hd with z | z | z | z <;> rw [z]
  · exact hs _
  · exact h2
  · exact h3
  · exact h4
theorem units_len : ∀ us : List UnitT, us.length = (UnitT.cs us).length + (UnitT.ms us).length
  | [] => rfl
  | .cell c ts :: us => by
    have := units_len us
    show us.length + 1 = ((UnitT.cs us).length + 1) + (UnitT.ms us).length
    omega
  | .mod m :: us => by
    have := units_len us
    show us.length + 1 = (UnitT.cs us).length + ((UnitT.ms us).length + 1)
    omega
theorem okD_deck {d : DeckD} (h : GDeck d) : okD 8 d.dat := by
  refine okD_tupn (by show 2 < 1000; decide) fun x hx => ?_
  have h1 : okD 7 (.tup (d.cells.map CellD.dat)) := okD_tups h.cl (by decide) fun c hc => okD_cell (h.cs c hc)
  have h2 : okD 7 (.tup (d.mods.map ModD.dat)) := okD_tups h.ml (by decide) fun c hc => okD_mod (h.ms c hc)
  simp only [List.mem_cons, List.not_mem_nil, or_false] at hx
  rcases hx with z | z <;> rw [z]
  · exact h1
  · exact h2
end G
namespace G
open PySem PySem.Spec PyProof.Rows L2 Evl TL
theorem hidEx {p : Addr} {H : Hp} : Ex (hid p H) H := fun b o h => hid_get h
theorem okD_s8 (s : Str) : okD 8 (D.str s) := (show okD 1 (D.str s) from trivial).mono (by decide)
theorem gdeck0 : GDeck ⟨[], []⟩ := ⟨Nat.zero_le _, (fun _ h => nomatch h), Nat.zero_le _, (fun _ h => nomatch h)⟩
theorem rep_none {H : Hp} {t1 t2 t3 : Addr} (n2 : (upd H t1 (.tup [])) t2 = none) (n3 : (upd (upd H t1 (.tup [])) t2 (.tup [])) t3 = none) :
    Rep (upd (upd (upd H t1 (.tup [])) t2 (.tup [])) t3 (.tup [.ref t1, .ref t2])) (.ref t3) (DeckD.mk [] []).dat := by
  have h1 : Rep (upd H t1 (.tup [])) (.ref t1) (D.tup []) := Reps.tup .nil upd_same
  have h2 : Rep (upd (upd H t1 (.tup [])) t2 (.tup [])) (.ref t2) (D.tup []) := Reps.tup .nil upd_same
  exact Reps.tup (.cons ((h1.ex (Ex.new n2)).ex (Ex.new n3)) (.cons (h2.ex (Ex.new n3)) .nil)) upd_same
section
variable {P : Program} {w : World} {K : PySem.W.Frag} {mg : Str → Option Value} {base : Heap}
theorem sc_law : FnScope ["script", "pool", "turn", "deck", "text", "back"] ["script"] (defScope s_law) := ⟨rfl, rfl, rfl, by decide +kernel, rfl, by decide +kernel, by decide +kernel⟩
theorem fn_law {B D0 : Addr} {f : Addr} {fd : FuncData} (F : Fun K "law" "law" s_law f fd) (T : TxtS mg)
    (C1 : Has P w K mg base 1 "_law_pool" ["script"] (spPool K)) (C2 : Has P w K mg base 10 "_law_deck" ["pool"] (spGen GDeck DeckD.dat)) (C3 : Has P w K mg base 5 "show_deck" ["deck"] spShowD) (C4 : Has P w K mg base 12 "_law_show" ["deck"] spLShow)
    (C6 : HasX P w K mg base 43 "parse_deck" ["text"] (spPD B D0 6)) (C7 : Has P w K mg base 9 "_law_same" ["actual", "due"] (spSame 9)) :
    FnOk P w K mg base CX0 44 f fd ["script"] (spLaw K) := by
  obtain ⟨f_law_pool, d_law_pool, G_law_pool, g_law_pool, k_law_pool, b_law_pool⟩ := C1
  obtain ⟨f_law_deck, d_law_deck, G_law_deck, g_law_deck, k_law_deck, b_law_deck⟩ := C2
  obtain ⟨f_show_deck, d_show_deck, G_show_deck, g_show_deck, k_show_deck, b_show_deck⟩ := C3
  obtain ⟨f_law_show, d_law_show, G_law_show, g_law_show, k_law_show, b_law_show⟩ := C4
  obtain ⟨f_parse_deck, d_parse_deck, G_parse_deck, g_parse_deck, k_parse_deck, b_parse_deck⟩ := C6
  obtain ⟨f_law_same, d_law_same, G_law_same, g_law_same, k_law_same, b_law_same⟩ := C7
  refine F.ok sc_law (fun vs H Q E h => ?_) (fun cdv A outer s H vs Q E hr h => ?_)
  · obtain ⟨a, ns, rfl, _⟩ := h
    rfl
  · obtain ⟨sa, ss, rfl, hs, hn, q⟩ := h
    refine ⟨_, (pss_cons (ps_set (i := 1) sc_law.nd rfl (.inl rfl) (pe_call G_law_pool (hr.mono (by omega)) (by rfl) g_law_pool k_law_pool b_law_pool .nil pass0 (pa_cons (pv 0) pa_nil)))
    (pss_cons (ps_for PassesOwn.never rfl (pi_range1 rfl T.range (pa_cons pe_int pa_nil)) (pg_name (i := 2) sc_law.nd rfl (.inl rfl))
      (pss_cons (ps_set (i := 3) sc_law.nd rfl (.inl rfl) (pe_call G_law_deck (hr.mono (by omega)) (by rfl) g_law_deck k_law_deck b_law_deck .nil pass0 (pa_cons (pv 1) pa_nil)))
      (pss_cons (ps_set (i := 4) sc_law.nd rfl (.inl rfl) (pe_call G_show_deck (hr.mono (by omega)) (by rfl) g_show_deck k_show_deck b_show_deck .nil pass0 (pa_cons (pv 3) pa_nil)))
      (pss_cons (ps_if (pt_not (pt_val (pe_call G_law_same (hr.mono (by omega)) (by rfl) g_law_same k_law_same b_law_same .nil pass0 (pa_cons (pv 4) (pa_cons (pe_call G_law_show (hr.mono (by omega)) (by rfl) g_law_show k_law_show b_law_show .nil pass0 (pa_cons (pv 3) pa_nil)) pa_nil)))))
        (pss_one (ps_ret pe_bl))
        pss_nil)
      (pss_cons (ps_set (i := 5) sc_law.nd rfl (.inl rfl) (pe_call G_parse_deck (hr.mono (by omega)) (by rfl) g_parse_deck k_parse_deck b_parse_deck .nil passX0 (pa_cons (pv 4) pa_nil)))
      (pss_one (ps_if (PW.pt (pw_or (pt_not (pt_val (pe_call G_law_same (hr.mono (by omega)) (by rfl) g_law_same k_law_same b_law_same .nil pass0 (pa_cons (pv 5) (pa_cons (pv 3) pa_nil))))) (pw_or1 (pt_not (pt_val (pe_call G_law_same (hr.mono (by omega)) (by rfl) g_law_same k_law_same b_law_same .nil pass0 (pa_cons (pe_call G_show_deck (hr.mono (by omega)) (by rfl) g_show_deck k_show_deck b_show_deck .nil pass0 (pa_cons (pv 5) pa_nil)) (pa_cons (pv 4) pa_nil))))))))
        (pss_one (ps_ret pe_bl))
        pss_nil)))))))
    (pss_one (ps_ret (pe_and (pe_call G_law_same (hr.mono (by omega)) (by rfl) g_law_same k_law_same b_law_same .nil pass0 (pa_cons (pe_call G_show_deck (hr.mono (by omega)) (by rfl) g_show_deck k_show_deck b_show_deck .nil pass0 (pa_cons (pe_tup (pa_cons (pe_tup pa_nil) (pa_cons (pe_tup pa_nil) pa_nil))) pa_nil)) (pa_cons pe_str pa_nil))) (pe_one (pe_call G_law_same (hr.mono (by omega)) (by rfl) g_law_same k_law_same b_law_same .nil pass0 (pa_cons (pe_call G_parse_deck (hr.mono (by omega)) (by rfl) g_parse_deck k_parse_deck b_parse_deck .nil passX0 (pa_cons pe_str pa_nil)) (pa_cons (pe_tup (pa_cons (pe_tup pa_nil) (pa_cons (pe_tup pa_nil) pa_nil))) pa_nil))))))))), ?_⟩
    refine ⟨_, rfl, sa, ss, rfl, hs, by omega, fun p a H0 hp _ _ => ?_⟩
    refine ⟨2, rfl, by decide, by decide, for_range (n := 2) (fun i σ H' => Px p a H0 H' ∧ ∃ y2 y3 y4 y5 : Option V, σ = [some (.ref sa), some (.ref p), y2, y3, y4, y5]) ⟨Px.refl hp, _, _, _, _, rfl⟩ ?_ ?_⟩
    · rintro turn σ H1 ht ⟨X1, y2, y3, y4, y5, rfl⟩
      refine ⟨_, rfl, p, a, rfl, X1.pool, fun d dv H2 hd X2 rp => ?_⟩
      have rp2 := rp.ex hidEx
      have hsf : ∀ c ∈ d.cells, (shF c.tree).length ≤ 4000 := fun c hc => by have := shF_le (hd.cs c hc); omega
      have hll := deckLs_le hd
      refine ⟨_, rfl, dv, d, rfl, rp2, hd.cl, (fun c hc => ⟨hd.cs c hc, hsf c hc⟩), hd.ml, hd.ms, hll, fun H3 E3 => ?_⟩
      refine ⟨_, rfl, _, rfl, dv, d, rfl, rp2.ex E3, hd, hsf, hll, fun H4 E4 => ⟨_, _, .str (deckS d), rfl, .str _, .str _, okD_s8 _, _, rfl, iteF ?_⟩⟩
      obtain ⟨e1, m, e2⟩ := out_units (d := 5) (units_okD hd) (by decide)
      have edk : (⟨UnitT.cs (unitsD d), UnitT.ms (unitsD d)⟩ : DeckD) = d := by
        unfold unitsD
        rw [(units_cs d.cells d.mods).1, (units_cs d.cells d.mods).2]
      rw [edk] at e1 e2
      have e1 : outDk 6 ((unitsD d).flatMap UnitT.tok) = .deck d := e1
      refine ⟨_, rfl, deckS d, (unitsD d).flatMap UnitT.tok, rfl, (by have := deckS_len hd; omega), deck_lx hd, (by rw [e1]; intro z; cases z), fun d' m' e c hc => ?_, fun d' v H5 e E5 hv => ?_, (fun n _ _ e _ _ => by rw [e1] at e; cases e), (fun e => by rw [e1] at e; cases e)⟩
      · rw [e2] at e
        cases e
        have := (hd.cs c hc).tp
        omega
      · rw [e1] at e
        cases e
        have E25 := E3.trans (E4.trans E5)
        refine ⟨_, rfl, _, rfl, _, _, d.dat, rfl, hv, rp2.ex E25, okD_deck hd, _, rfl, iteF ?_⟩
        refine ⟨_, rfl, v, d, rfl, hv, hd.cl, (fun c hc => ⟨hd.cs c hc, hsf c hc⟩), hd.ml, hd.ms, hll, fun H6 E6 => ⟨_, rfl, _, _, .str (deckS d), rfl, .str _, .str _, okD_s8 _, _, rfl, iteF ?_⟩⟩
        exact ⟨X1.trans (X2.more (E25.trans E6)), _, _, _, _, rfl⟩
    · rintro σ H1 ⟨X1, y2, y3, y4, y5, rfl⟩
      have es : deckS ⟨[], []⟩ = ("" : Str) := rfl
      have e0 : outDk 6 [] = .deck ⟨[], []⟩ ∧ ∃ m, unitsF 6 [] 1 [] [] 0 = .ok ⟨[], []⟩ m := out_units (d := 5) (us := []) (fun _ h => nomatch h) (by decide)
      refine ⟨(by show 0 ≤ sizeLine; decide), fun t1 n1 => ⟨(by show 0 ≤ sizeLine; decide), fun t2 n2 => ⟨(by show 2 ≤ sizeLine; decide), fun t3 n3 => ?_⟩⟩⟩
      refine ⟨_, ⟨[], []⟩, rfl, rep_none n2 n3, Nat.zero_le _, (fun _ h => nomatch h), Nat.zero_le _, (fun _ h => nomatch h), (fun _ h => nomatch h), fun H5 E5 => ⟨_, _, .str "", rfl, (by rw [es]; exact .str _), .str _, okD_s8 _, _, rfl, iteT ?_⟩⟩
      refine ⟨"", [], rfl, (by decide), .nil, (by rw [e0.1]; intro z; cases z), fun d' m' e c hc => ?_, fun d' v H6 e E6 hv => ?_, (fun n _ _ e _ _ => by rw [e0.1] at e; cases e), (fun e => by rw [e0.1] at e; cases e)⟩
      · obtain ⟨m, e2⟩ := e0.2
        rw [show ([] : List (List Nat)).length + 1 = 1 from rfl, e2] at e
        cases e
        cases hc
      · rw [e0.1] at e
        cases e
        refine ⟨(by show 0 ≤ sizeLine; decide), fun u1 m1 => ⟨(by show 0 ≤ sizeLine; decide), fun u2 m2 => ⟨(by show 2 ≤ sizeLine; decide), fun u3 m3 => ?_⟩⟩⟩
        exact ⟨_, _, (DeckD.mk [] []).dat, rfl, hv.ex ((Ex.new m1).trans ((Ex.new m2).trans (Ex.new m3))), rep_none m2 m3, okD_deck gdeck0, q _⟩
end
end G
namespace G
open PySem PySem.Spec PyProof.Rows L2
/-- the defs and the built-in names as the top has left them -/
structure All (K : PySem.W.Frag) (mg : Str → Option Value) : Prop where
  d_wall : Dfd K mg "_wall" s_wall ["k"]
  d_height : Dfd K mg "height" s_height ["tree"]
  d_operands : Dfd K mg "operands" s_operands ["tree"]
  d_postorder : Dfd K mg "postorder" s_postorder ["tree"]
  d_show_expression : Dfd K mg "show_expression" s_show_expression ["tree"]
  d_show_deck : Dfd K mg "show_deck" s_show_deck ["deck"]
  d_with_operands : Dfd K mg "_with_operands" s_with_operands ["part", "texts"]
  d_operand : Dfd K mg "_operand" s_operand ["tree", "text", "least"]
  d_cell_lines : Dfd K mg "_cell_lines" s_cell_lines ["cell"]
  d_module_lines : Dfd K mg "_module_lines" s_module_lines ["module"]
  d_item_printer : DfdA K mg "item_printer" "_item" s_item_printer ["item"]
  d_names_printer : DfdA K mg "names_printer" "_names" s_names_printer ["names"]
  d_range_printer : DfdA K mg "range_printer" "_range" s_range_printer ["pair"]
  d_tokenize : Dfd K mg "tokenize" s_tokenize ["text"]
  d_is_name : Dfd K mg "is_name" s_is_name ["token"]
  d_is_numeral : Dfd K mg "is_numeral" s_is_numeral ["token"]
  d_is_word : Dfd K mg "is_word" s_is_word ["token"]
  d_token_at : Dfd K mg "_token_at" s_token_at ["text", "at"]
  d_run_end : Dfd K mg "_run_end" s_run_end ["text", "at"]
  d_line_end : Dfd K mg "_line_end" s_line_end ["text", "at"]
  d_parse_deck : Dfd K mg "parse_deck" s_parse_deck ["text"]
  d_reader : Dfd K mg "_reader" s_reader ["text"]
  d_check_brackets : Dfd K mg "_check_brackets" s_check_brackets ["tokens"]
  d_check_height : Dfd K mg "_check_height" s_check_height ["tree"]
  d_cell : Dfd K mg "_cell" s_cell ["reader"]
  d_module : Dfd K mg "_module" s_module ["reader"]
  d_item_parser : DfdA K mg "item_parser" "_item" s_item_parser ["reader"]
  d_gate : Dfd K mg "_gate" s_gate ["reader"]
  d_part : Dfd K mg "_part" s_part ["reader"]
  d_reg : Dfd K mg "_reg" s_reg ["reader"]
  d_names_parser : DfdA K mg "names_parser" "_names" s_names_parser ["reader"]
  d_range_parser : DfdA K mg "range_parser" "_range" s_range_parser ["reader"]
  d_expression : ∃ (f : Addr) (fd : FuncData), FunD K "_expression" "_expression" (defArgs s_expression) (defBody s_expression) (defScope s_expression) [.int 0] [] f fd ∧ mg "_expression" = some (.ref f) ∧ Binds K fd ["reader", "level"] [] ∧ ∃ ds, Vals [V.int 0] ds ∧ Binds K fd ["reader", "level"] ds
  d_factor : Dfd K mg "_factor" s_factor ["reader"]
  d_atom : Dfd K mg "_atom" s_atom ["reader"]
  d_law_pool : Dfd K mg "_law_pool" s_law_pool ["script"]
  d_law_spread : Dfd K mg "_law_spread" s_law_spread ["cell"]
  d_law_draw : Dfd K mg "_law_draw" s_law_draw ["pool", "many"]
  d_law_same : Dfd K mg "_law_same" s_law_same ["actual", "due"]
  d_law_word : Dfd K mg "_law_word" s_law_word ["pool"]
  d_law_numeral : Dfd K mg "_law_numeral" s_law_numeral ["pool"]
  d_law_tree : Dfd K mg "_law_tree" s_law_tree ["pool", "deep", "names"]
  d_law_level : Dfd K mg "_law_level" s_law_level ["tree"]
  d_law_tokens : Dfd K mg "_law_tokens" s_law_tokens ["tree"]
  d_law_closed : Dfd K mg "_law_closed" s_law_closed ["tree", "least"]
  d_law_printed : Dfd K mg "_law_printed" s_law_printed ["tokens"]
  d_law_range : Dfd K mg "_law_range" s_law_range ["pool"]
  d_law_names : Dfd K mg "_law_names" s_law_names ["pool", "most"]
  d_law_item : Dfd K mg "_law_item" s_law_item ["pool"]
  d_law_cell_of : Dfd K mg "_law_cell_of" s_law_cell_of ["pool"]
  d_law_deck : Dfd K mg "_law_deck" s_law_deck ["pool"]
  d_law_list : Dfd K mg "_law_list" s_law_list ["names"]
  d_law_pair : Dfd K mg "_law_pair" s_law_pair ["pair"]
  d_law_line : Dfd K mg "_law_line" s_law_line ["item"]
  d_law_show : Dfd K mg "_law_show" s_law_show ["deck"]
  z_len : mg "len" = none
  z_max : mg "max" = none
  z_super : mg "super" = none
  z_all : mg "all" = none
  z_list : mg "list" = none
  z_int : mg "int" = none
  z_tuple : mg "tuple" = none
  z_range : mg "range" = none
  z_isinstance : mg "isinstance" = none
  z_bool : mg "bool" = none
  z_str : mg "str" = none
  z_ValueError : mg "ValueError" = none
  c_KEYWORDS : ∃ a, mg "KEYWORDS" = some (.ref a) ∧ ∀ H, SqT K H a [.str "cell", .str "pin", .str "module", .str "gate", .str "part", .str "reg", .str "edge", .str "out", .str "setup", .str "hold", .str "start"]
  c_SIGNS_tokens : ∃ a, mg "SIGNS_tokens" = some (.ref a) ∧ ∀ H, SqT K H a [.str "(", .str ")", .str "{", .str "}", .str ",", .str ";", .str ":", .str "=", .str "->", .str "..", .str "&", .str "|", .str "^", .str "!"]
  c_LETTERS : ∃ t, mg "LETTERS" = some (.str "abcdefghijklmnopqrstuvwxyz" t)
  c_DIGITS : ∃ t, mg "DIGITS" = some (.str "0123456789" t)
  c_RUN_CHARACTERS : ∃ t, mg "RUN_CHARACTERS" = some (.str "abcdefghijklmnopqrstuvwxyz0123456789_" t)
  c_MOST_DIGITS : ∃ t, mg "MOST_DIGITS" = some (.int 9 t)
  c_MOST_BRACKETS : ∃ t, mg "MOST_BRACKETS" = some (.int 20 t)
  c_MOST_NEGATIONS : ∃ t, mg "MOST_NEGATIONS" = some (.int 20 t)
  c_MOST_HEIGHT : ∃ t, mg "MOST_HEIGHT" = some (.int 20 t)
  c_BINARY : ∃ (a b0 b1 b2 : Addr), mg "BINARY" = some (.ref a) ∧ ∀ H, SqT K H a [.ref b0, .ref b1, .ref b2] ∧ SqT K H b0 [.str "|", .str "or"] ∧ SqT K H b1 [.str "^", .str "xor"] ∧ SqT K H b2 [.str "&", .str "and"]
  k_TokenReader : ∃ C : Addr, Cl_TokenReader K mg C
  i_TooDeep : ∃ C : Addr, ExcI K mg "TooDeep" C
end G
namespace G
open PySem PySem.Spec PyProof.Rows L2
theorem glue {P : Program} {w : World} {K : PySem.W.Frag} {mg : Str → Option Value} {base : Heap} (A : All K mg) (OX : ∃ (C f : Addr) (fd : FuncData), ErrF P K mg "BadSyntax" "BadSyntax.__init__" C f fd s_BadSyntax_init "at")
    (OD0 : ∃ a : Addr, mg "SIGNS_printer" = some (.ref a) ∧ KDct K w a "or" (.str " | ") ∧ KDct K w a "xor" (.str " ^ ") ∧ KDct K w a "and" (.str " & "))
    (OD1 : ∃ a : Addr, mg "LEVELS" = some (.ref a) ∧ KDct K w a "or" (.int 1) ∧ KDct K w a "xor" (.int 2) ∧ KDct K w a "and" (.int 3) ∧ KDct K w a "not" (.int 4) ∧ KDct K w a "name" (.int 5) ∧ KDct K w a "const" (.int 5))
    {f : Addr} {fd : FuncData} (F : Fun K "law" "law" s_law f fd) : FnOk P w K mg base CX0 44 f fd ["script"] (spLaw K) := by
  have TL : TxtL mg := ⟨A.z_int, A.z_len, A.z_list, A.z_range⟩
  have TS : TxtS mg := ⟨A.z_isinstance, A.z_tuple, A.z_list, A.z_len, A.z_range, A.z_bool, A.z_int, A.z_str⟩
  have TK : TxtK K mg := ⟨A.z_len, A.z_all, A.c_LETTERS, A.c_DIGITS, A.c_RUN_CHARACTERS, A.c_MOST_DIGITS, A.c_KEYWORDS, A.c_SIGNS_tokens⟩
  have TP : TxtPz mg := ⟨A.z_range, A.z_len⟩
  have TR : TxtRd mg := ⟨A.z_len, A.z_list⟩
  have TV : TxtLv mg := ⟨A.z_int⟩
  have TI : TxtSt mg := ⟨A.z_str, A.z_int⟩
  have TG : TxtGn mg := ⟨A.z_tuple, A.z_range⟩
  have TU : TxtTu mg := ⟨A.z_tuple⟩
  have BT : BinT K mg := ⟨A.c_BINARY⟩
  have hwd := ok_is_word (P := P) (w := w) (base := base) A.d_is_word TK
  have hnm := ok_is_name A.d_is_name TK hwd
  have hn := ok_is_numeral (P := P) (w := w) (base := base) A.d_is_numeral TK
  obtain ⟨B, fB, dB, OB⟩ := OX
  have OS := own_BadSyntax (w := w) (base := base) OB
  obtain ⟨D0, UD⟩ := A.i_TooDeep
  obtain ⟨C, W⟩ := A.k_TokenReader
  obtain ⟨fi, di, Mi, Fi, bi⟩ := W.m_init
  obtain ⟨fa, da, Ma, Fa, ba⟩ := W.m_ahead
  obtain ⟨ft, dt, Mt, Ft, bt⟩ := W.m_take
  obtain ⟨fi2, di2, Mif, Fif, bi2⟩ := W.m_take_if
  obtain ⟨fn, dn, Mn, Fn, bn⟩ := W.m_take_name
  obtain ⟨fb, db, Mb, Fb, bb⟩ := W.m_take_bit
  obtain ⟨fe, de, Me, Fe, be⟩ := W.m_take_numeral
  have Gi := ok_TokenReader_init (P := P) (w := w) (mg := mg) (base := base) Fi W TR
  have Ga := ok_TokenReader_ahead (P := P) (w := w) (mg := mg) (base := base) Fa W TR
  have Gif := ok_TokenReader_take_if (P := P) (w := w) (mg := mg) (base := base) Fif W TR Ma Ga ba
  have Gt := ok_TokenReader_take OS Ft W TR Ma Ga ba
  have Gn := ok_TokenReader_take_name OS Fn W TR Ma Ga ba hnm
  have Gb := ok_TokenReader_take_bit Fb W TR Mif Gif bi2 Mt Gt bt
  have Gb2 := ok_TokenReader_take_bit2 Fb W TR Mif Gif bi2 Mt Gt bt
  have Ge := ok_TokenReader_take_numeral OS Fe W ⟨A.z_int⟩ Ma Ga ba hn
  have R : Rdr P w K mg base C B := ⟨W.cl, ⟨_, _, Ma, Ga, ba⟩, ⟨_, _, Mif, Gif, bi2⟩, ⟨_, _, Mt, Gt, bt⟩, ⟨_, _, Mn, Gn, bn⟩, ⟨_, _, Mb, Gb, bb⟩⟩
  have R2 : Rdr2 P w K mg base C B := ⟨W.cl, ⟨_, _, Ma, Ga, ba⟩, ⟨_, _, Mif, Gif, bi2⟩, ⟨_, _, Mt, fn_tk Gt, bt⟩, ⟨_, _, Mn, fn_tn Gn, bn⟩, ⟨_, _, Me, Ge, be⟩, ⟨_, _, Mb, Gb2, bb⟩⟩
  obtain ⟨fx, dx0, Fx, gx, bx, bdx⟩ := A.d_expression
  have X : ExprC P w K mg base C B fx dx0 := ⟨gx, Fx.kp, bx, bdx⟩
  have Gx := ok_parse TP BT Fx R X A.d_atom A.d_factor 6
  have hd := drawX (P := P) (w := w) (base := base) (ok_law_draw A.d_law_draw TL (ok_law_spread A.d_law_spread TL))
  have hto := ok_tokenize A.d_tokenize TK (ok_line_end A.d_line_end TK) (ok_token_at A.d_token_at TK (ok_run_end A.d_run_end TK) hwd hn)
  have hops := ok_operands (P := P) (w := w) (base := base) A.d_operands
  have hpo := ok_postorder A.d_postorder hops
  have hht := ok_height A.d_height ⟨A.z_len, A.z_max⟩ hops hpo
  have hch := ok_check_height A.d_check_height UD.u A.c_MOST_HEIGHT hht
  have hrd := ok_reader A.d_reader hto (ok_check_brackets A.d_check_brackets UD.u ⟨A.c_MOST_BRACKETS, A.c_MOST_NEGATIONS⟩) W.gC Mi Gi bi
  have hnms := ok_names A.d_names_parser TU R2
  have hrng := ok_range A.d_range_parser R2
  have hitem := ok_item A.d_item_parser R2 (ok_gate A.d_gate R2 hnms) (ok_part A.d_part R2 hnms) (ok_reg A.d_reg R2 hrng)
  have hcell := ok_cell (dp := 6) A.d_cell TU R2 hnms hrng X Gx
  have hmod := ok_module A.d_module TU R2 hnms hitem
  have hpd := ok_parse_deck (dp := 6) A.d_parse_deck TU R2 hrd hcell hmod hch (by decide)
  have LT : LevT K w mg := by
    obtain ⟨a, g, h1, h2, h3, h4, h5, h6⟩ := OD1
    refine ⟨a, g, fun t => ?_⟩
    cases t with
    | name x => exact h5
    | const b => exact h6
    | neg u => exact h4
    | bin o l r =>
      cases o with
      | and => exact h3
      | xor => exact h2
      | or => exact h1
  have GT : SgnT K w mg := by
    obtain ⟨a, g, h1, h2, h3⟩ := OD0
    refine ⟨a, g, fun o => ?_⟩
    cases o with
    | and => exact h3
    | xor => exact h2
    | or => exact h1
  have hlv := ok_law_level (P := P) (w := w) (base := base) A.d_law_level TV
  obtain ⟨fto, dto, Fto, gto, bto⟩ := A.d_law_tokens
  obtain ⟨fcl, dcl, Fcl, gcl, bcl⟩ := A.d_law_closed
  obtain ⟨ftr, dtr, Ftr, gtr, btr⟩ := A.d_law_tree
  have htok := fn_tok_all Fto Fcl TV hlv gto bto gcl bcl 5
  have htree := fn_law_treeA (fn_law_tree Ftr gtr btr ⟨A.z_len⟩ hd)
  have hword := ok_law_word A.d_law_word TS hd
  have hnum := ok_law_numeral A.d_law_numeral hd
  have hlr := ok_law_range A.d_law_range hnum
  have hln := ok_law_names A.d_law_names TG hd hword
  have hli := ok_law_item A.d_law_item hd hword hln hlr hnum
  have hlc := ok_law_cell_of A.d_law_cell_of TG hd hword hln hlr ⟨ftr, dtr, htree, gtr, Ftr.kp, btr⟩
  have hld := ok_law_deck A.d_law_deck TG hd hword hln hlc hli
  have hse := ok_show_expression (P := P) (w := w) A.d_show_expression TP hops hpo (ok_with_operands A.d_with_operands LT GT (ok_operand (P := P) (base := base) A.d_operand LT))
  have hpn := ok_names_printer (P := P) (w := w) (base := base) A.d_names_printer
  have hpr := ok_range_printer (P := P) (w := w) (base := base) A.d_range_printer
  have hsd := ok_show_deck A.d_show_deck (ok_cell_lines A.d_cell_lines hpn hpr hse) (ok_module_lines A.d_module_lines hpn (ok_item_printer A.d_item_printer hpn hpr))
  have hll := ok_law_list (P := P) (w := w) (base := base) A.d_law_list
  have hlp := ok_law_pair (P := P) (w := w) (base := base) A.d_law_pair TI
  have hls := ok_law_show A.d_law_show hll hlp (ok_law_line A.d_law_line TI hll hlp) (ok_law_printed A.d_law_printed) ⟨fto, dto, htok, gto, Fto.kp, bto⟩
  exact fn_law F TS (ok_law_pool A.d_law_pool TL) hld hsd hls hpd (ok_law_same A.d_law_same TS 9)
end G
namespace G
open PySem PySem.Spec PyProof.Rows L2
theorem all_mk {l : PySem.W.OpenLaw} {w : World} {K : PySem.W.Frag} {h : Heap} {mg : Str → Option Value} {fa f0 f1 f2 f3 f4 f5 f6 f7 f8 f9 f10 f11 f12 f13 f14 f15 f16 f17 f18 f19 f20 f21 f22 f23 f24 f25 f26 f27 f28 f29 f30 f31 f32 f33 f34 f35 f36 f37 f38 f39 f40 f41 f42 f43 f44 f45 f46 f47 f48 f49 f50 f51 f52 f53 f54 f55 : Addr} (X : K.In h) (G : h.Ns mainGlobals mg) (hfa : mg "law" = some (.ref fa))
    {od0 an0 od1 an1 od2 an2 od3 an3 od4 an4 od5 an5 od6 an6 od7 an7 od8 an8 od9 an9 od10 an10 od11 an11 od12 an12 od13 an13 od14 an14 od15 an15 od16 an16 od17 an17 od18 an18 od19 an19 od20 an20 od21 an21 od22 an22 od23 an23 od24 an24 od25 an25 od26 an26 od27 an27 od28 an28 od29 an29 od30 an30 od31 an31 od32 an32 od33 an33 od34 an34 od35 an35 od36 an36 od37 an37 od38 an38 od39 an39 od40 an40 od41 an41 od42 an42 od43 an43 od44 an44 od45 an45 od46 an46 od47 an47 od48 an48 od49 an49 od50 an50 od51 an51 od52 an52 od53 an53 od54 an54 od55 an55 : Option Addr} {sl0 sl1 sl2 sl3 sl4 sl5 sl6 sl7 sl8 sl9 sl10 sl11 sl12 sl13 sl14 sl15 sl16 sl17 sl18 sl19 sl20 sl21 sl22 sl23 sl24 sl25 sl26 sl27 sl28 sl29 sl30 sl31 sl32 sl33 sl34 sl35 sl36 sl37 sl38 sl39 sl40 sl41 sl42 sl43 sl44 sl45 sl46 sl47 sl48 sl49 sl50 sl51 sl52 sl53 sl54 sl55 : Array (Option Value)} {oc0 kv0 dc0 pm0 cd0 ct0 oc1 kv1 dc1 pm1 cd1 ct1 oc2 kv2 dc2 pm2 cd2 ct2 oc3 kv3 dc3 pm3 cd3 ct3 oc4 kv4 dc4 pm4 cd4 ct4 oc5 kv5 dc5 pm5 cd5 ct5 oc6 kv6 dc6 pm6 cd6 ct6 oc7 kv7 dc7 pm7 cd7 ct7 oc8 kv8 dc8 pm8 cd8 ct8 oc9 kv9 dc9 pm9 cd9 ct9 oc10 kv10 dc10 pm10 cd10 ct10 oc11 kv11 dc11 pm11 cd11 ct11 oc12 kv12 dc12 pm12 cd12 ct12 oc13 kv13 dc13 pm13 cd13 ct13 oc14 kv14 dc14 pm14 cd14 ct14 oc15 kv15 dc15 pm15 cd15 ct15 oc16 kv16 dc16 pm16 cd16 ct16 oc17 kv17 dc17 pm17 cd17 ct17 oc18 kv18 dc18 pm18 cd18 ct18 oc19 kv19 dc19 pm19 cd19 ct19 oc20 kv20 dc20 pm20 cd20 ct20 oc21 kv21 dc21 pm21 cd21 ct21 oc22 kv22 dc22 pm22 cd22 ct22 oc23 kv23 dc23 pm23 cd23 ct23 oc24 kv24 dc24 pm24 cd24 ct24 oc25 kv25 dc25 pm25 cd25 ct25 oc26 kv26 dc26 pm26 cd26 ct26 oc27 kv27 dc27 pm27 cd27 ct27 oc28 kv28 dc28 pm28 cd28 ct28 oc29 kv29 dc29 pm29 cd29 ct29 oc30 kv30 dc30 pm30 cd30 ct30 oc31 kv31 dc31 pm31 cd31 ct31 oc32 kv32 dc32 pm32 cd32 ct32 oc33 kv33 dc33 pm33 cd33 ct33 oc34 kv34 dc34 pm34 cd34 ct34 oc35 kv35 dc35 pm35 cd35 ct35 oc36 kv36 dc36 pm36 cd36 ct36 oc37 kv37 dc37 pm37 cd37 ct37 oc38 kv38 dc38 pm38 cd38 ct38 oc39 kv39 dc39 pm39 cd39 ct39 oc40 kv40 dc40 pm40 cd40 ct40 oc41 kv41 dc41 pm41 cd41 ct41 oc42 kv42 dc42 pm42 cd42 ct42 oc43 kv43 dc43 pm43 cd43 ct43 oc44 kv44 dc44 pm44 cd44 ct44 oc45 kv45 dc45 pm45 cd45 ct45 oc46 kv46 dc46 pm46 cd46 ct46 oc47 kv47 dc47 pm47 cd47 ct47 oc48 kv48 dc48 pm48 cd48 ct48 oc49 kv49 dc49 pm49 cd49 ct49 oc50 kv50 dc50 pm50 cd50 ct50 oc51 kv51 dc51 pm51 cd51 ct51 oc52 kv52 dc52 pm52 cd52 ct52 oc53 kv53 dc53 pm53 cd53 ct53 oc54 kv54 dc54 pm54 cd54 ct54 oc55 kv55 dc55 pm55 cd55 ct55 : Value}
    (a0 : PySem.W.nsIn K mainGlobals "_wall" = some (some (.ref f0))) (l0 : K.lookup f0 = some ⟨oc0, od0, .func (PySem.W.fnOf "_wall" "_wall" (defArgs s_wall) (defBody s_wall) (defScope s_wall) .none kv0 dc0 pm0 an0 cd0 ct0), sl0⟩) (c0 : PySem.W.codeIn K cd0 "_wall" = true) (k0 : PySem.W.keepIn K (.ref f0) = true)
    (a1 : PySem.W.nsIn K mainGlobals "height" = some (some (.ref f1))) (l1 : K.lookup f1 = some ⟨oc1, od1, .func (PySem.W.fnOf "height" "height" (defArgs s_height) (defBody s_height) (defScope s_height) .none kv1 dc1 pm1 an1 cd1 ct1), sl1⟩) (c1 : PySem.W.codeIn K cd1 "height" = true) (k1 : PySem.W.keepIn K (.ref f1) = true)
    (a2 : PySem.W.nsIn K mainGlobals "operands" = some (some (.ref f2))) (l2 : K.lookup f2 = some ⟨oc2, od2, .func (PySem.W.fnOf "operands" "operands" (defArgs s_operands) (defBody s_operands) (defScope s_operands) .none kv2 dc2 pm2 an2 cd2 ct2), sl2⟩) (c2 : PySem.W.codeIn K cd2 "operands" = true) (k2 : PySem.W.keepIn K (.ref f2) = true)
    (a3 : PySem.W.nsIn K mainGlobals "postorder" = some (some (.ref f3))) (l3 : K.lookup f3 = some ⟨oc3, od3, .func (PySem.W.fnOf "postorder" "postorder" (defArgs s_postorder) (defBody s_postorder) (defScope s_postorder) .none kv3 dc3 pm3 an3 cd3 ct3), sl3⟩) (c3 : PySem.W.codeIn K cd3 "postorder" = true) (k3 : PySem.W.keepIn K (.ref f3) = true)
    (a4 : PySem.W.nsIn K mainGlobals "show_expression" = some (some (.ref f4))) (l4 : K.lookup f4 = some ⟨oc4, od4, .func (PySem.W.fnOf "show_expression" "show_expression" (defArgs s_show_expression) (defBody s_show_expression) (defScope s_show_expression) .none kv4 dc4 pm4 an4 cd4 ct4), sl4⟩) (c4 : PySem.W.codeIn K cd4 "show_expression" = true) (k4 : PySem.W.keepIn K (.ref f4) = true)
    (a5 : PySem.W.nsIn K mainGlobals "show_deck" = some (some (.ref f5))) (l5 : K.lookup f5 = some ⟨oc5, od5, .func (PySem.W.fnOf "show_deck" "show_deck" (defArgs s_show_deck) (defBody s_show_deck) (defScope s_show_deck) .none kv5 dc5 pm5 an5 cd5 ct5), sl5⟩) (c5 : PySem.W.codeIn K cd5 "show_deck" = true) (k5 : PySem.W.keepIn K (.ref f5) = true)
    (a6 : PySem.W.nsIn K mainGlobals "_with_operands" = some (some (.ref f6))) (l6 : K.lookup f6 = some ⟨oc6, od6, .func (PySem.W.fnOf "_with_operands" "_with_operands" (defArgs s_with_operands) (defBody s_with_operands) (defScope s_with_operands) .none kv6 dc6 pm6 an6 cd6 ct6), sl6⟩) (c6 : PySem.W.codeIn K cd6 "_with_operands" = true) (k6 : PySem.W.keepIn K (.ref f6) = true)
    (a7 : PySem.W.nsIn K mainGlobals "_operand" = some (some (.ref f7))) (l7 : K.lookup f7 = some ⟨oc7, od7, .func (PySem.W.fnOf "_operand" "_operand" (defArgs s_operand) (defBody s_operand) (defScope s_operand) .none kv7 dc7 pm7 an7 cd7 ct7), sl7⟩) (c7 : PySem.W.codeIn K cd7 "_operand" = true) (k7 : PySem.W.keepIn K (.ref f7) = true)
    (a8 : PySem.W.nsIn K mainGlobals "_cell_lines" = some (some (.ref f8))) (l8 : K.lookup f8 = some ⟨oc8, od8, .func (PySem.W.fnOf "_cell_lines" "_cell_lines" (defArgs s_cell_lines) (defBody s_cell_lines) (defScope s_cell_lines) .none kv8 dc8 pm8 an8 cd8 ct8), sl8⟩) (c8 : PySem.W.codeIn K cd8 "_cell_lines" = true) (k8 : PySem.W.keepIn K (.ref f8) = true)
    (a9 : PySem.W.nsIn K mainGlobals "_module_lines" = some (some (.ref f9))) (l9 : K.lookup f9 = some ⟨oc9, od9, .func (PySem.W.fnOf "_module_lines" "_module_lines" (defArgs s_module_lines) (defBody s_module_lines) (defScope s_module_lines) .none kv9 dc9 pm9 an9 cd9 ct9), sl9⟩) (c9 : PySem.W.codeIn K cd9 "_module_lines" = true) (k9 : PySem.W.keepIn K (.ref f9) = true)
    (a10 : PySem.W.nsIn K mainGlobals "item_printer" = some (some (.ref f10))) (l10 : K.lookup f10 = some ⟨oc10, od10, .func (PySem.W.fnOf "_item" "_item" (defArgs s_item_printer) (defBody s_item_printer) (defScope s_item_printer) .none kv10 dc10 pm10 an10 cd10 ct10), sl10⟩) (c10 : PySem.W.codeIn K cd10 "_item" = true) (k10 : PySem.W.keepIn K (.ref f10) = true)
    (a11 : PySem.W.nsIn K mainGlobals "names_printer" = some (some (.ref f11))) (l11 : K.lookup f11 = some ⟨oc11, od11, .func (PySem.W.fnOf "_names" "_names" (defArgs s_names_printer) (defBody s_names_printer) (defScope s_names_printer) .none kv11 dc11 pm11 an11 cd11 ct11), sl11⟩) (c11 : PySem.W.codeIn K cd11 "_names" = true) (k11 : PySem.W.keepIn K (.ref f11) = true)
    (a12 : PySem.W.nsIn K mainGlobals "range_printer" = some (some (.ref f12))) (l12 : K.lookup f12 = some ⟨oc12, od12, .func (PySem.W.fnOf "_range" "_range" (defArgs s_range_printer) (defBody s_range_printer) (defScope s_range_printer) .none kv12 dc12 pm12 an12 cd12 ct12), sl12⟩) (c12 : PySem.W.codeIn K cd12 "_range" = true) (k12 : PySem.W.keepIn K (.ref f12) = true)
    (a13 : PySem.W.nsIn K mainGlobals "tokenize" = some (some (.ref f13))) (l13 : K.lookup f13 = some ⟨oc13, od13, .func (PySem.W.fnOf "tokenize" "tokenize" (defArgs s_tokenize) (defBody s_tokenize) (defScope s_tokenize) .none kv13 dc13 pm13 an13 cd13 ct13), sl13⟩) (c13 : PySem.W.codeIn K cd13 "tokenize" = true) (k13 : PySem.W.keepIn K (.ref f13) = true)
    (a14 : PySem.W.nsIn K mainGlobals "is_name" = some (some (.ref f14))) (l14 : K.lookup f14 = some ⟨oc14, od14, .func (PySem.W.fnOf "is_name" "is_name" (defArgs s_is_name) (defBody s_is_name) (defScope s_is_name) .none kv14 dc14 pm14 an14 cd14 ct14), sl14⟩) (c14 : PySem.W.codeIn K cd14 "is_name" = true) (k14 : PySem.W.keepIn K (.ref f14) = true)
    (a15 : PySem.W.nsIn K mainGlobals "is_numeral" = some (some (.ref f15))) (l15 : K.lookup f15 = some ⟨oc15, od15, .func (PySem.W.fnOf "is_numeral" "is_numeral" (defArgs s_is_numeral) (defBody s_is_numeral) (defScope s_is_numeral) .none kv15 dc15 pm15 an15 cd15 ct15), sl15⟩) (c15 : PySem.W.codeIn K cd15 "is_numeral" = true) (k15 : PySem.W.keepIn K (.ref f15) = true)
    (a16 : PySem.W.nsIn K mainGlobals "is_word" = some (some (.ref f16))) (l16 : K.lookup f16 = some ⟨oc16, od16, .func (PySem.W.fnOf "is_word" "is_word" (defArgs s_is_word) (defBody s_is_word) (defScope s_is_word) .none kv16 dc16 pm16 an16 cd16 ct16), sl16⟩) (c16 : PySem.W.codeIn K cd16 "is_word" = true) (k16 : PySem.W.keepIn K (.ref f16) = true)
    (a17 : PySem.W.nsIn K mainGlobals "_token_at" = some (some (.ref f17))) (l17 : K.lookup f17 = some ⟨oc17, od17, .func (PySem.W.fnOf "_token_at" "_token_at" (defArgs s_token_at) (defBody s_token_at) (defScope s_token_at) .none kv17 dc17 pm17 an17 cd17 ct17), sl17⟩) (c17 : PySem.W.codeIn K cd17 "_token_at" = true) (k17 : PySem.W.keepIn K (.ref f17) = true)
    (a18 : PySem.W.nsIn K mainGlobals "_run_end" = some (some (.ref f18))) (l18 : K.lookup f18 = some ⟨oc18, od18, .func (PySem.W.fnOf "_run_end" "_run_end" (defArgs s_run_end) (defBody s_run_end) (defScope s_run_end) .none kv18 dc18 pm18 an18 cd18 ct18), sl18⟩) (c18 : PySem.W.codeIn K cd18 "_run_end" = true) (k18 : PySem.W.keepIn K (.ref f18) = true)
    (a19 : PySem.W.nsIn K mainGlobals "_line_end" = some (some (.ref f19))) (l19 : K.lookup f19 = some ⟨oc19, od19, .func (PySem.W.fnOf "_line_end" "_line_end" (defArgs s_line_end) (defBody s_line_end) (defScope s_line_end) .none kv19 dc19 pm19 an19 cd19 ct19), sl19⟩) (c19 : PySem.W.codeIn K cd19 "_line_end" = true) (k19 : PySem.W.keepIn K (.ref f19) = true)
    (a20 : PySem.W.nsIn K mainGlobals "parse_deck" = some (some (.ref f20))) (l20 : K.lookup f20 = some ⟨oc20, od20, .func (PySem.W.fnOf "parse_deck" "parse_deck" (defArgs s_parse_deck) (defBody s_parse_deck) (defScope s_parse_deck) .none kv20 dc20 pm20 an20 cd20 ct20), sl20⟩) (c20 : PySem.W.codeIn K cd20 "parse_deck" = true) (k20 : PySem.W.keepIn K (.ref f20) = true)
    (a21 : PySem.W.nsIn K mainGlobals "_reader" = some (some (.ref f21))) (l21 : K.lookup f21 = some ⟨oc21, od21, .func (PySem.W.fnOf "_reader" "_reader" (defArgs s_reader) (defBody s_reader) (defScope s_reader) .none kv21 dc21 pm21 an21 cd21 ct21), sl21⟩) (c21 : PySem.W.codeIn K cd21 "_reader" = true) (k21 : PySem.W.keepIn K (.ref f21) = true)
    (a22 : PySem.W.nsIn K mainGlobals "_check_brackets" = some (some (.ref f22))) (l22 : K.lookup f22 = some ⟨oc22, od22, .func (PySem.W.fnOf "_check_brackets" "_check_brackets" (defArgs s_check_brackets) (defBody s_check_brackets) (defScope s_check_brackets) .none kv22 dc22 pm22 an22 cd22 ct22), sl22⟩) (c22 : PySem.W.codeIn K cd22 "_check_brackets" = true) (k22 : PySem.W.keepIn K (.ref f22) = true)
    (a23 : PySem.W.nsIn K mainGlobals "_check_height" = some (some (.ref f23))) (l23 : K.lookup f23 = some ⟨oc23, od23, .func (PySem.W.fnOf "_check_height" "_check_height" (defArgs s_check_height) (defBody s_check_height) (defScope s_check_height) .none kv23 dc23 pm23 an23 cd23 ct23), sl23⟩) (c23 : PySem.W.codeIn K cd23 "_check_height" = true) (k23 : PySem.W.keepIn K (.ref f23) = true)
    (a24 : PySem.W.nsIn K mainGlobals "_cell" = some (some (.ref f24))) (l24 : K.lookup f24 = some ⟨oc24, od24, .func (PySem.W.fnOf "_cell" "_cell" (defArgs s_cell) (defBody s_cell) (defScope s_cell) .none kv24 dc24 pm24 an24 cd24 ct24), sl24⟩) (c24 : PySem.W.codeIn K cd24 "_cell" = true) (k24 : PySem.W.keepIn K (.ref f24) = true)
    (a25 : PySem.W.nsIn K mainGlobals "_module" = some (some (.ref f25))) (l25 : K.lookup f25 = some ⟨oc25, od25, .func (PySem.W.fnOf "_module" "_module" (defArgs s_module) (defBody s_module) (defScope s_module) .none kv25 dc25 pm25 an25 cd25 ct25), sl25⟩) (c25 : PySem.W.codeIn K cd25 "_module" = true) (k25 : PySem.W.keepIn K (.ref f25) = true)
    (a26 : PySem.W.nsIn K mainGlobals "item_parser" = some (some (.ref f26))) (l26 : K.lookup f26 = some ⟨oc26, od26, .func (PySem.W.fnOf "_item" "_item" (defArgs s_item_parser) (defBody s_item_parser) (defScope s_item_parser) .none kv26 dc26 pm26 an26 cd26 ct26), sl26⟩) (c26 : PySem.W.codeIn K cd26 "_item" = true) (k26 : PySem.W.keepIn K (.ref f26) = true)
    (a27 : PySem.W.nsIn K mainGlobals "_gate" = some (some (.ref f27))) (l27 : K.lookup f27 = some ⟨oc27, od27, .func (PySem.W.fnOf "_gate" "_gate" (defArgs s_gate) (defBody s_gate) (defScope s_gate) .none kv27 dc27 pm27 an27 cd27 ct27), sl27⟩) (c27 : PySem.W.codeIn K cd27 "_gate" = true) (k27 : PySem.W.keepIn K (.ref f27) = true)
    (a28 : PySem.W.nsIn K mainGlobals "_part" = some (some (.ref f28))) (l28 : K.lookup f28 = some ⟨oc28, od28, .func (PySem.W.fnOf "_part" "_part" (defArgs s_part) (defBody s_part) (defScope s_part) .none kv28 dc28 pm28 an28 cd28 ct28), sl28⟩) (c28 : PySem.W.codeIn K cd28 "_part" = true) (k28 : PySem.W.keepIn K (.ref f28) = true)
    (a29 : PySem.W.nsIn K mainGlobals "_reg" = some (some (.ref f29))) (l29 : K.lookup f29 = some ⟨oc29, od29, .func (PySem.W.fnOf "_reg" "_reg" (defArgs s_reg) (defBody s_reg) (defScope s_reg) .none kv29 dc29 pm29 an29 cd29 ct29), sl29⟩) (c29 : PySem.W.codeIn K cd29 "_reg" = true) (k29 : PySem.W.keepIn K (.ref f29) = true)
    (a30 : PySem.W.nsIn K mainGlobals "names_parser" = some (some (.ref f30))) (l30 : K.lookup f30 = some ⟨oc30, od30, .func (PySem.W.fnOf "_names" "_names" (defArgs s_names_parser) (defBody s_names_parser) (defScope s_names_parser) .none kv30 dc30 pm30 an30 cd30 ct30), sl30⟩) (c30 : PySem.W.codeIn K cd30 "_names" = true) (k30 : PySem.W.keepIn K (.ref f30) = true)
    (a31 : PySem.W.nsIn K mainGlobals "range_parser" = some (some (.ref f31))) (l31 : K.lookup f31 = some ⟨oc31, od31, .func (PySem.W.fnOf "_range" "_range" (defArgs s_range_parser) (defBody s_range_parser) (defScope s_range_parser) .none kv31 dc31 pm31 an31 cd31 ct31), sl31⟩) (c31 : PySem.W.codeIn K cd31 "_range" = true) (k31 : PySem.W.keepIn K (.ref f31) = true)
    {dT32 : Addr} {dtk32 : Tok} {dtn32 : Nat} {dtc32 : Value} {dtd32 : Option Addr} {dtsl32 : Array (Option Value)}
    (a32 : PySem.W.nsIn K mainGlobals "_expression" = some (some (.ref f32))) (l32 : K.lookup f32 = some ⟨oc32, od32, .func (PySem.W.fnOf "_expression" "_expression" (defArgs s_expression) (defBody s_expression) (defScope s_expression) (.ref dT32) kv32 dc32 pm32 an32 cd32 ct32), sl32⟩) (c32 : PySem.W.codeIn K cd32 "_expression" = true) (k32 : PySem.W.keepIn K (.ref f32) = true) (t32 : K.lookup dT32 = some ⟨dtc32, dtd32, .seq #[.int 0 dtk32] dtn32, dtsl32⟩)
    (a33 : PySem.W.nsIn K mainGlobals "_factor" = some (some (.ref f33))) (l33 : K.lookup f33 = some ⟨oc33, od33, .func (PySem.W.fnOf "_factor" "_factor" (defArgs s_factor) (defBody s_factor) (defScope s_factor) .none kv33 dc33 pm33 an33 cd33 ct33), sl33⟩) (c33 : PySem.W.codeIn K cd33 "_factor" = true) (k33 : PySem.W.keepIn K (.ref f33) = true)
    (a34 : PySem.W.nsIn K mainGlobals "_atom" = some (some (.ref f34))) (l34 : K.lookup f34 = some ⟨oc34, od34, .func (PySem.W.fnOf "_atom" "_atom" (defArgs s_atom) (defBody s_atom) (defScope s_atom) .none kv34 dc34 pm34 an34 cd34 ct34), sl34⟩) (c34 : PySem.W.codeIn K cd34 "_atom" = true) (k34 : PySem.W.keepIn K (.ref f34) = true)
    (a35 : PySem.W.nsIn K mainGlobals "_law_pool" = some (some (.ref f35))) (l35 : K.lookup f35 = some ⟨oc35, od35, .func (PySem.W.fnOf "_law_pool" "_law_pool" (defArgs s_law_pool) (defBody s_law_pool) (defScope s_law_pool) .none kv35 dc35 pm35 an35 cd35 ct35), sl35⟩) (c35 : PySem.W.codeIn K cd35 "_law_pool" = true) (k35 : PySem.W.keepIn K (.ref f35) = true)
    (a36 : PySem.W.nsIn K mainGlobals "_law_spread" = some (some (.ref f36))) (l36 : K.lookup f36 = some ⟨oc36, od36, .func (PySem.W.fnOf "_law_spread" "_law_spread" (defArgs s_law_spread) (defBody s_law_spread) (defScope s_law_spread) .none kv36 dc36 pm36 an36 cd36 ct36), sl36⟩) (c36 : PySem.W.codeIn K cd36 "_law_spread" = true) (k36 : PySem.W.keepIn K (.ref f36) = true)
    (a37 : PySem.W.nsIn K mainGlobals "_law_draw" = some (some (.ref f37))) (l37 : K.lookup f37 = some ⟨oc37, od37, .func (PySem.W.fnOf "_law_draw" "_law_draw" (defArgs s_law_draw) (defBody s_law_draw) (defScope s_law_draw) .none kv37 dc37 pm37 an37 cd37 ct37), sl37⟩) (c37 : PySem.W.codeIn K cd37 "_law_draw" = true) (k37 : PySem.W.keepIn K (.ref f37) = true)
    (a38 : PySem.W.nsIn K mainGlobals "_law_same" = some (some (.ref f38))) (l38 : K.lookup f38 = some ⟨oc38, od38, .func (PySem.W.fnOf "_law_same" "_law_same" (defArgs s_law_same) (defBody s_law_same) (defScope s_law_same) .none kv38 dc38 pm38 an38 cd38 ct38), sl38⟩) (c38 : PySem.W.codeIn K cd38 "_law_same" = true) (k38 : PySem.W.keepIn K (.ref f38) = true)
    (a39 : PySem.W.nsIn K mainGlobals "_law_word" = some (some (.ref f39))) (l39 : K.lookup f39 = some ⟨oc39, od39, .func (PySem.W.fnOf "_law_word" "_law_word" (defArgs s_law_word) (defBody s_law_word) (defScope s_law_word) .none kv39 dc39 pm39 an39 cd39 ct39), sl39⟩) (c39 : PySem.W.codeIn K cd39 "_law_word" = true) (k39 : PySem.W.keepIn K (.ref f39) = true)
    (a40 : PySem.W.nsIn K mainGlobals "_law_numeral" = some (some (.ref f40))) (l40 : K.lookup f40 = some ⟨oc40, od40, .func (PySem.W.fnOf "_law_numeral" "_law_numeral" (defArgs s_law_numeral) (defBody s_law_numeral) (defScope s_law_numeral) .none kv40 dc40 pm40 an40 cd40 ct40), sl40⟩) (c40 : PySem.W.codeIn K cd40 "_law_numeral" = true) (k40 : PySem.W.keepIn K (.ref f40) = true)
    (a41 : PySem.W.nsIn K mainGlobals "_law_tree" = some (some (.ref f41))) (l41 : K.lookup f41 = some ⟨oc41, od41, .func (PySem.W.fnOf "_law_tree" "_law_tree" (defArgs s_law_tree) (defBody s_law_tree) (defScope s_law_tree) .none kv41 dc41 pm41 an41 cd41 ct41), sl41⟩) (c41 : PySem.W.codeIn K cd41 "_law_tree" = true) (k41 : PySem.W.keepIn K (.ref f41) = true)
    (a42 : PySem.W.nsIn K mainGlobals "_law_level" = some (some (.ref f42))) (l42 : K.lookup f42 = some ⟨oc42, od42, .func (PySem.W.fnOf "_law_level" "_law_level" (defArgs s_law_level) (defBody s_law_level) (defScope s_law_level) .none kv42 dc42 pm42 an42 cd42 ct42), sl42⟩) (c42 : PySem.W.codeIn K cd42 "_law_level" = true) (k42 : PySem.W.keepIn K (.ref f42) = true)
    (a43 : PySem.W.nsIn K mainGlobals "_law_tokens" = some (some (.ref f43))) (l43 : K.lookup f43 = some ⟨oc43, od43, .func (PySem.W.fnOf "_law_tokens" "_law_tokens" (defArgs s_law_tokens) (defBody s_law_tokens) (defScope s_law_tokens) .none kv43 dc43 pm43 an43 cd43 ct43), sl43⟩) (c43 : PySem.W.codeIn K cd43 "_law_tokens" = true) (k43 : PySem.W.keepIn K (.ref f43) = true)
    (a44 : PySem.W.nsIn K mainGlobals "_law_closed" = some (some (.ref f44))) (l44 : K.lookup f44 = some ⟨oc44, od44, .func (PySem.W.fnOf "_law_closed" "_law_closed" (defArgs s_law_closed) (defBody s_law_closed) (defScope s_law_closed) .none kv44 dc44 pm44 an44 cd44 ct44), sl44⟩) (c44 : PySem.W.codeIn K cd44 "_law_closed" = true) (k44 : PySem.W.keepIn K (.ref f44) = true)
    (a45 : PySem.W.nsIn K mainGlobals "_law_printed" = some (some (.ref f45))) (l45 : K.lookup f45 = some ⟨oc45, od45, .func (PySem.W.fnOf "_law_printed" "_law_printed" (defArgs s_law_printed) (defBody s_law_printed) (defScope s_law_printed) .none kv45 dc45 pm45 an45 cd45 ct45), sl45⟩) (c45 : PySem.W.codeIn K cd45 "_law_printed" = true) (k45 : PySem.W.keepIn K (.ref f45) = true)
    (a46 : PySem.W.nsIn K mainGlobals "_law_range" = some (some (.ref f46))) (l46 : K.lookup f46 = some ⟨oc46, od46, .func (PySem.W.fnOf "_law_range" "_law_range" (defArgs s_law_range) (defBody s_law_range) (defScope s_law_range) .none kv46 dc46 pm46 an46 cd46 ct46), sl46⟩) (c46 : PySem.W.codeIn K cd46 "_law_range" = true) (k46 : PySem.W.keepIn K (.ref f46) = true)
    (a47 : PySem.W.nsIn K mainGlobals "_law_names" = some (some (.ref f47))) (l47 : K.lookup f47 = some ⟨oc47, od47, .func (PySem.W.fnOf "_law_names" "_law_names" (defArgs s_law_names) (defBody s_law_names) (defScope s_law_names) .none kv47 dc47 pm47 an47 cd47 ct47), sl47⟩) (c47 : PySem.W.codeIn K cd47 "_law_names" = true) (k47 : PySem.W.keepIn K (.ref f47) = true)
    (a48 : PySem.W.nsIn K mainGlobals "_law_item" = some (some (.ref f48))) (l48 : K.lookup f48 = some ⟨oc48, od48, .func (PySem.W.fnOf "_law_item" "_law_item" (defArgs s_law_item) (defBody s_law_item) (defScope s_law_item) .none kv48 dc48 pm48 an48 cd48 ct48), sl48⟩) (c48 : PySem.W.codeIn K cd48 "_law_item" = true) (k48 : PySem.W.keepIn K (.ref f48) = true)
    (a49 : PySem.W.nsIn K mainGlobals "_law_cell_of" = some (some (.ref f49))) (l49 : K.lookup f49 = some ⟨oc49, od49, .func (PySem.W.fnOf "_law_cell_of" "_law_cell_of" (defArgs s_law_cell_of) (defBody s_law_cell_of) (defScope s_law_cell_of) .none kv49 dc49 pm49 an49 cd49 ct49), sl49⟩) (c49 : PySem.W.codeIn K cd49 "_law_cell_of" = true) (k49 : PySem.W.keepIn K (.ref f49) = true)
    (a50 : PySem.W.nsIn K mainGlobals "_law_deck" = some (some (.ref f50))) (l50 : K.lookup f50 = some ⟨oc50, od50, .func (PySem.W.fnOf "_law_deck" "_law_deck" (defArgs s_law_deck) (defBody s_law_deck) (defScope s_law_deck) .none kv50 dc50 pm50 an50 cd50 ct50), sl50⟩) (c50 : PySem.W.codeIn K cd50 "_law_deck" = true) (k50 : PySem.W.keepIn K (.ref f50) = true)
    (a51 : PySem.W.nsIn K mainGlobals "_law_list" = some (some (.ref f51))) (l51 : K.lookup f51 = some ⟨oc51, od51, .func (PySem.W.fnOf "_law_list" "_law_list" (defArgs s_law_list) (defBody s_law_list) (defScope s_law_list) .none kv51 dc51 pm51 an51 cd51 ct51), sl51⟩) (c51 : PySem.W.codeIn K cd51 "_law_list" = true) (k51 : PySem.W.keepIn K (.ref f51) = true)
    (a52 : PySem.W.nsIn K mainGlobals "_law_pair" = some (some (.ref f52))) (l52 : K.lookup f52 = some ⟨oc52, od52, .func (PySem.W.fnOf "_law_pair" "_law_pair" (defArgs s_law_pair) (defBody s_law_pair) (defScope s_law_pair) .none kv52 dc52 pm52 an52 cd52 ct52), sl52⟩) (c52 : PySem.W.codeIn K cd52 "_law_pair" = true) (k52 : PySem.W.keepIn K (.ref f52) = true)
    (a53 : PySem.W.nsIn K mainGlobals "_law_line" = some (some (.ref f53))) (l53 : K.lookup f53 = some ⟨oc53, od53, .func (PySem.W.fnOf "_law_line" "_law_line" (defArgs s_law_line) (defBody s_law_line) (defScope s_law_line) .none kv53 dc53 pm53 an53 cd53 ct53), sl53⟩) (c53 : PySem.W.codeIn K cd53 "_law_line" = true) (k53 : PySem.W.keepIn K (.ref f53) = true)
    (a54 : PySem.W.nsIn K mainGlobals "_law_show" = some (some (.ref f54))) (l54 : K.lookup f54 = some ⟨oc54, od54, .func (PySem.W.fnOf "_law_show" "_law_show" (defArgs s_law_show) (defBody s_law_show) (defScope s_law_show) .none kv54 dc54 pm54 an54 cd54 ct54), sl54⟩) (c54 : PySem.W.codeIn K cd54 "_law_show" = true) (k54 : PySem.W.keepIn K (.ref f54) = true)
    (a55 : PySem.W.nsIn K mainGlobals "law" = some (some (.ref f55))) (l55 : K.lookup f55 = some ⟨oc55, od55, .func (PySem.W.fnOf "law" "law" (defArgs s_law) (defBody s_law) (defScope s_law) .none kv55 dc55 pm55 an55 cd55 ct55), sl55⟩) (c55 : PySem.W.codeIn K cd55 "law" = true) (k55 : PySem.W.keepIn K (.ref f55) = true)
    {ca0 : Addr} {cdd0 : Option Addr} {cn0 : Nat} {csl0 : Array (Option Value)} {ct0_0 ct0_1 ct0_2 ct0_3 ct0_4 ct0_5 ct0_6 ct0_7 ct0_8 ct0_9 ct0_10 : Tok} (g0 : PySem.W.nsIn K mainGlobals "KEYWORDS" = some (some (.ref ca0))) (h0 : K.lookup ca0 = some ⟨.type "tuple", cdd0, .seq #[.str "cell" ct0_0, .str "pin" ct0_1, .str "module" ct0_2, .str "gate" ct0_3, .str "part" ct0_4, .str "reg" ct0_5, .str "edge" ct0_6, .str "out" ct0_7, .str "setup" ct0_8, .str "hold" ct0_9, .str "start" ct0_10] cn0, csl0⟩)
    {ca1 : Addr} {cdd1 : Option Addr} {cn1 : Nat} {csl1 : Array (Option Value)} {ct1_0 ct1_1 ct1_2 ct1_3 ct1_4 ct1_5 ct1_6 ct1_7 ct1_8 ct1_9 ct1_10 ct1_11 ct1_12 ct1_13 : Tok} (g1 : PySem.W.nsIn K mainGlobals "SIGNS_tokens" = some (some (.ref ca1))) (h1 : K.lookup ca1 = some ⟨.type "tuple", cdd1, .seq #[.str "(" ct1_0, .str ")" ct1_1, .str "{" ct1_2, .str "}" ct1_3, .str "," ct1_4, .str ";" ct1_5, .str ":" ct1_6, .str "=" ct1_7, .str "->" ct1_8, .str ".." ct1_9, .str "&" ct1_10, .str "|" ct1_11, .str "^" ct1_12, .str "!" ct1_13] cn1, csl1⟩)
    {ct2 : Tok} (g2 : PySem.W.nsIn K mainGlobals "LETTERS" = some (some (.str "abcdefghijklmnopqrstuvwxyz" ct2)))
    {ct3 : Tok} (g3 : PySem.W.nsIn K mainGlobals "DIGITS" = some (some (.str "0123456789" ct3)))
    {ct4 : Tok} (g4 : PySem.W.nsIn K mainGlobals "RUN_CHARACTERS" = some (some (.str "abcdefghijklmnopqrstuvwxyz0123456789_" ct4)))
    {ct5 : Tok} (g5 : PySem.W.nsIn K mainGlobals "MOST_DIGITS" = some (some (.int 9 ct5)))
    {ct6 : Tok} (g6 : PySem.W.nsIn K mainGlobals "MOST_BRACKETS" = some (some (.int 20 ct6)))
    {ct7 : Tok} (g7 : PySem.W.nsIn K mainGlobals "MOST_NEGATIONS" = some (some (.int 20 ct7)))
    {ct8 : Tok} (g8 : PySem.W.nsIn K mainGlobals "MOST_HEIGHT" = some (some (.int 20 ct8)))
    {ca9 cb9_0 cb9_1 cb9_2 : Addr} {cdd9 : Option Addr} {cn9 : Nat} {csl9 : Array (Option Value)} (g9 : PySem.W.nsIn K mainGlobals "BINARY" = some (some (.ref ca9))) (h9 : K.lookup ca9 = some ⟨.type "tuple", cdd9, .seq #[.ref cb9_0, .ref cb9_1, .ref cb9_2] cn9, csl9⟩)
    {cdd9_0 : Option Addr} {cn9_0 : Nat} {csl9_0 : Array (Option Value)} {cu9_0_0 cu9_0_1 : Tok} (h9_0 : K.lookup cb9_0 = some ⟨.type "tuple", cdd9_0, .seq #[.str "|" cu9_0_0, .str "or" cu9_0_1] cn9_0, csl9_0⟩)
    {cdd9_1 : Option Addr} {cn9_1 : Nat} {csl9_1 : Array (Option Value)} {cu9_1_0 cu9_1_1 : Tok} (h9_1 : K.lookup cb9_1 = some ⟨.type "tuple", cdd9_1, .seq #[.str "^" cu9_1_0, .str "xor" cu9_1_1] cn9_1, csl9_1⟩)
    {cdd9_2 : Option Addr} {cn9_2 : Nat} {csl9_2 : Array (Option Value)} {cu9_2_0 cu9_2_1 : Tok} (h9_2 : K.lookup cb9_2 = some ⟨.type "tuple", cdd9_2, .seq #[.str "&" cu9_2_0, .str "and" cu9_2_1] cn9_2, csl9_2⟩)
    {da0 : Addr} {dt0_0 dt0_1 dt0_2 : Tok} (dg0 : PySem.W.nsIn K mainGlobals "SIGNS_printer" = some (some (.ref da0))) (dw0 : He.dicW K da0 = some (He.keysIn w.params ["or", "xor", "and"])) (dn0_0 : PySem.W.nsIn K da0 "or" = some (some (.str " | " dt0_0))) (dn0_1 : PySem.W.nsIn K da0 "xor" = some (some (.str " ^ " dt0_1))) (dn0_2 : PySem.W.nsIn K da0 "and" = some (some (.str " & " dt0_2)))
    {da1 : Addr} {dt1_0 dt1_1 dt1_2 dt1_3 dt1_4 dt1_5 : Tok} (dg1 : PySem.W.nsIn K mainGlobals "LEVELS" = some (some (.ref da1))) (dw1 : He.dicW K da1 = some (He.keysIn w.params ["or", "xor", "and", "not", "name", "const"])) (dn1_0 : PySem.W.nsIn K da1 "or" = some (some (.int 1 dt1_0))) (dn1_1 : PySem.W.nsIn K da1 "xor" = some (some (.int 2 dt1_1))) (dn1_2 : PySem.W.nsIn K da1 "and" = some (some (.int 3 dt1_2))) (dn1_3 : PySem.W.nsIn K da1 "not" = some (some (.int 4 dt1_3))) (dn1_4 : PySem.W.nsIn K da1 "name" = some (some (.int 5 dt1_4))) (dn1_5 : PySem.W.nsIn K da1 "const" = some (some (.int 5 dt1_5)))
    {iC0 : Addr} (w0_0 : PySem.W.nsIn K mainGlobals "TooDeep" = some (some (.ref iC0))) (w0_1 : PySem.W.excIn K iC0 [.type "ValueError", .type "Exception", .type "BaseException", .type "object"] "ValueError.__new__" = true) (w0_2 : PySem.W.keepIn K (.ref iC0) = true) (w0_3 : PySem.W.subIn K (.ref iC0) (.type "BaseException") = some true) (w0_4 : PySem.W.typeIn K (.ref iC0) = some (.type "type")) (w0_5 : PySem.W.hasDictIn K iC0 = true) (w0_6 : PySem.W.subIn K (.ref iC0) (.ref iC0) = some true) (w0_7 : PySem.W.findIn K (.ref iC0) "__getattribute__" = some (some (.builtin "BaseException.__getattribute__"))) (w0_8 : PySem.W.findIn K (.ref iC0) "__getattr__" = some none) (w0_9 : PySem.W.findIn K (.ref iC0) "__class__" = some (some (.builtin "object.__class__"))) (w0_10 : PySem.W.specialIn K (.builtin "object.__class__") "__get__" = some (some (.builtin "getset_descriptor.__get__"))) (w0_11 : PySem.W.takesIn K (.builtin "object.__class__") = some true) (w0_12 : PySem.W.mroIn K iC0 (.type "object") = some true)
    {eC0 fe0 cdae0 cce0 : Addr} {ode0 ane0 od2e0 od3e0 : Option Addr} {sle0 sl2e0 sl3e0 : Array (Option Value)} {vse0 : Array Value} {filee0 : Str} {tfe0 : Tok} {oce0 kve0 dce0 pme0 cte0 oc2e0 oc3e0 : Value} (q0_0 : PySem.W.nsIn K mainGlobals "BadSyntax" = some (some (.ref eC0))) (q0_1 : PySem.W.findIn K (.ref eC0) "__init__" = some (some (.ref fe0))) (q0_2 : K.lookup fe0 = some ⟨oce0, ode0, .func (PySem.W.fnX "__init__" "BadSyntax.__init__" (defArgs s_BadSyntax_init) (defBody s_BadSyntax_init) (defScope s_BadSyntax_init) [("__class__", cce0)] .none kve0 dce0 pme0 ane0 (.ref cdae0) cte0), sle0⟩) (q0_3 : PySem.W.codeIn K (.ref cdae0) "BadSyntax.__init__" = true) (q0_4 : K.lookup cdae0 = some ⟨oc2e0, od2e0, .fields vse0, sl2e0⟩) (q0_5 : vse0[2]? = some (.str filee0 tfe0)) (q0_6 : K.lookup cce0 = some ⟨oc3e0, od3e0, .cell (some (.ref eC0)), sl3e0⟩) (q0_7 : oexB K eC0 = true) (q0_8 : PySem.W.findIn K (.ref eC0) "__setattr__" = some (some (.builtin "object.__setattr__"))) (q0_9 : PySem.W.subIn K (.ref eC0) (.type "BaseException") = some true) (q0_10 : PySem.W.typeIn K (.ref eC0) = some (.type "type")) (q0_11 : PySem.W.keepIn K (.ref eC0) = true) (q0_12 : PySem.W.typeIn K (.ref fe0) = some (.type "function")) (q0_13 : PySem.W.nsIn K mainGlobals "super" = some none) (q0_14 : PySem.W.nsIn K cStatics "thirdparty.any" = some none) (q0_15 : PySem.W.subIn K (.ref eC0) (.type "ValueError") = some true) (q0_16 : PySem.W.mroIn K eC0 (.ref eC0) = some true) (q0_17 : PySem.W.ks_superIn K eC0 eC0 "__init__" = some (some (.builtin "ValueError.__init__"))) (q0_18 : PySem.W.findIn K (.ref eC0) "at" = some none) (q0_19 : PySem.W.hasDictIn K eC0 = true) (q0_20 : PySem.W.findIn K (.ref eC0) "__getattribute__" = some (some (.builtin "BaseException.__getattribute__"))) (q0_21 : PySem.W.findIn K (.ref eC0) "__getattr__" = some none) (q0_22 : PySem.W.findIn K (.ref eC0) "__class__" = some (some (.builtin "object.__class__"))) (q0_23 : PySem.W.specialIn K (.builtin "object.__class__") "__get__" = some (some (.builtin "getset_descriptor.__get__"))) (q0_24 : PySem.W.takesIn K (.builtin "object.__class__") = some true) (q0_25 : PySem.W.mroIn K eC0 (.type "object") = some true) (q0_26 : ((l.prog.main.file : Str) == filee0) = true) (q0_27 : (l.prog.main.scope.names.lookup ("super" : Str)).isSome = false)
    {yC0 : Addr} {f0m0 : Addr} {od0m0 an0m0 : Option Addr} {sl0m0 : Array (Option Value)} {oc0m0 kv0m0 dc0m0 pm0m0 cd0m0 ct0m0 : Value} {f0m1 : Addr} {od0m1 an0m1 : Option Addr} {sl0m1 : Array (Option Value)} {oc0m1 kv0m1 dc0m1 pm0m1 cd0m1 ct0m1 : Value} {f0m2 : Addr} {od0m2 an0m2 : Option Addr} {sl0m2 : Array (Option Value)} {oc0m2 kv0m2 dc0m2 pm0m2 cd0m2 ct0m2 : Value} {f0m3 : Addr} {od0m3 an0m3 : Option Addr} {sl0m3 : Array (Option Value)} {oc0m3 kv0m3 dc0m3 pm0m3 cd0m3 ct0m3 : Value} {f0m4 : Addr} {od0m4 an0m4 : Option Addr} {sl0m4 : Array (Option Value)} {oc0m4 kv0m4 dc0m4 pm0m4 cd0m4 ct0m4 : Value} {f0m5 : Addr} {od0m5 an0m5 : Option Addr} {sl0m5 : Array (Option Value)} {oc0m5 kv0m5 dc0m5 pm0m5 cd0m5 ct0m5 : Value} {f0m6 : Addr} {od0m6 an0m6 : Option Addr} {sl0m6 : Array (Option Value)} {oc0m6 kv0m6 dc0m6 pm0m6 cd0m6 ct0m6 : Value}
    (y0_0 : PySem.W.nsIn K mainGlobals "TokenReader" = some (some (.ref yC0))) (y0_4 : PySem.W.findIn K (.ref yC0) "__setattr__" = some (some (.builtin "object.__setattr__"))) (y0_10 : PySem.W.findIn K (.ref yC0) "__init__" = some (some (.ref f0m0))) (y0_15 : PySem.W.findIn K (.ref yC0) "ahead" = some (some (.ref f0m1))) (y0_20 : PySem.W.findIn K (.ref yC0) "take" = some (some (.ref f0m2))) (y0_25 : PySem.W.findIn K (.ref yC0) "take_if" = some (some (.ref f0m3))) (y0_30 : PySem.W.findIn K (.ref yC0) "take_name" = some (some (.ref f0m4))) (y0_35 : PySem.W.findIn K (.ref yC0) "take_numeral" = some (some (.ref f0m5))) (y0_40 : PySem.W.findIn K (.ref yC0) "take_bit" = some (some (.ref f0m6))) (y0_42 : PySem.W.findIn K (.ref yC0) "tokens" = some none) (y0_43 : PySem.W.findIn K (.ref yC0) "at" = some none) (y0_1 : PySem.W.plainGet K yC0 Str.empty = true) (y0_2 : PySem.W.hasDictIn K yC0 = true) (y0_3 : PySem.W.plainOver K yC0 = true) (y0_5 : PySem.W.makesIn K yC0 = true) (y0_6 : PySem.W.keepIn K (.ref yC0) = true) (y0_7 : K.lookup f0m0 = some ⟨oc0m0, od0m0, .func (PySem.W.fnOf "__init__" "TokenReader.__init__" (defArgs s_TokenReader_init) (defBody s_TokenReader_init) (defScope s_TokenReader_init) .none kv0m0 dc0m0 pm0m0 an0m0 cd0m0 ct0m0), sl0m0⟩) (y0_8 : PySem.W.codeIn K cd0m0 "TokenReader.__init__" = true) (y0_9 : PySem.W.keepIn K (.ref f0m0) = true) (y0_11 : PySem.W.isFn K (.ref f0m0) = true) (y0_12 : K.lookup f0m1 = some ⟨oc0m1, od0m1, .func (PySem.W.fnOf "ahead" "TokenReader.ahead" (defArgs s_TokenReader_ahead) (defBody s_TokenReader_ahead) (defScope s_TokenReader_ahead) .none kv0m1 dc0m1 pm0m1 an0m1 cd0m1 ct0m1), sl0m1⟩) (y0_13 : PySem.W.codeIn K cd0m1 "TokenReader.ahead" = true) (y0_14 : PySem.W.keepIn K (.ref f0m1) = true) (y0_16 : PySem.W.isFn K (.ref f0m1) = true) (y0_17 : K.lookup f0m2 = some ⟨oc0m2, od0m2, .func (PySem.W.fnOf "take" "TokenReader.take" (defArgs s_TokenReader_take) (defBody s_TokenReader_take) (defScope s_TokenReader_take) .none kv0m2 dc0m2 pm0m2 an0m2 cd0m2 ct0m2), sl0m2⟩) (y0_18 : PySem.W.codeIn K cd0m2 "TokenReader.take" = true) (y0_19 : PySem.W.keepIn K (.ref f0m2) = true) (y0_21 : PySem.W.isFn K (.ref f0m2) = true) (y0_22 : K.lookup f0m3 = some ⟨oc0m3, od0m3, .func (PySem.W.fnOf "take_if" "TokenReader.take_if" (defArgs s_TokenReader_take_if) (defBody s_TokenReader_take_if) (defScope s_TokenReader_take_if) .none kv0m3 dc0m3 pm0m3 an0m3 cd0m3 ct0m3), sl0m3⟩) (y0_23 : PySem.W.codeIn K cd0m3 "TokenReader.take_if" = true) (y0_24 : PySem.W.keepIn K (.ref f0m3) = true) (y0_26 : PySem.W.isFn K (.ref f0m3) = true) (y0_27 : K.lookup f0m4 = some ⟨oc0m4, od0m4, .func (PySem.W.fnOf "take_name" "TokenReader.take_name" (defArgs s_TokenReader_take_name) (defBody s_TokenReader_take_name) (defScope s_TokenReader_take_name) .none kv0m4 dc0m4 pm0m4 an0m4 cd0m4 ct0m4), sl0m4⟩) (y0_28 : PySem.W.codeIn K cd0m4 "TokenReader.take_name" = true) (y0_29 : PySem.W.keepIn K (.ref f0m4) = true) (y0_31 : PySem.W.isFn K (.ref f0m4) = true) (y0_32 : K.lookup f0m5 = some ⟨oc0m5, od0m5, .func (PySem.W.fnOf "take_numeral" "TokenReader.take_numeral" (defArgs s_TokenReader_take_numeral) (defBody s_TokenReader_take_numeral) (defScope s_TokenReader_take_numeral) .none kv0m5 dc0m5 pm0m5 an0m5 cd0m5 ct0m5), sl0m5⟩) (y0_33 : PySem.W.codeIn K cd0m5 "TokenReader.take_numeral" = true) (y0_34 : PySem.W.keepIn K (.ref f0m5) = true) (y0_36 : PySem.W.isFn K (.ref f0m5) = true) (y0_37 : K.lookup f0m6 = some ⟨oc0m6, od0m6, .func (PySem.W.fnOf "take_bit" "TokenReader.take_bit" (defArgs s_TokenReader_take_bit) (defBody s_TokenReader_take_bit) (defScope s_TokenReader_take_bit) .none kv0m6 dc0m6 pm0m6 an0m6 cd0m6 ct0m6), sl0m6⟩) (y0_38 : PySem.W.codeIn K cd0m6 "TokenReader.take_bit" = true) (y0_39 : PySem.W.keepIn K (.ref f0m6) = true) (y0_41 : PySem.W.isFn K (.ref f0m6) = true)
    (z0 : PySem.W.nsIn K mainGlobals "len" = some none) (z1 : PySem.W.nsIn K mainGlobals "max" = some none) (z2 : PySem.W.nsIn K mainGlobals "super" = some none) (z3 : PySem.W.nsIn K mainGlobals "all" = some none) (z4 : PySem.W.nsIn K mainGlobals "list" = some none) (z5 : PySem.W.nsIn K mainGlobals "int" = some none) (z6 : PySem.W.nsIn K mainGlobals "tuple" = some none) (z7 : PySem.W.nsIn K mainGlobals "range" = some none) (z8 : PySem.W.nsIn K mainGlobals "isinstance" = some none) (z9 : PySem.W.nsIn K mainGlobals "bool" = some none) (z10 : PySem.W.nsIn K mainGlobals "str" = some none) (z11 : PySem.W.nsIn K mainGlobals "ValueError" = some none) :
    ∃ fd : FuncData, (∀ (s : Shared) (v : Value), BindsTo s fd ⟨[v], []⟩ [("script", v)]) ∧ ∀ base : Heap, K.In base → base.Ns mainGlobals mg → FnOk l.prog w K mg base CX0 44 fa fd ["script"] (spLaw K) := by
  have e := hfa.symm.trans (PySem.W.mg_of X G a55)
  cases e
  have F0 := fun_mk (st := s_wall) l0 c0 k0
  have F1 := fun_mk (st := s_height) l1 c1 k1
  have F2 := fun_mk (st := s_operands) l2 c2 k2
  have F3 := fun_mk (st := s_postorder) l3 c3 k3
  have F4 := fun_mk (st := s_show_expression) l4 c4 k4
  have F5 := fun_mk (st := s_show_deck) l5 c5 k5
  have F6 := fun_mk (st := s_with_operands) l6 c6 k6
  have F7 := fun_mk (st := s_operand) l7 c7 k7
  have F8 := fun_mk (st := s_cell_lines) l8 c8 k8
  have F9 := fun_mk (st := s_module_lines) l9 c9 k9
  have F10 := fun_mk (st := s_item_printer) l10 c10 k10
  have F11 := fun_mk (st := s_names_printer) l11 c11 k11
  have F12 := fun_mk (st := s_range_printer) l12 c12 k12
  have F13 := fun_mk (st := s_tokenize) l13 c13 k13
  have F14 := fun_mk (st := s_is_name) l14 c14 k14
  have F15 := fun_mk (st := s_is_numeral) l15 c15 k15
  have F16 := fun_mk (st := s_is_word) l16 c16 k16
  have F17 := fun_mk (st := s_token_at) l17 c17 k17
  have F18 := fun_mk (st := s_run_end) l18 c18 k18
  have F19 := fun_mk (st := s_line_end) l19 c19 k19
  have F20 := fun_mk (st := s_parse_deck) l20 c20 k20
  have F21 := fun_mk (st := s_reader) l21 c21 k21
  have F22 := fun_mk (st := s_check_brackets) l22 c22 k22
  have F23 := fun_mk (st := s_check_height) l23 c23 k23
  have F24 := fun_mk (st := s_cell) l24 c24 k24
  have F25 := fun_mk (st := s_module) l25 c25 k25
  have F26 := fun_mk (st := s_item_parser) l26 c26 k26
  have F27 := fun_mk (st := s_gate) l27 c27 k27
  have F28 := fun_mk (st := s_part) l28 c28 k28
  have F29 := fun_mk (st := s_reg) l29 c29 k29
  have F30 := fun_mk (st := s_names_parser) l30 c30 k30
  have F31 := fun_mk (st := s_range_parser) l31 c31 k31
  have F32 := dfl_mk (st := s_expression) l32 c32 k32 t32
  have F33 := fun_mk (st := s_factor) l33 c33 k33
  have F34 := fun_mk (st := s_atom) l34 c34 k34
  have F35 := fun_mk (st := s_law_pool) l35 c35 k35
  have F36 := fun_mk (st := s_law_spread) l36 c36 k36
  have F37 := fun_mk (st := s_law_draw) l37 c37 k37
  have F38 := fun_mk (st := s_law_same) l38 c38 k38
  have F39 := fun_mk (st := s_law_word) l39 c39 k39
  have F40 := fun_mk (st := s_law_numeral) l40 c40 k40
  have F41 := fun_mk (st := s_law_tree) l41 c41 k41
  have F42 := fun_mk (st := s_law_level) l42 c42 k42
  have F43 := fun_mk (st := s_law_tokens) l43 c43 k43
  have F44 := fun_mk (st := s_law_closed) l44 c44 k44
  have F45 := fun_mk (st := s_law_printed) l45 c45 k45
  have F46 := fun_mk (st := s_law_range) l46 c46 k46
  have F47 := fun_mk (st := s_law_names) l47 c47 k47
  have F48 := fun_mk (st := s_law_item) l48 c48 k48
  have F49 := fun_mk (st := s_law_cell_of) l49 c49 k49
  have F50 := fun_mk (st := s_law_deck) l50 c50 k50
  have F51 := fun_mk (st := s_law_list) l51 c51 k51
  have F52 := fun_mk (st := s_law_pair) l52 c52 k52
  have F53 := fun_mk (st := s_law_line) l53 c53 k53
  have F54 := fun_mk (st := s_law_show) l54 c54 k54
  have F55 := fun_mk (st := s_law) l55 c55 k55
  have A : All K mg := ⟨⟨f0, _, F0, PySem.W.mg_of X G a0, F0.binds (ps := ["k"]) fun _ _ _ _ _ _ us hl => match us, hl with | [_], _ => rfl⟩,
    ⟨f1, _, F1, PySem.W.mg_of X G a1, F1.binds (ps := ["tree"]) fun _ _ _ _ _ _ us hl => match us, hl with | [_], _ => rfl⟩,
    ⟨f2, _, F2, PySem.W.mg_of X G a2, F2.binds (ps := ["tree"]) fun _ _ _ _ _ _ us hl => match us, hl with | [_], _ => rfl⟩,
    ⟨f3, _, F3, PySem.W.mg_of X G a3, F3.binds (ps := ["tree"]) fun _ _ _ _ _ _ us hl => match us, hl with | [_], _ => rfl⟩,
    ⟨f4, _, F4, PySem.W.mg_of X G a4, F4.binds (ps := ["tree"]) fun _ _ _ _ _ _ us hl => match us, hl with | [_], _ => rfl⟩,
    ⟨f5, _, F5, PySem.W.mg_of X G a5, F5.binds (ps := ["deck"]) fun _ _ _ _ _ _ us hl => match us, hl with | [_], _ => rfl⟩,
    ⟨f6, _, F6, PySem.W.mg_of X G a6, F6.binds (ps := ["part", "texts"]) fun _ _ _ _ _ _ us hl => match us, hl with | [_, _], _ => rfl⟩,
    ⟨f7, _, F7, PySem.W.mg_of X G a7, F7.binds (ps := ["tree", "text", "least"]) fun _ _ _ _ _ _ us hl => match us, hl with | [_, _, _], _ => rfl⟩,
    ⟨f8, _, F8, PySem.W.mg_of X G a8, F8.binds (ps := ["cell"]) fun _ _ _ _ _ _ us hl => match us, hl with | [_], _ => rfl⟩,
    ⟨f9, _, F9, PySem.W.mg_of X G a9, F9.binds (ps := ["module"]) fun _ _ _ _ _ _ us hl => match us, hl with | [_], _ => rfl⟩,
    ⟨f10, _, F10, PySem.W.mg_of X G a10, F10.binds (ps := ["item"]) fun _ _ _ _ _ _ us hl => match us, hl with | [_], _ => rfl⟩,
    ⟨f11, _, F11, PySem.W.mg_of X G a11, F11.binds (ps := ["names"]) fun _ _ _ _ _ _ us hl => match us, hl with | [_], _ => rfl⟩,
    ⟨f12, _, F12, PySem.W.mg_of X G a12, F12.binds (ps := ["pair"]) fun _ _ _ _ _ _ us hl => match us, hl with | [_], _ => rfl⟩,
    ⟨f13, _, F13, PySem.W.mg_of X G a13, F13.binds (ps := ["text"]) fun _ _ _ _ _ _ us hl => match us, hl with | [_], _ => rfl⟩,
    ⟨f14, _, F14, PySem.W.mg_of X G a14, F14.binds (ps := ["token"]) fun _ _ _ _ _ _ us hl => match us, hl with | [_], _ => rfl⟩,
    ⟨f15, _, F15, PySem.W.mg_of X G a15, F15.binds (ps := ["token"]) fun _ _ _ _ _ _ us hl => match us, hl with | [_], _ => rfl⟩,
    ⟨f16, _, F16, PySem.W.mg_of X G a16, F16.binds (ps := ["token"]) fun _ _ _ _ _ _ us hl => match us, hl with | [_], _ => rfl⟩,
    ⟨f17, _, F17, PySem.W.mg_of X G a17, F17.binds (ps := ["text", "at"]) fun _ _ _ _ _ _ us hl => match us, hl with | [_, _], _ => rfl⟩,
    ⟨f18, _, F18, PySem.W.mg_of X G a18, F18.binds (ps := ["text", "at"]) fun _ _ _ _ _ _ us hl => match us, hl with | [_, _], _ => rfl⟩,
    ⟨f19, _, F19, PySem.W.mg_of X G a19, F19.binds (ps := ["text", "at"]) fun _ _ _ _ _ _ us hl => match us, hl with | [_, _], _ => rfl⟩,
    ⟨f20, _, F20, PySem.W.mg_of X G a20, F20.binds (ps := ["text"]) fun _ _ _ _ _ _ us hl => match us, hl with | [_], _ => rfl⟩,
    ⟨f21, _, F21, PySem.W.mg_of X G a21, F21.binds (ps := ["text"]) fun _ _ _ _ _ _ us hl => match us, hl with | [_], _ => rfl⟩,
    ⟨f22, _, F22, PySem.W.mg_of X G a22, F22.binds (ps := ["tokens"]) fun _ _ _ _ _ _ us hl => match us, hl with | [_], _ => rfl⟩,
    ⟨f23, _, F23, PySem.W.mg_of X G a23, F23.binds (ps := ["tree"]) fun _ _ _ _ _ _ us hl => match us, hl with | [_], _ => rfl⟩,
    ⟨f24, _, F24, PySem.W.mg_of X G a24, F24.binds (ps := ["reader"]) fun _ _ _ _ _ _ us hl => match us, hl with | [_], _ => rfl⟩,
    ⟨f25, _, F25, PySem.W.mg_of X G a25, F25.binds (ps := ["reader"]) fun _ _ _ _ _ _ us hl => match us, hl with | [_], _ => rfl⟩,
    ⟨f26, _, F26, PySem.W.mg_of X G a26, F26.binds (ps := ["reader"]) fun _ _ _ _ _ _ us hl => match us, hl with | [_], _ => rfl⟩,
    ⟨f27, _, F27, PySem.W.mg_of X G a27, F27.binds (ps := ["reader"]) fun _ _ _ _ _ _ us hl => match us, hl with | [_], _ => rfl⟩,
    ⟨f28, _, F28, PySem.W.mg_of X G a28, F28.binds (ps := ["reader"]) fun _ _ _ _ _ _ us hl => match us, hl with | [_], _ => rfl⟩,
    ⟨f29, _, F29, PySem.W.mg_of X G a29, F29.binds (ps := ["reader"]) fun _ _ _ _ _ _ us hl => match us, hl with | [_], _ => rfl⟩,
    ⟨f30, _, F30, PySem.W.mg_of X G a30, F30.binds (ps := ["reader"]) fun _ _ _ _ _ _ us hl => match us, hl with | [_], _ => rfl⟩,
    ⟨f31, _, F31, PySem.W.mg_of X G a31, F31.binds (ps := ["reader"]) fun _ _ _ _ _ _ us hl => match us, hl with | [_], _ => rfl⟩,
    ⟨f32, _, F32, PySem.W.mg_of X G a32, binds_full (FunD.binds1 (ps := ["reader", "level"]) F32 2 1 (by intro z; cases z) rfl fun _ _ _ _ _ _ _ us its h1 h2 => match us, its, h1, h2 with | [_, _], [_], _, _ => ⟨_, rfl, rfl⟩), FunD.binds1 (ps := ["reader", "level"]) F32 1 0 (by intro z; cases z) rfl fun _ _ _ _ _ _ _ us its h1 h2 => match us, its, h1, h2 with | [_], [_], _, _ => ⟨_, rfl, rfl⟩⟩,
    ⟨f33, _, F33, PySem.W.mg_of X G a33, F33.binds (ps := ["reader"]) fun _ _ _ _ _ _ us hl => match us, hl with | [_], _ => rfl⟩,
    ⟨f34, _, F34, PySem.W.mg_of X G a34, F34.binds (ps := ["reader"]) fun _ _ _ _ _ _ us hl => match us, hl with | [_], _ => rfl⟩,
    ⟨f35, _, F35, PySem.W.mg_of X G a35, F35.binds (ps := ["script"]) fun _ _ _ _ _ _ us hl => match us, hl with | [_], _ => rfl⟩,
    ⟨f36, _, F36, PySem.W.mg_of X G a36, F36.binds (ps := ["cell"]) fun _ _ _ _ _ _ us hl => match us, hl with | [_], _ => rfl⟩,
    ⟨f37, _, F37, PySem.W.mg_of X G a37, F37.binds (ps := ["pool", "many"]) fun _ _ _ _ _ _ us hl => match us, hl with | [_, _], _ => rfl⟩,
    ⟨f38, _, F38, PySem.W.mg_of X G a38, F38.binds (ps := ["actual", "due"]) fun _ _ _ _ _ _ us hl => match us, hl with | [_, _], _ => rfl⟩,
    ⟨f39, _, F39, PySem.W.mg_of X G a39, F39.binds (ps := ["pool"]) fun _ _ _ _ _ _ us hl => match us, hl with | [_], _ => rfl⟩,
    ⟨f40, _, F40, PySem.W.mg_of X G a40, F40.binds (ps := ["pool"]) fun _ _ _ _ _ _ us hl => match us, hl with | [_], _ => rfl⟩,
    ⟨f41, _, F41, PySem.W.mg_of X G a41, F41.binds (ps := ["pool", "deep", "names"]) fun _ _ _ _ _ _ us hl => match us, hl with | [_, _, _], _ => rfl⟩,
    ⟨f42, _, F42, PySem.W.mg_of X G a42, F42.binds (ps := ["tree"]) fun _ _ _ _ _ _ us hl => match us, hl with | [_], _ => rfl⟩,
    ⟨f43, _, F43, PySem.W.mg_of X G a43, F43.binds (ps := ["tree"]) fun _ _ _ _ _ _ us hl => match us, hl with | [_], _ => rfl⟩,
    ⟨f44, _, F44, PySem.W.mg_of X G a44, F44.binds (ps := ["tree", "least"]) fun _ _ _ _ _ _ us hl => match us, hl with | [_, _], _ => rfl⟩,
    ⟨f45, _, F45, PySem.W.mg_of X G a45, F45.binds (ps := ["tokens"]) fun _ _ _ _ _ _ us hl => match us, hl with | [_], _ => rfl⟩,
    ⟨f46, _, F46, PySem.W.mg_of X G a46, F46.binds (ps := ["pool"]) fun _ _ _ _ _ _ us hl => match us, hl with | [_], _ => rfl⟩,
    ⟨f47, _, F47, PySem.W.mg_of X G a47, F47.binds (ps := ["pool", "most"]) fun _ _ _ _ _ _ us hl => match us, hl with | [_, _], _ => rfl⟩,
    ⟨f48, _, F48, PySem.W.mg_of X G a48, F48.binds (ps := ["pool"]) fun _ _ _ _ _ _ us hl => match us, hl with | [_], _ => rfl⟩,
    ⟨f49, _, F49, PySem.W.mg_of X G a49, F49.binds (ps := ["pool"]) fun _ _ _ _ _ _ us hl => match us, hl with | [_], _ => rfl⟩,
    ⟨f50, _, F50, PySem.W.mg_of X G a50, F50.binds (ps := ["pool"]) fun _ _ _ _ _ _ us hl => match us, hl with | [_], _ => rfl⟩,
    ⟨f51, _, F51, PySem.W.mg_of X G a51, F51.binds (ps := ["names"]) fun _ _ _ _ _ _ us hl => match us, hl with | [_], _ => rfl⟩,
    ⟨f52, _, F52, PySem.W.mg_of X G a52, F52.binds (ps := ["pair"]) fun _ _ _ _ _ _ us hl => match us, hl with | [_], _ => rfl⟩,
    ⟨f53, _, F53, PySem.W.mg_of X G a53, F53.binds (ps := ["item"]) fun _ _ _ _ _ _ us hl => match us, hl with | [_], _ => rfl⟩,
    ⟨f54, _, F54, PySem.W.mg_of X G a54, F54.binds (ps := ["deck"]) fun _ _ _ _ _ _ us hl => match us, hl with | [_], _ => rfl⟩,
    PySem.W.mg_none_of X G z0,
    PySem.W.mg_none_of X G z1,
    PySem.W.mg_none_of X G z2,
    PySem.W.mg_none_of X G z3,
    PySem.W.mg_none_of X G z4,
    PySem.W.mg_none_of X G z5,
    PySem.W.mg_none_of X G z6,
    PySem.W.mg_none_of X G z7,
    PySem.W.mg_none_of X G z8,
    PySem.W.mg_none_of X G z9,
    PySem.W.mg_none_of X G z10,
    PySem.W.mg_none_of X G z11,
    ⟨ca0, PySem.W.mg_of X G g0, fun _ => .inr ⟨_, _, _, h0, rfl, rfl, (by show 11 ≤ sizeLine; decide), (.cons ⟨_, rfl⟩ (.cons ⟨_, rfl⟩ (.cons ⟨_, rfl⟩ (.cons ⟨_, rfl⟩ (.cons ⟨_, rfl⟩ (.cons ⟨_, rfl⟩ (.cons ⟨_, rfl⟩ (.cons ⟨_, rfl⟩ (.cons ⟨_, rfl⟩ (.cons ⟨_, rfl⟩ (.cons ⟨_, rfl⟩ .nil)))))))))))⟩⟩,
    ⟨ca1, PySem.W.mg_of X G g1, fun _ => .inr ⟨_, _, _, h1, rfl, rfl, (by show 14 ≤ sizeLine; decide), (.cons ⟨_, rfl⟩ (.cons ⟨_, rfl⟩ (.cons ⟨_, rfl⟩ (.cons ⟨_, rfl⟩ (.cons ⟨_, rfl⟩ (.cons ⟨_, rfl⟩ (.cons ⟨_, rfl⟩ (.cons ⟨_, rfl⟩ (.cons ⟨_, rfl⟩ (.cons ⟨_, rfl⟩ (.cons ⟨_, rfl⟩ (.cons ⟨_, rfl⟩ (.cons ⟨_, rfl⟩ (.cons ⟨_, rfl⟩ .nil))))))))))))))⟩⟩,
    ⟨_, PySem.W.mg_of X G g2⟩,
    ⟨_, PySem.W.mg_of X G g3⟩,
    ⟨_, PySem.W.mg_of X G g4⟩,
    ⟨_, PySem.W.mg_of X G g5⟩,
    ⟨_, PySem.W.mg_of X G g6⟩,
    ⟨_, PySem.W.mg_of X G g7⟩,
    ⟨_, PySem.W.mg_of X G g8⟩,
    ⟨ca9, cb9_0, cb9_1, cb9_2, PySem.W.mg_of X G g9, fun _ => ⟨.inr ⟨_, _, _, h9, rfl, rfl, (by show 3 ≤ sizeLine; decide), (.cons rfl (.cons rfl (.cons rfl .nil)))⟩, .inr ⟨_, _, _, h9_0, rfl, rfl, (by show 2 ≤ sizeLine; decide), (.cons ⟨_, rfl⟩ (.cons ⟨_, rfl⟩ .nil))⟩, .inr ⟨_, _, _, h9_1, rfl, rfl, (by show 2 ≤ sizeLine; decide), (.cons ⟨_, rfl⟩ (.cons ⟨_, rfl⟩ .nil))⟩, .inr ⟨_, _, _, h9_2, rfl, rfl, (by show 2 ≤ sizeLine; decide), (.cons ⟨_, rfl⟩ (.cons ⟨_, rfl⟩ .nil))⟩⟩⟩,
    ⟨yC0, ⟨PySem.W.mg_of X G y0_0, ⟨y0_1, y0_2, y0_3, y0_4⟩, ⟨f0m0, _, ⟨y0_5, y0_10, y0_11, y0_6⟩, (fun_mk (st := s_TokenReader_init) y0_7 y0_8 y0_9), (fun_mk (st := s_TokenReader_init) y0_7 y0_8 y0_9).binds (ps := ["self", "tokens"]) fun _ _ _ _ _ _ us hl => match us, hl with | [_, _], _ => rfl⟩, ⟨f0m1, _, ⟨y0_15, y0_16, y0_14⟩, (fun_mk (st := s_TokenReader_ahead) y0_12 y0_13 y0_14), (fun_mk (st := s_TokenReader_ahead) y0_12 y0_13 y0_14).binds (ps := ["self"]) fun _ _ _ _ _ _ us hl => match us, hl with | [_], _ => rfl⟩, ⟨f0m2, _, ⟨y0_20, y0_21, y0_19⟩, (fun_mk (st := s_TokenReader_take) y0_17 y0_18 y0_19), (fun_mk (st := s_TokenReader_take) y0_17 y0_18 y0_19).binds (ps := ["self", "token"]) fun _ _ _ _ _ _ us hl => match us, hl with | [_, _], _ => rfl⟩, ⟨f0m3, _, ⟨y0_25, y0_26, y0_24⟩, (fun_mk (st := s_TokenReader_take_if) y0_22 y0_23 y0_24), (fun_mk (st := s_TokenReader_take_if) y0_22 y0_23 y0_24).binds (ps := ["self", "token"]) fun _ _ _ _ _ _ us hl => match us, hl with | [_, _], _ => rfl⟩, ⟨f0m4, _, ⟨y0_30, y0_31, y0_29⟩, (fun_mk (st := s_TokenReader_take_name) y0_27 y0_28 y0_29), (fun_mk (st := s_TokenReader_take_name) y0_27 y0_28 y0_29).binds (ps := ["self"]) fun _ _ _ _ _ _ us hl => match us, hl with | [_], _ => rfl⟩, ⟨f0m5, _, ⟨y0_35, y0_36, y0_34⟩, (fun_mk (st := s_TokenReader_take_numeral) y0_32 y0_33 y0_34), (fun_mk (st := s_TokenReader_take_numeral) y0_32 y0_33 y0_34).binds (ps := ["self"]) fun _ _ _ _ _ _ us hl => match us, hl with | [_], _ => rfl⟩, ⟨f0m6, _, ⟨y0_40, y0_41, y0_39⟩, (fun_mk (st := s_TokenReader_take_bit) y0_37 y0_38 y0_39), (fun_mk (st := s_TokenReader_take_bit) y0_37 y0_38 y0_39).binds (ps := ["self"]) fun _ _ _ _ _ _ us hl => match us, hl with | [_], _ => rfl⟩, y0_42, y0_43⟩⟩,
    ⟨iC0, ⟨⟨PySem.W.mg_of X G w0_0, w0_1, w0_2, w0_3, w0_4⟩, w0_5, w0_6, ⟨w0_7, w0_8, w0_3, w0_5, w0_9, w0_10, w0_11, w0_12⟩⟩⟩⟩
  have OX0 : ∃ (C f : Addr) (fd : FuncData), ErrF l.prog K mg "BadSyntax" "BadSyntax.__init__" C f fd s_BadSyntax_init "at" := ⟨eC0, fe0, _, ⟨PySem.W.mg_of X G q0_0, ⟨_, ⟨⟨oexB_ok q0_7, q0_8, q0_9, q0_10, q0_11⟩, q0_1, q0_12, PySem.W.mg_none_of X G q0_13, q0_14, q0_15, q0_16, q0_17, ⟨_, _, _, _, _, _, _, _, _, _, _, rfl, q0_2, q0_3, ⟨_, _, _, _, _, q0_4, q0_5⟩, _, _, _, q0_6⟩⟩, q0_26⟩, q0_27, .all fun us hl => match us, hl with | [_, _], _ => rfl, q0_18, ⟨q0_20, q0_21, q0_9, q0_19, q0_22, q0_23, q0_24, q0_25⟩⟩⟩
  have OD0 : ∃ a : Addr, mg "SIGNS_printer" = some (.ref a) ∧ KDct K w a "or" (.str " | ") ∧ KDct K w a "xor" (.str " ^ ") ∧ KDct K w a "and" (.str " & ") := ⟨da0, PySem.W.mg_of X G dg0, kdct_of dw0 dn0_0 ⟨_, rfl⟩, kdct_of dw0 dn0_1 ⟨_, rfl⟩, kdct_of dw0 dn0_2 ⟨_, rfl⟩⟩
  have OD1 : ∃ a : Addr, mg "LEVELS" = some (.ref a) ∧ KDct K w a "or" (.int 1) ∧ KDct K w a "xor" (.int 2) ∧ KDct K w a "and" (.int 3) ∧ KDct K w a "not" (.int 4) ∧ KDct K w a "name" (.int 5) ∧ KDct K w a "const" (.int 5) := ⟨da1, PySem.W.mg_of X G dg1, kdct_of dw1 dn1_0 ⟨_, rfl⟩, kdct_of dw1 dn1_1 ⟨_, rfl⟩, kdct_of dw1 dn1_2 ⟨_, rfl⟩, kdct_of dw1 dn1_3 ⟨_, rfl⟩, kdct_of dw1 dn1_4 ⟨_, rfl⟩, kdct_of dw1 dn1_5 ⟨_, rfl⟩⟩
  exact ⟨_, fun s v => .of_eq rfl, fun base _ _ => glue A OX0 OD0 OD1 F55⟩
end G
open PySem PySem.W PyProof.Rows
set_option maxRecDepth 100000 in
set_option maxHeartbeats 0 in
theorem PySem.Challenge.cw_signoff_k05_decks_shown_and_read_holds : PySem.Challenge.rw_signoff_k05_decks_shown_and_read.Holds := by
  w_on; o_law; k_head; (case hw => w_witness2)
  k_fill
  refine L2.walk_of (l := PySem.Challenge.rw_signoff_k05_decks_shown_and_read) (n := 63) (k := 44) (x := "script") (CX := fun _ => L2.CX0) (sp := fun w => G.spLaw _) rfl (by decide) rfl ⟨rfl, by decide, by decide⟩ (fun w h Y => PySem.W.kIn_of Y) ?F (fun _ _ a ns hl _ hS => ⟨a, ns, rfl, hS, hl, fun _ => rfl⟩) (fun _ _ _ _ _ h => h)
  case F =>
    intro w mg fa h KX GN hmg
    refine' G.all_mk KX GN hmg ?a0 ?l0 ?c0 ?k0 ?a1 ?l1 ?c1 ?k1 ?a2 ?l2 ?c2 ?k2 ?a3 ?l3 ?c3 ?k3 ?a4 ?l4 ?c4 ?k4 ?a5 ?l5 ?c5 ?k5 ?a6 ?l6 ?c6 ?k6 ?a7 ?l7 ?c7 ?k7 ?a8 ?l8 ?c8 ?k8 ?a9 ?l9 ?c9 ?k9 ?a10 ?l10 ?c10 ?k10 ?a11 ?l11 ?c11 ?k11 ?a12 ?l12 ?c12 ?k12 ?a13 ?l13 ?c13 ?k13 ?a14 ?l14 ?c14 ?k14 ?a15 ?l15 ?c15 ?k15 ?a16 ?l16 ?c16 ?k16 ?a17 ?l17 ?c17 ?k17 ?a18 ?l18 ?c18 ?k18 ?a19 ?l19 ?c19 ?k19 ?a20 ?l20 ?c20 ?k20 ?a21 ?l21 ?c21 ?k21 ?a22 ?l22 ?c22 ?k22 ?a23 ?l23 ?c23 ?k23 ?a24 ?l24 ?c24 ?k24 ?a25 ?l25 ?c25 ?k25 ?a26 ?l26 ?c26 ?k26 ?a27 ?l27 ?c27 ?k27 ?a28 ?l28 ?c28 ?k28 ?a29 ?l29 ?c29 ?k29 ?a30 ?l30 ?c30 ?k30 ?a31 ?l31 ?c31 ?k31 ?a32 ?l32 ?c32 ?k32 ?t32 ?a33 ?l33 ?c33 ?k33 ?a34 ?l34 ?c34 ?k34 ?a35 ?l35 ?c35 ?k35 ?a36 ?l36 ?c36 ?k36 ?a37 ?l37 ?c37 ?k37 ?a38 ?l38 ?c38 ?k38 ?a39 ?l39 ?c39 ?k39 ?a40 ?l40 ?c40 ?k40 ?a41 ?l41 ?c41 ?k41 ?a42 ?l42 ?c42 ?k42 ?a43 ?l43 ?c43 ?k43 ?a44 ?l44 ?c44 ?k44 ?a45 ?l45 ?c45 ?k45 ?a46 ?l46 ?c46 ?k46 ?a47 ?l47 ?c47 ?k47 ?a48 ?l48 ?c48 ?k48 ?a49 ?l49 ?c49 ?k49 ?a50 ?l50 ?c50 ?k50 ?a51 ?l51 ?c51 ?k51 ?a52 ?l52 ?c52 ?k52 ?a53 ?l53 ?c53 ?k53 ?a54 ?l54 ?c54 ?k54 ?a55 ?l55 ?c55 ?k55 ?cg0 ?ch0 ?cg1 ?ch1 ?cg2 ?cg3 ?cg4 ?cg5 ?cg6 ?cg7 ?cg8 ?cg9 ?ch9 ?ch9_0 ?ch9_1 ?ch9_2 ?dg0 ?dw0 ?dn0_0 ?dn0_1 ?dn0_2 ?dg1 ?dw1 ?dn1_0 ?dn1_1 ?dn1_2 ?dn1_3 ?dn1_4 ?dn1_5 ?xw0_0 ?xw0_1 ?xw0_2 ?xw0_3 ?xw0_4 ?xw0_5 ?xw0_6 ?xw0_7 ?xw0_8 ?xw0_9 ?xw0_10 ?xw0_11 ?xw0_12 ?kq0_0 ?kq0_1 ?kq0_2 ?kq0_3 ?kq0_4 ?rq0_5 ?kq0_6 ?rq0_7 ?kq0_8 ?kq0_9 ?kq0_10 ?kq0_11 ?kq0_12 ?kq0_13 ?kq0_14 ?kq0_15 ?kq0_16 ?rq0_17 ?kq0_18 ?kq0_19 ?kq0_20 ?kq0_21 ?kq0_22 ?kq0_23 ?kq0_24 ?kq0_25 ?rq0_26 ?rq0_27 ?vy0_0 ?vy0_4 ?vy0_10 ?vy0_15 ?vy0_20 ?vy0_25 ?vy0_30 ?vy0_35 ?vy0_40 ?vy0_42 ?vy0_43 ?vy0_1 ?vy0_2 ?vy0_3 ?vy0_5 ?vy0_6 ?vy0_7 ?vy0_8 ?vy0_9 ?vy0_11 ?vy0_12 ?vy0_13 ?vy0_14 ?vy0_16 ?vy0_17 ?vy0_18 ?vy0_19 ?vy0_21 ?vy0_22 ?vy0_23 ?vy0_24 ?vy0_26 ?vy0_27 ?vy0_28 ?vy0_29 ?vy0_31 ?vy0_32 ?vy0_33 ?vy0_34 ?vy0_36 ?vy0_37 ?vy0_38 ?vy0_39 ?vy0_41 ?z0 ?z1 ?z2 ?z3 ?z4 ?z5 ?z6 ?z7 ?z8 ?z9 ?z10 ?z11
    (case a0 => k_is)
    (case l0 => k_is)
    (case c0 => k_is)
    (case k0 => k_is)
    (case a1 => k_is)
    (case l1 => k_is)
    (case c1 => k_is)
    (case k1 => k_is)
    (case a2 => k_is)
    (case l2 => k_is)
    (case c2 => k_is)
    (case k2 => k_is)
    (case a3 => k_is)
    (case l3 => k_is)
    (case c3 => k_is)
    (case k3 => k_is)
    (case a4 => k_is)
    (case l4 => k_is)
    (case c4 => k_is)
    (case k4 => k_is)
    (case a5 => k_is)
    (case l5 => k_is)
    (case c5 => k_is)
    (case k5 => k_is)
    (case a6 => k_is)
    (case l6 => k_is)
    (case c6 => k_is)
    (case k6 => k_is)
    (case a7 => k_is)
    (case l7 => k_is)
    (case c7 => k_is)
    (case k7 => k_is)
    (case a8 => k_is)
    (case l8 => k_is)
    (case c8 => k_is)
    (case k8 => k_is)
    (case a9 => k_is)
    (case l9 => k_is)
    (case c9 => k_is)
    (case k9 => k_is)
    (case a10 => k_is)
    (case l10 => k_is)
    (case c10 => k_is)
    (case k10 => k_is)
    (case a11 => k_is)
    (case l11 => k_is)
    (case c11 => k_is)
    (case k11 => k_is)
    (case a12 => k_is)
    (case l12 => k_is)
    (case c12 => k_is)
    (case k12 => k_is)
    (case a13 => k_is)
    (case l13 => k_is)
    (case c13 => k_is)
    (case k13 => k_is)
    (case a14 => k_is)
    (case l14 => k_is)
    (case c14 => k_is)
    (case k14 => k_is)
    (case a15 => k_is)
    (case l15 => k_is)
    (case c15 => k_is)
    (case k15 => k_is)
    (case a16 => k_is)
    (case l16 => k_is)
    (case c16 => k_is)
    (case k16 => k_is)
    (case a17 => k_is)
    (case l17 => k_is)
    (case c17 => k_is)
    (case k17 => k_is)
    (case a18 => k_is)
    (case l18 => k_is)
    (case c18 => k_is)
    (case k18 => k_is)
    (case a19 => k_is)
    (case l19 => k_is)
    (case c19 => k_is)
    (case k19 => k_is)
    (case a20 => k_is)
    (case l20 => k_is)
    (case c20 => k_is)
    (case k20 => k_is)
    (case a21 => k_is)
    (case l21 => k_is)
    (case c21 => k_is)
    (case k21 => k_is)
    (case a22 => k_is)
    (case l22 => k_is)
    (case c22 => k_is)
    (case k22 => k_is)
    (case a23 => k_is)
    (case l23 => k_is)
    (case c23 => k_is)
    (case k23 => k_is)
    (case a24 => k_is)
    (case l24 => k_is)
    (case c24 => k_is)
    (case k24 => k_is)
    (case a25 => k_is)
    (case l25 => k_is)
    (case c25 => k_is)
    (case k25 => k_is)
    (case a26 => k_is)
    (case l26 => k_is)
    (case c26 => k_is)
    (case k26 => k_is)
    (case a27 => k_is)
    (case l27 => k_is)
    (case c27 => k_is)
    (case k27 => k_is)
    (case a28 => k_is)
    (case l28 => k_is)
    (case c28 => k_is)
    (case k28 => k_is)
    (case a29 => k_is)
    (case l29 => k_is)
    (case c29 => k_is)
    (case k29 => k_is)
    (case a30 => k_is)
    (case l30 => k_is)
    (case c30 => k_is)
    (case k30 => k_is)
    (case a31 => k_is)
    (case l31 => k_is)
    (case c31 => k_is)
    (case k31 => k_is)
    (case a32 => k_is)
    (case l32 => k_is)
    (case c32 => k_is)
    (case k32 => k_is)
    (case t32 => k_is)
    (case a33 => k_is)
    (case l33 => k_is)
    (case c33 => k_is)
    (case k33 => k_is)
    (case a34 => k_is)
    (case l34 => k_is)
    (case c34 => k_is)
    (case k34 => k_is)
    (case a35 => k_is)
    (case l35 => k_is)
    (case c35 => k_is)
    (case k35 => k_is)
    (case a36 => k_is)
    (case l36 => k_is)
    (case c36 => k_is)
    (case k36 => k_is)
    (case a37 => k_is)
    (case l37 => k_is)
    (case c37 => k_is)
    (case k37 => k_is)
    (case a38 => k_is)
    (case l38 => k_is)
    (case c38 => k_is)
    (case k38 => k_is)
    (case a39 => k_is)
    (case l39 => k_is)
    (case c39 => k_is)
    (case k39 => k_is)
    (case a40 => k_is)
    (case l40 => k_is)
    (case c40 => k_is)
    (case k40 => k_is)
    (case a41 => k_is)
    (case l41 => k_is)
    (case c41 => k_is)
    (case k41 => k_is)
    (case a42 => k_is)
    (case l42 => k_is)
    (case c42 => k_is)
    (case k42 => k_is)
    (case a43 => k_is)
    (case l43 => k_is)
    (case c43 => k_is)
    (case k43 => k_is)
    (case a44 => k_is)
    (case l44 => k_is)
    (case c44 => k_is)
    (case k44 => k_is)
    (case a45 => k_is)
    (case l45 => k_is)
    (case c45 => k_is)
    (case k45 => k_is)
    (case a46 => k_is)
    (case l46 => k_is)
    (case c46 => k_is)
    (case k46 => k_is)
    (case a47 => k_is)
    (case l47 => k_is)
    (case c47 => k_is)
    (case k47 => k_is)
    (case a48 => k_is)
    (case l48 => k_is)
    (case c48 => k_is)
    (case k48 => k_is)
    (case a49 => k_is)
    (case l49 => k_is)
    (case c49 => k_is)
    (case k49 => k_is)
    (case a50 => k_is)
    (case l50 => k_is)
    (case c50 => k_is)
    (case k50 => k_is)
    (case a51 => k_is)
    (case l51 => k_is)
    (case c51 => k_is)
    (case k51 => k_is)
    (case a52 => k_is)
    (case l52 => k_is)
    (case c52 => k_is)
    (case k52 => k_is)
    (case a53 => k_is)
    (case l53 => k_is)
    (case c53 => k_is)
    (case k53 => k_is)
    (case a54 => k_is)
    (case l54 => k_is)
    (case c54 => k_is)
    (case k54 => k_is)
    (case a55 => k_is)
    (case l55 => k_is)
    (case c55 => k_is)
    (case k55 => k_is)
    (case cg0 => k_is)
    (case ch0 => k_is)
    (case cg1 => k_is)
    (case ch1 => k_is)
    (case cg2 => k_is)
    (case cg3 => k_is)
    (case cg4 => k_is)
    (case cg5 => k_is)
    (case cg6 => k_is)
    (case cg7 => k_is)
    (case cg8 => k_is)
    (case cg9 => k_is)
    (case ch9 => k_is)
    (case ch9_0 => k_is)
    (case ch9_1 => k_is)
    (case ch9_2 => k_is)
    (case dg0 => k_is)
    (case dw0 => first | k_is | rfl | kernel_rfl)
    (case dn0_0 => k_is)
    (case dn0_1 => k_is)
    (case dn0_2 => k_is)
    (case dg1 => k_is)
    (case dw1 => first | k_is | rfl | kernel_rfl)
    (case dn1_0 => k_is)
    (case dn1_1 => k_is)
    (case dn1_2 => k_is)
    (case dn1_3 => k_is)
    (case dn1_4 => k_is)
    (case dn1_5 => k_is)
    (case xw0_0 => first | k_exc | k_is | rfl)
    (case xw0_1 => first | k_exc | k_is | rfl)
    (case xw0_2 => first | k_exc | k_is | rfl)
    (case xw0_3 => first | k_exc | k_is | rfl)
    (case xw0_4 => first | k_exc | k_is | rfl)
    (case xw0_5 => first | k_exc | k_is | rfl)
    (case xw0_6 => first | k_exc | k_is | rfl)
    (case xw0_7 => first | k_exc | k_is | rfl)
    (case xw0_8 => first | k_exc | k_is | rfl)
    (case xw0_9 => first | k_exc | k_is | rfl)
    (case xw0_10 => first | k_exc | k_is | rfl)
    (case xw0_11 => first | k_exc | k_is | rfl)
    (case xw0_12 => first | k_exc | k_is | rfl)
    (case kq0_0 => first | k_exc | k_is | rfl)
    (case kq0_1 => first | k_exc | k_is | rfl)
    (case kq0_2 => first | k_exc | k_is | rfl)
    (case kq0_3 => first | k_exc | k_is | rfl)
    (case kq0_4 => first | k_exc | k_is | rfl)
    (case rq0_5 => first | rfl | kernel_rfl | decide +kernel)
    (case kq0_6 => first | k_exc | k_is | rfl)
    (case rq0_7 => first | rfl | kernel_rfl | decide +kernel)
    (case kq0_8 => first | k_exc | k_is | rfl)
    (case kq0_9 => first | k_exc | k_is | rfl)
    (case kq0_10 => first | k_exc | k_is | rfl)
    (case kq0_11 => first | k_exc | k_is | rfl)
    (case kq0_12 => first | k_exc | k_is | rfl)
    (case kq0_13 => first | k_exc | k_is | rfl)
    (case kq0_14 => first | k_exc | k_is | rfl)
    (case kq0_15 => first | k_exc | k_is | rfl)
    (case kq0_16 => first | k_exc | k_is | rfl)
    (case rq0_17 => first | rfl | kernel_rfl | decide +kernel)
    (case kq0_18 => first | k_exc | k_is | rfl)
    (case kq0_19 => first | k_exc | k_is | rfl)
    (case kq0_20 => first | k_exc | k_is | rfl)
    (case kq0_21 => first | k_exc | k_is | rfl)
    (case kq0_22 => first | k_exc | k_is | rfl)
    (case kq0_23 => first | k_exc | k_is | rfl)
    (case kq0_24 => first | k_exc | k_is | rfl)
    (case kq0_25 => first | k_exc | k_is | rfl)
    (case rq0_26 => first | rfl | kernel_rfl | decide +kernel)
    (case rq0_27 => first | rfl | kernel_rfl | decide +kernel)
    (case vy0_0 => k_is)
    (case vy0_4 => k_is)
    (case vy0_10 => k_is)
    (case vy0_15 => k_is)
    (case vy0_20 => k_is)
    (case vy0_25 => k_is)
    (case vy0_30 => k_is)
    (case vy0_35 => k_is)
    (case vy0_40 => k_is)
    (case vy0_42 => k_is)
    (case vy0_43 => k_is)
    (case vy0_1 => k_is)
    (case vy0_2 => k_is)
    (case vy0_3 => k_is)
    (case vy0_5 => k_is)
    (case vy0_6 => k_is)
    (case vy0_7 => k_is)
    (case vy0_8 => k_is)
    (case vy0_9 => k_is)
    (case vy0_11 => k_is)
    (case vy0_12 => k_is)
    (case vy0_13 => k_is)
    (case vy0_14 => k_is)
    (case vy0_16 => k_is)
    (case vy0_17 => k_is)
    (case vy0_18 => k_is)
    (case vy0_19 => k_is)
    (case vy0_21 => k_is)
    (case vy0_22 => k_is)
    (case vy0_23 => k_is)
    (case vy0_24 => k_is)
    (case vy0_26 => k_is)
    (case vy0_27 => k_is)
    (case vy0_28 => k_is)
    (case vy0_29 => k_is)
    (case vy0_31 => k_is)
    (case vy0_32 => k_is)
    (case vy0_33 => k_is)
    (case vy0_34 => k_is)
    (case vy0_36 => k_is)
    (case vy0_37 => k_is)
    (case vy0_38 => k_is)
    (case vy0_39 => k_is)
    (case vy0_41 => k_is)
    (case z0 => k_is)
    (case z1 => k_is)
    (case z2 => k_is)
    (case z3 => k_is)
    (case z4 => k_is)
    (case z5 => k_is)
    (case z6 => k_is)
    (case z7 => k_is)
    (case z8 => k_is)
    (case z9 => k_is)
    (case z10 => k_is)
    (case z11 => k_is)
#print axioms PySem.Challenge.cw_signoff_k05_decks_shown_and_read_holds
