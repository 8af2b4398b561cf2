import PyProof.Rows.All
import Wide.All
import OpenK.AllK
import Wide.FinOn
import HandS.ForMost
import HandS.Evl
import HandS.Wide
import HandS.WideBits
import HandS.Flow
import HandS.IsInst
import HandS.TupAny
import HandS.Walk
import HandS.Zip
import HandS.Steps
import KE.GoesMore
import KE.GoesEnum
import KE.KEqSeq
import HandS.DictTup
import HandS.Iter
import HandS.Walk
import HandS.More
import HandS.Style
import HandS.Star
import HandS.NoneIn
import KE.KDictDisplayH
import HandS.Defaults
import HandS.CallSlots
import HandS.Property
import HandS.ForExc
import HandS.ExcIs
import HandS.FStr
import HandS.StrMore
import PyProof.StrLawsFirst
import HandS.DictComp
import HandS.Small
import HandS.SetKeys
import HandS.Strs
import HandS.SetTxt0
import HandS.Set
import HandS.SetFor
import KE.GoesSet
import PySem.Challenge.RW_signoff_k30_loaded_circuits
set_option Elab.async false
set_option linter.all false
set_option maxRecDepth 100000
set_option maxHeartbeats 4000000
set_option Elab.async false
set_option linter.all false
set_option maxRecDepth 100000
set_option maxHeartbeats 4000000
namespace G
open PySem PySem.Spec PyProof.Rows L2 Evl
/-! ## defs by name -/
def Dfd (K : PySem.W.Frag) (mg : Str → Option Value) (x : Str) (st : Stmt) (ps : List Str) : Prop := ∃ (f : Addr) (fd : FuncData), Fun K x x st f fd ∧ mg x = some (.ref f) ∧ Binds K fd ps []
def Has (P : Program) (w : World) (K : PySem.W.Frag) (mg : Str → Option Value) (base : Heap) (k : Nat) (x : Str) (ps : List Str) (sp : Sp) : Prop :=
  ∃ (f : Addr) (fd : FuncData), FnOk P w K mg base CX0 k f fd ps sp ∧ mg x = some (.ref f) ∧ PySem.W.keepIn K (.ref f) = true ∧ Binds K fd ps []
section
variable {P : Program} {w : World} {K : PySem.W.Frag} {mg : Str → Option Value} {base : Heap}
theorem Dfd.has {x : Str} {st : Stmt} {ps : List Str} {k : Nat} {sp : Sp} (d : Dfd K mg x st ps) (h : ∀ f fd, Fun K x x st f fd → FnOk P w K mg base CX0 k f fd ps sp) : Has P w K mg base k x ps sp := by
  obtain ⟨f, fd, F, g, b⟩ := d
  exact ⟨f, fd, h f fd F, g, F.kp, b⟩
theorem Has.mono {x : Str} {ps : List Str} {j k : Nat} {sp : Sp} (h : Has P w K mg base j x ps sp) (l : j ≤ k) : Has P w K mg base k x ps sp := by
  obtain ⟨f, fd, F, g⟩ := h
  exact ⟨f, fd, F.mono l, g⟩
theorem Has.imp {x : Str} {ps : List Str} {k : Nat} {sp sp' : Sp} (h : Has P w K mg base k x ps sp) (i : ∀ vs H Q E, sp' vs H Q E → sp vs H Q E) : Has P w K mg base k x ps sp' := by
  obtain ⟨f, fd, F, g⟩ := h
  exact ⟨f, fd, F.imp i, g⟩
end
/-! ## heaps -/
theorem sq_ex {K : PySem.W.Frag} {H H' : Hp} {a : Addr} {xs : List V} (e : Ex H H') (h : SqL K H a xs) : SqL K H' a xs := ex_l e h
/-- the heap without what stands at p -/
def hid (p : Addr) (H : Hp) : Hp := fun b => if b = p then none else H b
theorem hid_self {p : Addr} {H : Hp} : hid p H p = none := by unfold hid; rw [if_pos rfl]
theorem hid_ne {p b : Addr} {H : Hp} (h : b ≠ p) : hid p H b = H b := by unfold hid; rw [if_neg h]
theorem hid_get {p b : Addr} {H : Hp} {o : HO} (h : hid p H b = some o) : H b = some o := by
  by_cases e : b = p
  · subst e; rw [hid_self] at h; cases h
  · rw [hid_ne e] at h; exact h
theorem hid_neq {p b : Addr} {H : Hp} {o : HO} (h : hid p H b = some o) : b ≠ p := by
  intro e; subst e; rw [hid_self] at h; cases h
theorem hid_ex {p : Addr} {H : Hp} : Ex (hid p H) H := fun _ _ h => hid_get h
theorem hid_upd {p : Addr} {H : Hp} {o : HO} : hid p (upd H p o) = hid p H := by
  funext b
  by_cases e : b = p
  · subst e; rw [hid_self, hid_self]
  · rw [hid_ne e, hid_ne e, upd_ne e]
theorem hid_upd_ne {p q : Addr} {H : Hp} {o : HO} (h : q ≠ p) : hid p (upd H q o) = upd (hid p H) q o := by
  funext b
  by_cases e2 : b = q
  · subst e2; rw [hid_ne h, upd_same, upd_same]
  · rw [upd_ne e2]
    by_cases e : b = p
    · subst e; rw [hid_self, hid_self]
    · rw [hid_ne e, hid_ne e, upd_ne e2]
theorem hid_none {p b : Addr} {H : Hp} (h : H b = none) : hid p H b = none := by
  unfold hid; split
  · rfl
  · exact h
/-! ## the pool of draws: the list at p, the script's copy at a -/
def PoolOk (p a : Addr) (H : Hp) : Prop := ∃ (ns : List Int) (i : Nat) (c k s : Int), H p = some (.lst [.ref a, .int i, .int c, .int k, .int s]) ∧ hid p H a = some (.lst (ns.map V.int)) ∧ ns.length ≤ 1000
/-- from H to H' all but the pool is kept, and the pool is a pool -/
structure Px (p a : Addr) (H H' : Hp) : Prop where
  was : PoolOk p a H
  pool : PoolOk p a H'
  ex : Ex (hid p H) (hid p H')
section
variable {p a : Addr} {H H1 H2 H' : Hp}
theorem Px.refl (h : PoolOk p a H) : Px p a H H := ⟨h, h, Ex.refl _⟩
theorem Px.trans (x : Px p a H H1) (y : Px p a H1 H2) : Px p a H H2 := ⟨x.was, y.pool, x.ex.trans y.ex⟩
theorem PoolOk.ne {b : Addr} (h : PoolOk p a H) (n : H b = none) : b ≠ p := by
  obtain ⟨_, _, _, _, _, e, _⟩ := h
  exact (ne_of_none e n).symm
theorem PoolOk.ne2 {b : Addr} (h : PoolOk p a H) (n : H b = none) : a ≠ b := by
  obtain ⟨_, _, _, _, _, _, e, _⟩ := h
  exact ne_of_none (hid_get e) n
theorem PoolOk.kept (h : PoolOk p a H) (e : Ex H H') : PoolOk p a H' := by
  obtain ⟨ns, i, c, k, s, h1, h2, h3⟩ := h
  exact ⟨ns, i, c, k, s, e _ _ h1, by rw [hid_ne (hid_neq h2)]; exact e _ _ (hid_get h2), h3⟩
theorem Px.ofEx (h : PoolOk p a H) (e : Ex H H') : Px p a H H' := ⟨h, h.kept e, fun b o hb => by rw [hid_ne (hid_neq hb)]; exact e _ _ (hid_get hb)⟩
theorem Px.more (x : Px p a H H1) (e : Ex H1 H2) : Px p a H H2 := x.trans (Px.ofEx x.pool e)
theorem Px.draw {o : HO} (w : PoolOk p a H) (h : PoolOk p a (upd H p o)) : Px p a H (upd H p o) := ⟨w, h, by rw [hid_upd]; exact Ex.refl _⟩
theorem Px.new (x : Px p a H H1) {l : Addr} {o : HO} (n : H1 l = none) : Px p a H (upd H1 l o) := x.more (Ex.new n)
/-- what H has is kept -/
theorem Px.get (x : Px p a H H1) {b : Addr} {o : HO} (h : hid p H b = some o) : hid p H1 b = some o := x.ex _ _ h
theorem Px.at_ (x : Px p a H H1) {b : Addr} {o : HO} (h : hid p H b = some o) : H1 b = some o := hid_get (x.ex _ _ h)
theorem Px.free (x : Px p a H H1) {b : Addr} (n : H1 b = none) : H b = none := by
  cases e : H b with
  | none => rfl
  | some o =>
    have hb : b ≠ p := x.pool.ne n
    have := x.ex b o (by rw [hid_ne hb]; exact e)
    rw [hid_get this] at n; cases n
/-- an object that H does not have may change -/
theorem Px.mut (x : Px p a H H1) {l : Addr} {o : HO} (n : H l = none) : Px p a H (upd H1 l o) := by
  have hl : l ≠ p := x.was.ne n
  have ha : a ≠ l := x.was.ne2 n
  refine ⟨x.was, ?_, ?_⟩
  · obtain ⟨ns, i, c, k, s, h1, h2, h3⟩ := x.pool
    exact ⟨ns, i, c, k, s, by rw [upd_ne hl.symm]; exact h1, by rw [hid_upd_ne hl, upd_ne ha]; exact h2, h3⟩
  · rw [hid_upd_ne hl]; exact Ex.mut x.ex (hid_none n)
/-- a fresh object stands apart from the pool -/
theorem Px.seen (x : Px p a H H1) {l : Addr} {o : HO} (n : H l = none) (e : H1 l = some o) : hid p H1 l = some o := by
  rw [hid_ne (x.was.ne n)]; exact e
end
end G
namespace G
open PySem PySem.Spec PyProof.Rows L2 Evl
/-! ## comprehensions whose elements are plain values -/
theorem given_all {n : Nat} {v : Nat → V} : given n (fun _ => true) v = (List.range n).map v := by
  unfold given
  rw [List.filter_eq_self.mpr (fun _ _ => rfl)]
section
variable {lo : Int} {n j : Nat} {tt : TT} {te : TE} {vs : List Nat} {σ : L2.St} {H1 : Hp} {D : Addr} {Qd : Hp → Prop} {K : PySem.W.Frag} {a : Addr} {xs : List V}
theorem lc_turn {f : Nat → Bool} {v : Nat → V} {i : Nat} {H : Hp} {σ2 : L2.St} (e : H = upd H1 D (.lst (given i f v))) (hi : i < 100000) (ht : Ans tt σ2 H (f i)) (he : f i = true → Val te σ2 H (v i)) :
    tt σ2 H fun b H3 => if b = true then te σ2 H3 fun y H4 => ∃ acc, H4 D = some (.lst acc) ∧ acc.length < sizeLine ∧ (upd H4 D (.lst (acc ++ [y]))) = upd H1 D (.lst (given (i + 1) f v)) else H3 = upd H1 D (.lst (given (i + 1) f v)) := by
  refine ht _ ?_
  subst e
  cases hf : f i with
  | true =>
    refine iteT (he hf _ ⟨_, upd_same, sz_lt (by have := given_len i f v; omega), ?_⟩)
    rw [given_yes hf, upd_upd]
  | false =>
    refine iteF ?_
    rw [given_no hf]
theorem lcR (f : Nat → Bool) (v : Nat → V) (hn : n ≤ 100000) (hw : ∀ x, wipe ((wipe σ vs).set j (some x)) vs = wipe σ vs)
    (ht : ∀ (i : Nat) (H : Hp), i < n → H = upd H1 D (.lst (given i f v)) → Ans tt ((wipe σ vs).set j (some (.int (lo + i)))) H (f i))
    (he : ∀ (i : Nat) (H : Hp), i < n → H = upd H1 D (.lst (given i f v)) → f i = true → Val te ((wipe σ vs).set j (some (.int (lo + i)))) H (v i)) (q : Qd (upd H1 D (.lst (given n f v)))) :
    ∃ W : Nat → Nat → Hp → Prop, (∃ m, W 0 m (upd H1 D (.lst []))) ∧ ∀ i m H, W i m H →
      ((Itr lo n).stop i H ∧ Qd H) ∨ ((Itr lo n).go i H ∧ ∃ Nx : Hp → Prop, (∀ H', Nx H' → ∃ m', m' < m ∧ W (i + 1) m' H') ∧ ∀ x H', (Itr lo n).yld i H x H' → gName j x (wipe σ vs) H' fun σ2 H2 => wipe σ2 vs = wipe σ vs ∧ tt σ2 H2 fun b H3 =>
        if b = true then te σ2 H3 fun y H4 => ∃ acc, H4 D = some (.lst acc) ∧ acc.length < sizeLine ∧ Nx (upd H4 D (.lst (acc ++ [y]))) else Nx H3) :=
  lc_range (fun i H => H = upd H1 D (.lst (given i f v))) rfl (fun i H hi e => ⟨hw _, lc_turn e (by omega) (ht i H hi e) (he i H hi e)⟩) (fun H e => by rw [e]; exact q)
theorem lcRv (v : Nat → V) (hn : n ≤ 100000) (hw : ∀ x, wipe ((wipe σ vs).set j (some x)) vs = wipe σ vs)
    (he : ∀ (i : Nat) (H : Hp), i < n → H = upd H1 D (.lst (given i (fun _ => true) v)) → Val te ((wipe σ vs).set j (some (.int (lo + i)))) H (v i)) (q : Qd (upd H1 D (.lst ((List.range n).map v)))) :
    ∃ W : Nat → Nat → Hp → Prop, (∃ m, W 0 m (upd H1 D (.lst []))) ∧ ∀ i m H, W i m H →
      ((Itr lo n).stop i H ∧ Qd H) ∨ ((Itr lo n).go i H ∧ ∃ Nx : Hp → Prop, (∀ H', Nx H' → ∃ m', m' < m ∧ W (i + 1) m' H') ∧ ∀ x H', (Itr lo n).yld i H x H' → gName j x (wipe σ vs) H' fun σ2 H2 => wipe σ2 vs = wipe σ vs ∧ tYes σ2 H2 fun b H3 =>
        if b = true then te σ2 H3 fun y H4 => ∃ acc, H4 D = some (.lst acc) ∧ acc.length < sizeLine ∧ Nx (upd H4 D (.lst (acc ++ [y]))) else Nx H3) :=
  lcR (fun _ => true) v hn hw (fun _ _ _ _ => fun _ q => q) (fun i H hi e _ => he i H hi e) (by rw [given_all]; exact q)
theorem lcL (f : Nat → Bool) (v : Nat → V) (hx : SqL K H1 a xs) (hD : H1 D = none) (hn : xs.length ≤ 100000) (hw : ∀ x, wipe ((wipe σ vs).set j (some x)) vs = wipe σ vs)
    (ht : ∀ (i : Nat) (x : V) (H : Hp), xs[i]? = some x → H = upd H1 D (.lst (given i f v)) → Ans tt ((wipe σ vs).set j (some x)) H (f i))
    (he : ∀ (i : Nat) (x : V) (H : Hp), xs[i]? = some x → H = upd H1 D (.lst (given i f v)) → f i = true → Val te ((wipe σ vs).set j (some x)) H (v i)) (q : Qd (upd H1 D (.lst (given xs.length f v)))) :
    ∃ W : Nat → Nat → Hp → Prop, (∃ m, W 0 m (upd H1 D (.lst []))) ∧ ∀ i m H, W i m H →
      ((Itl K a).stop i H ∧ Qd H) ∨ ((Itl K a).go i H ∧ ∃ Nx : Hp → Prop, (∀ H', Nx H' → ∃ m', m' < m ∧ W (i + 1) m' H') ∧ ∀ x H', (Itl K a).yld i H x H' → gName j x (wipe σ vs) H' fun σ2 H2 => wipe σ2 vs = wipe σ vs ∧ tt σ2 H2 fun b H3 =>
        if b = true then te σ2 H3 fun y H4 => ∃ acc, H4 D = some (.lst acc) ∧ acc.length < sizeLine ∧ Nx (upd H4 D (.lst (acc ++ [y]))) else Nx H3) :=
  lc_list (fun i H => H = upd H1 D (.lst (given i f v))) rfl (fun i H hi e => by rw [e]; exact ex_l (Ex.new hD) hx) (fun i x H hi e => ⟨hw _, lc_turn e (by have := (List.getElem?_eq_some_iff.mp hi).1; omega) (ht i x H hi e) (he i x H hi e)⟩) (fun H e => by rw [e]; exact q)
theorem lcT (f : Nat → Bool) (v : Nat → V) (hx : SqT K H1 a xs) (hD : H1 D = none) (hn : xs.length ≤ 100000) (hw : ∀ x, wipe ((wipe σ vs).set j (some x)) vs = wipe σ vs)
    (ht : ∀ (i : Nat) (x : V) (H : Hp), xs[i]? = some x → H = upd H1 D (.lst (given i f v)) → Ans tt ((wipe σ vs).set j (some x)) H (f i))
    (he : ∀ (i : Nat) (x : V) (H : Hp), xs[i]? = some x → H = upd H1 D (.lst (given i f v)) → f i = true → Val te ((wipe σ vs).set j (some x)) H (v i)) (q : Qd (upd H1 D (.lst (given xs.length f v)))) :
    ∃ W : Nat → Nat → Hp → Prop, (∃ m, W 0 m (upd H1 D (.lst []))) ∧ ∀ i m H, W i m H →
      ((Itt K a).stop i H ∧ Qd H) ∨ ((Itt K a).go i H ∧ ∃ Nx : Hp → Prop, (∀ H', Nx H' → ∃ m', m' < m ∧ W (i + 1) m' H') ∧ ∀ x H', (Itt K a).yld i H x H' → gName j x (wipe σ vs) H' fun σ2 H2 => wipe σ2 vs = wipe σ vs ∧ tt σ2 H2 fun b H3 =>
        if b = true then te σ2 H3 fun y H4 => ∃ acc, H4 D = some (.lst acc) ∧ acc.length < sizeLine ∧ Nx (upd H4 D (.lst (acc ++ [y]))) else Nx H3) :=
  lc_tup (fun i H => H = upd H1 D (.lst (given i f v))) rfl (fun i H hi e => by rw [e]; exact ex_t (Ex.new hD) hx) (fun i x H hi e => ⟨hw _, lc_turn e (by have := (List.getElem?_eq_some_iff.mp hi).1; omega) (ht i x H hi e) (he i x H hi e)⟩) (fun H e => by rw [e]; exact q)
theorem lcLm (g : V → V) (hx : SqL K H1 a xs) (hD : H1 D = none) (hn : xs.length ≤ 100000) (hw : ∀ x, wipe ((wipe σ vs).set j (some x)) vs = wipe σ vs)
    (he : ∀ (i : Nat) (x : V) (H : Hp), xs[i]? = some x → H = upd H1 D (.lst ((xs.take i).map g)) → Val te ((wipe σ vs).set j (some x)) H (g x)) (q : Qd (upd H1 D (.lst (xs.map g)))) :
    ∃ W : Nat → Nat → Hp → Prop, (∃ m, W 0 m (upd H1 D (.lst []))) ∧ ∀ i m H, W i m H →
      ((Itl K a).stop i H ∧ Qd H) ∨ ((Itl K a).go i H ∧ ∃ Nx : Hp → Prop, (∀ H', Nx H' → ∃ m', m' < m ∧ W (i + 1) m' H') ∧ ∀ x H', (Itl K a).yld i H x H' → gName j x (wipe σ vs) H' fun σ2 H2 => wipe σ2 vs = wipe σ vs ∧ tYes σ2 H2 fun b H3 =>
        if b = true then te σ2 H3 fun y H4 => ∃ acc, H4 D = some (.lst acc) ∧ acc.length < sizeLine ∧ Nx (upd H4 D (.lst (acc ++ [y]))) else Nx H3) :=
  lc_list (fun i H => H = upd H1 D (.lst ((xs.take i).map g))) (by rw [List.take_zero]; rfl) (fun i H hi e => by rw [e]; exact ex_l (Ex.new hD) hx)
    (fun i x H hi e => ⟨hw _, by
      refine iteT (B := H = upd H1 D (.lst ((xs.take (i + 1)).map g))) ?_
      refine he i x H hi e _ ?_
      subst e
      refine ⟨_, upd_same, sz_lt ?_, ?_⟩
      · rw [List.length_map, List.length_take]; have := (List.getElem?_eq_some_iff.mp hi).1; omega
      · rw [upd_upd, List.take_add_one, hi, List.map_append]; rfl⟩) (fun H e => by rw [e, List.take_length]; exact q)
theorem lcTm (g : V → V) (hx : SqT K H1 a xs) (hD : H1 D = none) (hn : xs.length ≤ 100000) (hw : ∀ x, wipe ((wipe σ vs).set j (some x)) vs = wipe σ vs)
    (he : ∀ (i : Nat) (x : V) (H : Hp), xs[i]? = some x → H = upd H1 D (.lst ((xs.take i).map g)) → Val te ((wipe σ vs).set j (some x)) H (g x)) (q : Qd (upd H1 D (.lst (xs.map g)))) :
    ∃ W : Nat → Nat → Hp → Prop, (∃ m, W 0 m (upd H1 D (.lst []))) ∧ ∀ i m H, W i m H →
      ((Itt K a).stop i H ∧ Qd H) ∨ ((Itt K a).go i H ∧ ∃ Nx : Hp → Prop, (∀ H', Nx H' → ∃ m', m' < m ∧ W (i + 1) m' H') ∧ ∀ x H', (Itt K a).yld i H x H' → gName j x (wipe σ vs) H' fun σ2 H2 => wipe σ2 vs = wipe σ vs ∧ tYes σ2 H2 fun b H3 =>
        if b = true then te σ2 H3 fun y H4 => ∃ acc, H4 D = some (.lst acc) ∧ acc.length < sizeLine ∧ Nx (upd H4 D (.lst (acc ++ [y]))) else Nx H3) :=
  lc_tup (fun i H => H = upd H1 D (.lst ((xs.take i).map g))) (by rw [List.take_zero]; rfl) (fun i H hi e => by rw [e]; exact ex_t (Ex.new hD) hx)
    (fun i x H hi e => ⟨hw _, by
      refine iteT (B := H = upd H1 D (.lst ((xs.take (i + 1)).map g))) ?_
      refine he i x H hi e _ ?_
      subst e
      refine ⟨_, upd_same, sz_lt ?_, ?_⟩
      · rw [List.length_map, List.length_take]; have := (List.getElem?_eq_some_iff.mp hi).1; omega
      · rw [upd_upd, List.take_add_one, hi, List.map_append]; rfl⟩) (fun H e => by rw [e, List.take_length]; exact q)
end
end G
namespace G
open PySem PySem.Spec PyProof.Rows L2 Evl
/-! ## rules within a comprehension's block: the written part by its letter -/
section
variable {X : Cx} {K : PySem.W.Frag}
theorem kIxT (h : X.K = K) : IxR X (rIxT K) := by subst h; exact ix_tup
theorem kIxL (h : X.K = K) : IxR X (rIxL K) := by subst h; exact ix_list
theorem kIx (h : X.K = K) : IxR X (rIx K) := by subst h; exact ix_seq
theorem kIn (h : X.K = K) : OpR X (compareOp .In) (rIn K false) := by subst h; exact op_in_seq
theorem kNotIn (h : X.K = K) : OpR X (compareOp .NotIn) (rIn K true) := by subst h; exact op_notIn_seq
theorem kLen (h : X.K = K) : CallR X (.builtin "len") (rLenS K) := by subst h; exact call_len_seq
theorem gStr {x s : Str} {t : Tok} {pos : Pos} (hg : Gl X x) (h : X.mg x = some (.str s t)) (hd : (x == ("__debug__" : Str)) = false := by decide) : PE X (.Name x pos) (tC (.str s)) := pe_glob (v := .str s) hg h ⟨t, rfl⟩ hd
theorem gInt {x : Str} {i : Int} {t : Tok} {pos : Pos} (hg : Gl X x) (h : X.mg x = some (.int i t)) (hd : (x == ("__debug__" : Str)) = false := by decide) : PE X (.Name x pos) (tC (.int i)) := pe_glob (v := .int i) hg h ⟨t, rfl⟩ hd
theorem gRef {x : Str} {a : Addr} {pos : Pos} (hg : Gl X x) (h : X.mg x = some (.ref a)) (hd : (x == ("__debug__" : Str)) = false := by decide) : PE X (.Name x pos) (tC (.ref a)) := pe_glob (v := .ref a) hg h rfl hd
theorem kSlL (h : X.K = K) : SlR X (rSlL K) := by subst h; exact sl_list
theorem kCatA (h : X.K = K) : OpR X (binaryOp .Add) (rCatA K) := by subst h; exact op_catA
theorem kAny (h : X.K = K) (hc : X.calm = true) : CallR X (.builtin "any") (rAny K) := by subst h; exact cr_any hc
theorem kAll (h : X.K = K) (hc : X.calm = true) : CallR X (.builtin "all") (rAll K) := by subst h; exact cr_all hc
theorem kLtT (h : X.K = K) (hu : X.A.units < cLine) : OpR X (compareOp .Lt) (rLtT K) := by subst h; exact op_ltT hu
theorem kPiT {e tg : Expr} {te : TE} (h : X.K = K) (he : PE X e te) : PI X tg e (iTup K te) := by subst h; exact pi_tup he
theorem kPiL {e tg : Expr} {te : TE} (h : X.K = K) (he : PE X e te) : PI X tg e (iList K te) := by subst h; exact pi_list he
theorem kSlA (h : X.K = K) : SlR X (rSlA K) := by subst h; exact sl_tupA
end
end G
namespace G
open PySem PySem.Spec PyProof.Rows L2 Evl
theorem dpAll_map {α : Type} {K : PySem.W.Frag} {H : Hp} {f : α → V} {g : α → PyData} (h : ∀ x, Dp K H (f x) (g x)) : ∀ l : List α, DpAll K H (l.map f) (l.map g)
  | [] => .nil
  | x :: r => .cons (h x) (dpAll_map h r)
theorem dp_ints {K : PySem.W.Frag} {H : Hp} {a : Addr} {ns : List Int} (h : SqL K H a (ns.map V.int)) : Dp K H (.ref a) (.list (ns.map PyData.int)) := .lst h (dpAll_map (fun i => .int i) ns)
theorem dp_nil {K : PySem.W.Frag} {H : Hp} {a : Addr} (h : SqL K H a []) : Dp K H (.ref a) (.list []) := .lst h .nil
theorem eqv_nil (l : List PyData) : PyData.eqv (.list l) (.list []) = l.isEmpty := by cases l <;> rfl
theorem shaped_nil : SeqAt.shaped (.list []) = true := by decide +kernel
end G
/-! enumerate over a tuple -/
namespace PySem
section
variable {prog : Program} {w : World} {A : Around} {E : Value → Shared → Prop} {s : Shared}
theorem G_tupOf {h : Heap} {a : Addr} {xs : Array Value} (p : PyProof.Rows.IsTup h a xs) : h.IsTuple a xs := p
set_option maxHeartbeats 2000000 in
theorem G_enumNew {v : Value} {o : Obj} {Hh : Heap → Prop} (B : Begins v o Hh) :
    Meets (Builtin.«enumerate.__new__» ⟨[.type "enumerate", v], []⟩) (fun _ R s => Hh s.heap ∧
      R (.ok (.ret (.ref (s.heap.push o).objs.size))) { s with heap := (s.heap.push o).push { cls := .type "enumerate", data := .fields #[.none, .bool false, .ref s.heap.objs.size, rawInt 0, .none, .none] } }) :=
  .of_wp fun pr wo ar rr sh hh => by
    obtain ⟨hp, gg, dd, tk, os⟩ := sh; obtain ⟨h1, h2⟩ := hh
    have sub0 := sub_enumerate
    have qq : ∀ {A' : Around} {E : Value → Shared → Prop} {Q : Value → Shared → Prop}, Q (.ref hp.objs.size) ⟨hp.push o, gg, dd, tk, os⟩ → wpAny (model pr wo) A' (pyIter v) Q E ⟨hp, gg, dd, tk, os⟩ :=
      fun z => B.iter pr wo _ _ ⟨hp, gg, dd, tk, os⟩ _ h1 z
    wp_walk using qq
    refine wpAny_stack_any fun _ => wpAny_pure ?_
    split
    · rename_i cc _ _ _ _ _
      cases (cc == Value.type "enumerate") <;> (wp_walk using qq; exact ⟨_, rfl, h2⟩)
    · wp_walk using qq
      exact ⟨_, rfl, h2⟩
theorem G_enumCall {v : Value} {o : Obj} {Hh : Heap → Prop} {Q : Value → Shared → Prop} (B : Begins v o Hh) (h1 : Hh s.heap)
    (k : ∀ h', IsEnum h' (s.heap.objs.size + 1) s.heap.objs.size 0 .none → h'.get? s.heap.objs.size = some o → (∀ b u, s.heap.get? b = some u → h'.get? b = some u) → Q (.ref (s.heap.objs.size + 1)) { s with heap := h' }) :
    wpAny (model prog w) A (call (.type "enumerate") [v]) Q E s := by
  refine callType_new F.called_enumerate (by decide) (F.typeCall_enumerate_1 _) (F.newCall_enumerate_1 _) (fun y => F.args_object_init_2 y _) F.entry_enumerate_new (G_enumNew B) ⟨h1, ?_⟩
  have hz : (s.heap.push o).objs.size = s.heap.objs.size + 1 := Heap.size_push ..
  show _ ∧ _
  rw [hz]
  have he : IsEnum ((s.heap.push o).push { cls := .type "enumerate", data := .fields #[.none, .bool false, .ref s.heap.objs.size, rawInt 0, .none, .none] }) (s.heap.objs.size + 1) s.heap.objs.size 0 .none := by
    have hs := Heap.get?_push_size (s.heap.push o) (o := { cls := .type "enumerate", data := .fields #[.none, .bool false, .ref s.heap.objs.size, rawInt 0, .none, .none] }) rfl
    rw [hz] at hs; exact hs
  exact ⟨⟨_, he, rfl⟩, k _ he (Heap.get?_push_of_some _ (Heap.get?_push_size _ B.free)) fun b u x => Heap.get?_push_of_some _ (Heap.get?_push_of_some _ x)⟩
end
end PySem
namespace G
open PySem PySem.Spec PyProof.Rows L2 Evl
/-- the tuple at a at each turn, each item in a new pair -/
def IteT (K : PySem.W.Frag) (a : Addr) : It :=
  ⟨fun i H => ∃ (xs : List V) (x : V), SqT K H a xs ∧ xs[i]? = some x,
   fun i H v H' => ∃ T x, v = .ref T ∧ H T = none ∧ H' = upd H T (.tup [.int (i : Nat), x]) ∧ ∀ xs, SqT K H a xs → xs[i]? = some x,
   fun i H => ∃ xs : List V, SqT K H a xs ∧ xs.length = i⟩
theorem turn_enumT {P : Program} {w : World} {K : PySem.W.Frag} {elts : List Expr} {kk : Nat} {tpos : Pos} (a e it : Addr) :
    Turn P w K (.Tuple elts kk tpos) (IteT K a) [e, it] e (fun i h => (∃ old, IsEnum h e it ((i : Nat) : Int) old) ∧ h.IsTupleIter it a i ∧ e ≠ it ∧ a ≠ it ∧ a ≠ e) where
  mem := by simp
  obj := fun i h st b hb => by
    obtain ⟨⟨old, he⟩, ⟨o, ho, hc, hd⟩, _⟩ := st
    have hb' : b = e ∨ b = it := by simpa using hb
    rcases hb' with z | z
    · rw [z]; exact ⟨_, he, fun v q => nomatch q⟩
    · rw [z]; exact ⟨o, ho, fun v q => by rw [hd] at q; cases q⟩
  keep := fun i h h' st k => by
    obtain ⟨⟨old, he⟩, hi, hne⟩ := st
    exact ⟨⟨old, k e (by simp) _ he⟩, hi.at fun o q => k it (by simp) o q, hne⟩
  item := by
    intro X hP hw hK hc i pins s σ H E I hf st hg
    subst hP hw hK
    obtain ⟨⟨old, he⟩, hit, hne, hai, hae⟩ := st
    obtain ⟨xs, x, hq, hx⟩ := hg
    obtain ⟨its, rv, p, hz⟩ := I.tuple hq
    obtain ⟨u, hu, ru⟩ := rv.get hx
    have hel : e < s.heap.objs.size := Heap.lt_size he
    have hil : it < s.heap.objs.size := by obtain ⟨_, q, _⟩ := hit; exact Heap.lt_size q
    have hh : X.A.handled = none := I.ok.hd hc
    refine wpAny_pyNext_enum_itemD (Draws.tuple (A := X.A.in1) hh it a hai its.toArray) he ⟨hit, p⟩ ?_ hne ?_ fun y h' tk hy ho hst hT hsz hk => ?_
    · have := (List.getElem?_eq_some_iff.mp hu).1
      simpa using this
    · intro hm
      have hm' : e = it ∨ e = a := by simpa using hm
      rcases hm' with z | z
      · exact hne z
      · exact hae z.symm
    · have ey : y = u := by
        have hy' : its[i]? = some y := by simpa using hy
        exact Option.some.inj (hy'.symm.trans hu)
      subst ey
      refine ⟨_, rfl, wpAny_letOwnedTupleGo_enum (s := { s with heap := h', toks := tk + 1 }) ho fun h'' he' sb => ?_⟩
      have hT2 : h''.get? s.heap.objs.size = some { cls := .type "tuple", data := .seq #[.int i tk, y] } := (sb.2 _ (Nat.ne_of_gt hel)).trans hT
      have new : ObjOk X.prog X.w (upd H s.heap.objs.size (.tup [.int (i : Nat), x])) h'' s.heap.objs.size (.tup [.int (i : Nat), x]) :=
        ⟨by show 2 ≤ sizeLine; decide, [.int i tk, y], .cons ⟨_, rfl⟩ (.cons ru .nil), ⟨_, hT2, rfl, _, rfl⟩⟩
      have I1 : Inv X pins σ (upd H s.heap.objs.size (.tup [.int (i : Nat), x])) { s with heap := h'', toks := tk + 1 } :=
        I.turnedNew (ch := [e, it]) (fun b ob hb q => (sb.2 b (fun z => hb (by simp [z]))).trans (hk b ob (fun z => hb (by simp [z])) (fun z => hb (by simp [z])) q)) hf (Nat.le_refl _) new
      refine ⟨.ref s.heap.objs.size, _, I1, rfl, ⟨_, x, rfl, I.hok.fresh (Nat.le_refl _), rfl, fun ys hy => by rw [I.tuple_inj hy hq]; exact hx⟩, ⟨⟨y, ?_⟩, hst.1.at fun o q => (sb.2 it (Ne.symm hne)).trans q, hne, hai, hae⟩, fun b hb => ?_⟩
      · have e1 : ((i + 1 : Nat) : Int) = (i : Int) + 1 := by omega
        rw [e1]; exact he'
      · have hb' : b < s.heap.objs.size := by
          have hb2 : b = e ∨ b = it := by simpa using hb
          rcases hb2 with z | z
          · rw [z]; exact hel
          · rw [z]; exact hil
        rw [upd_ne (Nat.ne_of_lt hb')]
        exact (hf b hb).1
  done := by
    intro X hP hw hK hc i pins s σ H E I hf st hg
    subst hP hw hK
    obtain ⟨⟨old, he⟩, hit, hne, hai, hae⟩ := st
    obtain ⟨xs, hq, hx⟩ := hg
    obtain ⟨its, rv, p, hz⟩ := I.tuple hq
    obtain ⟨f0, f1, f2, f3, f4, f5⟩ := hf it (by simp)
    have hl := rv.length
    have hh : X.A.handled = none := I.ok.hd hc
    have ei : its.toArray.size = i := by rw [List.size_toArray, ← hl]; exact hx
    have st2 : s.heap.IsTupleIter it a its.toArray.size ∧ s.heap.IsTuple a its.toArray := by rw [ei]; exact ⟨hit, p⟩
    exact wpAny_pyNext_enum_endD (Draws.tuple (A := X.A.in1) hh it a hai its.toArray) he st2 fun h' eb => ⟨rfl, I.turned (t' := s.toks) (fun b o hb q => eb b o hb q) f0 f1 f3 f4 f5⟩
  self := fun A i s Q E st h => by
    obtain ⟨⟨_, he⟩, _⟩ := st
    exact wpAny_pyIter_enum he h
def iEnumT (K : PySem.W.Frag) (ta : TA) : TI := fun σ H R => ta σ H fun vs H1 => ∃ a xs, vs = [.ref a] ∧ SqT K H1 a xs ∧ R (IteT K a) H1
theorem pi_enumT {X : Cx} {e : Expr} {ta : TA} {p pos tpos : Pos} {elts : List Expr} {kk : Nat} (hg : Gl X "enumerate") (hm : X.mg "enumerate" = none) (ha : PA X [e] ta) (hs : starEach [e] X.env = [(false, eval e X.env)] := by rfl) :
    PI X (.Tuple elts kk tpos) (.Call (.Name "enumerate" p) [e] [] pos) (iEnumT X.K ta) := by
  refine ⟨fun pins s σ H R I h => Call_ (ld_blt I hg hm boot_enumerate (PyProof.Rows.callWith_type1 (thn (ha.run pos pins s σ H _ I h) fun us s1 ⟨vs, H1, I1, r1, q1⟩ => ?_) hs rfl))⟩
  obtain ⟨a, xs, rfl, hq, q⟩ := q1
  cases r1 with
  | cons r rr =>
    cases rr
    cases r
    obtain ⟨its, rv, p', hz⟩ := I1.tuple hq
    have hal : a < s1.heap.objs.size := by obtain ⟨o, ho, _⟩ := p'; exact Heap.lt_size ho
    refine G_enumCall (begins_tuple a its.toArray) p' fun h' he hit hk => wpAny_pyIter_enum he ?_
    have I2 : Inv X pins σ H1 { s1 with heap := h' } := I1.kept (t' := s1.toks) hk
    refine ⟨s1.heap.objs.size + 1, [s1.heap.objs.size + 1, s1.heap.objs.size], _, _, H1, rfl, I2, turn_enumT a (s1.heap.objs.size + 1) s1.heap.objs.size,
      ⟨⟨.none, he⟩, ⟨_, hit, rfl, rfl⟩, Nat.succ_ne_self _, Nat.ne_of_lt hal, Nat.ne_of_lt (Nat.lt_succ_of_lt hal)⟩, fun b hb => ?_, q⟩
    have hb' : b = s1.heap.objs.size + 1 ∨ b = s1.heap.objs.size := by simpa using hb
    have hle : s1.heap.objs.size ≤ b := by
      rcases hb' with z | z
      · rw [z]; exact Nat.le_add_right _ _
      · rw [z]; exact Nat.le_refl _
    exact I1.fpOk hle (I1.hok.fresh hle)
theorem walk_enumT {K : PySem.W.Frag} {a : Addr} {xs : List V} : Walk (IteT K a) xs.length (fun H => SqT K H a xs) (YPair (fun i => some (.int (i : Nat))) (fun i => xs[i]?)) := by
  refine ⟨fun i _ hi q => ⟨xs, xs[i], q, by simp [hi]⟩, fun _ q => ⟨xs, q, rfl⟩, fun i H v H' _ q y => ?_⟩
  obtain ⟨T, x, h1, h2, h3, h4⟩ := y
  exact ⟨T, .int (i : Nat), x, h1, h2, h3, rfl, h4 xs q⟩
theorem kPiEnumT {X : Cx} {K : PySem.W.Frag} {e : Expr} {ta : TA} {p pos tpos : Pos} {elts : List Expr} {kk : Nat} (h : X.K = K) (hg : Gl X "enumerate") (hm : X.mg "enumerate" = none) (ha : PA X [e] ta) (hs : starEach [e] X.env = [(false, eval e X.env)] := by rfl) :
    PI X (.Tuple elts kk tpos) (.Call (.Name "enumerate" p) [e] [] pos) (iEnumT K ta) := by subst h; exact pi_enumT hg hm ha hs
end G
/-! t[a::2], t a tuple -/
namespace HT
open PySem PySem.Spec PyProof.Rows L2
section
variable {prog : Program} {w : World} {A : Around} {E : Value → Shared → Prop} {s : Shared}
theorem g_applied {sl : Addr} {vl vu vs : Value} {lo hi : Option Int} {st : Int} {n : Nat} {Q : Int × Int × Nat → Shared → Prop} (hs : s.heap.IsSliceOf sl vl vu vs) (pl : IsPart vl lo) (pu : IsPart vu hi) (ps : IsPart vs (some st)) (h0 : st ≠ 0)
    (h : Q ((Builtin.Slice.sliceAdjust lo hi st (n : Int)).1, st, Builtin.Slice.slicePlaces (Builtin.Slice.sliceAdjust lo hi st (n : Int)).1 (Builtin.Slice.sliceAdjust lo hi st (n : Int)).2 st) s) :
    wpAny (model prog w) A (Builtin.Slice.sliceApplied (.ref sl) (pure (n : Int))) Q E s := by
  obtain ⟨ob, hob, _, hd⟩ := id hs
  unfold Builtin.Slice.sliceApplied Builtin.Slice.sliceFields
  refine wpAny_bind (wpAny_bind (wpAny_field hob hd (x := vl) rfl (wpAny_bind (wpAny_field hob hd (x := vu) rfl (wpAny_bind (wpAny_field hob hd (x := vs) rfl (wpAny_pure ?_)))))))
  refine wpAny_bind (slicePart_ ps ?_)
  show wpAny _ _ (if (st == 0) = true then _ else _) _ _ s
  rw [if_neg (by intro q; exact h0 (eq_of_beq q))]
  exact wpAny_bind (slicePart_ pl (wpAny_bind (slicePart_ pu (wpAny_bind (wpAny_pure (wpAny_pure h))))))
def stepped (xs : List Value) (lo st : Int) (n : Nat) : List Value := (List.range n).filterMap fun (k : Nat) => xs.toArray[(lo + (k : Int) * st).toNat]?
theorem g_getStep {t sl : Addr} {its : List Value} {vl vu vs : Value} {lo hi : Option Int} {st : Int} {Q : Value → Shared → Prop} (ht : IsTup s.heap t its.toArray) (hs : s.heap.IsSliceOf sl vl vu vs) (pl : IsPart vl lo) (pu : IsPart vu hi) (ps : IsPart vs (some st)) (h0 : st ≠ 0) (h1 : st ≠ 1)
    (hz : (stepped its (Builtin.Slice.sliceAdjust lo hi st (its.toArray.size : Int)).1 st (Builtin.Slice.slicePlaces (Builtin.Slice.sliceAdjust lo hi st (its.toArray.size : Int)).1 (Builtin.Slice.sliceAdjust lo hi st (its.toArray.size : Int)).2 st)).length ≤ sizeLine)
    (h : Q (.ref s.heap.objs.size) { s with heap := s.heap.push { cls := .type "tuple", data := .seq (stepped its (Builtin.Slice.sliceAdjust lo hi st (its.toArray.size : Int)).1 st (Builtin.Slice.slicePlaces (Builtin.Slice.sliceAdjust lo hi st (its.toArray.size : Int)).1 (Builtin.Slice.sliceAdjust lo hi st (its.toArray.size : Int)).2 st)).toArray } }) :
    wpAny (model prog w) A (getItem (.ref t) (.ref sl)) Q E s := by
  have ok : sizeOk (.seq (stepped its (Builtin.Slice.sliceAdjust lo hi st (its.toArray.size : Int)).1 st (Builtin.Slice.slicePlaces (Builtin.Slice.sliceAdjust lo hi st (its.toArray.size : Int)).1 (Builtin.Slice.sliceAdjust lo hi st (its.toArray.size : Int)).2 st)).toArray) := by
    show (stepped its _ st _).toArray.size ≤ sizeLine
    rw [List.size_toArray]; exact hz
  obtain ⟨ob, hob, hc, hd⟩ := id hs
  have hTs : s.TypeIs (.ref sl) "slice" := ⟨ob, hob, hc⟩
  unfold getItem
  try with_reducible refine wpAny_holding ?_
  first | refine wpAny_bind (wpAny_pure ?_) | skip
  refine wpAny_bind (wpAny_sequenceKey ht.typeIs (by decide) ?_)
  refine wpAny_bind (wpAny_callSpecial?_slot (name := Str.ofString "__getitem__") ht.typeIs slot_tuple_getitem (wpAny_call_entry slot_tuple_getitem ht.typeIs entry_tuple_getitem ?_ (args_tuple_getitem _ _)))
  show wpAny _ _ (Builtin.Tuple.tupleItemsOf (.ref t) >>= _) _ _ s
  refine wpAny_bind (tupleItemsOf_ ht (wpAny_bind (wpAny_typeOf hTs ?_)))
  rw [if_pos (by decide)]
  refine wpAny_bind (g_applied hs pl pu ps h0 ?_)
  generalize (Builtin.Slice.sliceAdjust lo hi st (its.toArray.size : Int)).1 = l0 at *
  generalize Builtin.Slice.slicePlaces l0 (Builtin.Slice.sliceAdjust lo hi st (its.toArray.size : Int)).2 st = n0 at *
  have hno : ¬ ((l0 == 0 && st == 1 && n0 == its.toArray.size) = true) := by
    intro q
    rw [Bool.and_eq_true, Bool.and_eq_true] at q
    exact h1 (eq_of_beq q.1.2)
  show wpAny _ _ (if (l0 == 0 && st == 1 && n0 == its.toArray.size) = true then _ else _) _ _ s
  rw [if_neg hno]
  first
    | exact wpAny_bind (m := Builtin.Tuple.tupleExact _) (wpAny_newObj_type (wpAny_pure ⟨_, rfl, wpAny_pure h⟩) ok)
    | exact wpAny_bind (m := Builtin.Tuple.tupleExact _) (wpAny_newObj_type (wpAny_bind (wpAny_pure (wpAny_pure ⟨_, rfl, wpAny_pure h⟩))) ok)
    | exact wpAny_bind (wpAny_bind (m := Builtin.Tuple.tupleExact _) (wpAny_newObj_type (wpAny_pure (wpAny_pure ⟨_, rfl, wpAny_pure h⟩)) ok))
    | exact wpAny_bind (wpAny_bind (m := Builtin.Tuple.tupleExact _) (wpAny_newObj_type (wpAny_pure ⟨_, rfl, wpAny_pure h⟩) ok))
end
end HT
namespace G
open PySem PySem.Spec PyProof.Rows L2 Evl
/-- every second item from a on -/
def halfL {α : Type} (a : Nat) (xs : List α) : List α := (List.range ((xs.length - a + 1) / 2)).filterMap fun k => xs[a + 2 * k]?
theorem halfL_len {α : Type} (a : Nat) (xs : List α) : (halfL a xs).length ≤ xs.length + 1 := by
  unfold halfL
  refine Nat.le_trans (List.length_filterMap_le _ _) ?_
  rw [List.length_range]; omega
theorem vals_filterMap {f : Nat → Option V} {g : Nat → Option Value} : ∀ {l : List Nat}, (∀ k, k ∈ l → RelO (f k) (g k)) → Vals (l.filterMap f) (l.filterMap g)
  | [], _ => .nil
  | k :: r, h => by
    have hk := h k (List.mem_cons_self ..)
    have ih := vals_filterMap (l := r) fun j hj => h j (List.mem_cons_of_mem _ hj)
    rw [List.filterMap_cons, List.filterMap_cons]
    cases e : f k with
    | none =>
      cases e2 : g k with
      | none => exact ih
      | some u => rw [e, e2] at hk; exact hk.elim
    | some v =>
      cases e2 : g k with
      | none => rw [e, e2] at hk; exact hk.elim
      | some u => rw [e, e2] at hk; exact .cons hk ih
def tHalf (K : PySem.W.Frag) (a : Nat) (te : TE) : TE := fun σ H Q => te σ H fun x H1 => ∃ t xs, x = .ref t ∧ SqT K H1 t xs ∧ xs.length ≤ 100000 ∧ ∀ p, H1 p = none → Q (.ref p) (upd H1 p (.tup (halfL a xs)))
theorem half_places {a n : Nat} (h : a ≤ 1) : (Builtin.Slice.sliceAdjust (some (a : Int)) none 2 (n : Int)).1 = ((min a n : Nat) : Int) ∧
    Builtin.Slice.slicePlaces (Builtin.Slice.sliceAdjust (some (a : Int)) none 2 (n : Int)).1 (Builtin.Slice.sliceAdjust (some (a : Int)) none 2 (n : Int)).2 2 = (n - a + 1) / 2 := by
  have h2 : ¬ ((2 : Int) < 0) := by omega
  have h3 : (2 : Int) > 0 := by omega
  have ha : ¬ ((a : Int) < 0) := by omega
  have e : Builtin.Slice.sliceAdjust (some (a : Int)) none 2 (n : Int) = (((min a n : Nat) : Int), (n : Int)) := by
    unfold Builtin.Slice.sliceAdjust
    simp only [h2, if_false, ha]
    refine Prod.ext ?_ rfl
    show min (a : Int) (n : Int) = ((min a n : Nat) : Int)
    omega
  rw [e]
  refine ⟨rfl, ?_⟩
  show Builtin.Slice.slicePlaces ((min a n : Nat) : Int) (n : Int) 2 = (n - a + 1) / 2
  unfold Builtin.Slice.slicePlaces
  simp only [h3, if_true]
  split <;> omega
section
variable {X : Cx}
theorem pe_half {e : Expr} {te : TE} {a : Nat} {k1 k2 : Nat} {p1 p2 p3 pos : Pos} (ha : a ≤ 1) (he : PE X e te) : PE X (.Subscript e (.Slice (some (.Constant (.int (a : Int)) k1 p1)) none (some (.Constant (.int 2) k2 p2)) p3) pos) (tHalf X.K a te) := by
  refine ⟨fun pins s σ H Q I h => Subscript_ (thn (he.run pins s σ H _ I h) fun v s1 ⟨x, H1, I1, r1, q1⟩ => ?_)⟩
  obtain ⟨t, xs, rfl, hx, hlen, q⟩ := q1
  cases r1
  have hlo : PO X (some (.Constant (.int (a : Int)) k1 p1)) (tPart (tC (.int (a : Int)))) := po_some pe_int
  have hst : PO X (some (.Constant (.int 2) k2 p2)) (tPart (tC (.int 2))) := po_some pe_int
  refine wpAny_Slice (thn (hlo.run pins s1 σ H1 (fun o H2 => o = some (a : Int) ∧ H2 = H1) I1 ⟨_, rfl, rfl, rfl⟩) fun vl s2 ⟨l, H2, I2, pl, el, e2⟩ => ?_)
  subst el e2
  refine thn (po_none.run pins s2 σ H2 (fun o H3 => o = none ∧ H3 = H2) I2 ⟨rfl, rfl⟩) fun vu s3 ⟨u, H3, I3, pu, eu, e3⟩ => ?_
  subst eu e3
  refine thn (hst.run pins s3 σ H3 (fun o H4 => o = some 2 ∧ H4 = H3) I3 ⟨_, rfl, rfl, rfl⟩) fun vs s4 ⟨o, H4, I4, ps, eo, e4⟩ => ?_
  subst eo e4
  have I5 : Inv X pins σ H4 { s4 with heap := s4.heap.push { cls := .type "slice", data := .fields #[vl, vu, vs] } } := I4.kept (t' := s4.toks) fun b ob q => Heap.get?_push_of_some _ q
  obtain ⟨its, r, ht, hz⟩ := I5.tuple hx
  have hl : its.toArray.size = xs.length := by rw [List.size_toArray]; exact r.length.symm
  obtain ⟨hp1, hp2⟩ := half_places (n := xs.length) ha
  have hrel : Vals (halfL a xs) (HT.stepped its ((min a xs.length : Nat) : Int) 2 ((xs.length - a + 1) / 2)) := by
    unfold halfL HT.stepped
    refine vals_filterMap fun k hk => ?_
    have hk' := List.mem_range.mp hk
    have hi : a + 2 * k < xs.length := by omega
    have en : (((min a xs.length : Nat) : Int) + (k : Int) * 2).toNat = a + 2 * k := by omega
    rw [en, List.getElem?_eq_getElem hi]
    obtain ⟨u, hu, ru⟩ := r.get (List.getElem?_eq_getElem hi)
    rw [List.getElem?_toArray, hu]
    exact ru
  have hsz : (halfL a xs).length ≤ sizeLine := sz_of (by
    unfold halfL
    refine Nat.le_trans (List.length_filterMap_le _ _) ?_
    rw [List.length_range]
    omega)
  show wpAny (model X.prog X.w) X.A (subscriptTail e (.Slice (some (.Constant (.int (a : Int)) k1 p1)) none (some (.Constant (.int 2) k2 p2)) p3) (.ref t) (.ref s4.heap.objs.size)) (EP X pins σ Q) X.xe { s4 with heap := s4.heap.push { cls := .type "slice", data := .fields #[vl, vu, vs] } }
  refine tail_any (ops := [.ref t, .ref s4.heap.objs.size]) ht.typeIs PyProof.Rows.slot_tuple_getitem.lookup ?_ (by with_unfolding_all rfl)
  refine HT.g_getStep ht (Heap.IsSliceOf.new _ vl vu vs) pl pu ps (by decide) (by decide) ?_ ?_
  · rw [hl, hp2, hp1, ← hrel.length]; exact hsz
  · rw [hl, hp2, hp1]
    refine ⟨.ref _, _, I5.laid (t' := s4.toks) (o := .tup (halfL a xs)) (fun b ob q => Heap.get?_push_of_some _ q) (Nat.le_refl _) ?_, rfl, q _ (I5.hok.fresh (Nat.le_refl _))⟩
    exact ⟨hsz, _, hrel, ⟨_, Heap.get?_push_size _ rfl, rfl, _, rfl⟩⟩
end
end G
/-! a dict comprehension whose keys are tuples of ints and texts -/
namespace L2
open PySem PySem.Spec PyProof.Rows
theorem put_tup {X : Cx} {ps : List (Addr × Obj)} {σ : St} {H : Hp} {s : Shared} {E : Value → Shared → Prop} {b D : Addr} {es : List (List Key × V)} {k : List Key} {v : V} {r : Value} {Q : Unit → Shared → Prop}
    (hu : X.A.units < cLine) (J : Inv X ps σ H s) (hb : H b = some (.tup (k.map kV))) (hD : H D = some (.dT es)) (hn : es.length < sizeLine) (hv : RelV v r)
    (go : ∀ s2, Inv X ps σ (upd H D (.dT (putK es k v))) s2 → Q () s2) : wpAny (model X.prog X.w) X.A (dictSet D (.ref b) r) Q E s := by
  obtain ⟨le, low, xs, rel, at_⟩ := dt_of J.hok hD
  have l1 : xs.length ≤ sizeLine := Paired.length rel ▸ le
  have l2 : (putK es k v).length ≤ sizeLine := Nat.le_trans (length_putK es k v) hn
  refine wpAny_dictSet_heap (hsz := l1) hu (key_of J.hok hb) at_ fun h2 d2 sb => go _ ?_
  obtain ⟨o2, e2, ep2, c1, c2, c3, c4, _, c6⟩ := d2
  refine d_write J (by rw [hD]; exact True.intro) sb ⟨o2, c1⟩ ⟨l2, low, _, (rel.put k hb hv).keeps fun c ys hc => ?_, o2, e2, ep2, c1, c2, c3, c4, c6⟩
  exact (upd_ne (ne_of hc hD (fun z => nomatch z))).trans hc
section
variable {X : Cx}
/-- one turn: the target, the test, the key, the value, the store -/
def dctTurn (D : Addr) (g : TG) (tt : TT) (tk tv : TE) (vs : List Nat) (σ : St) (Nx : Hp → Prop) (x : V) (H : Hp) : Prop :=
  g x (wipe σ vs) H fun τ G1 => wipe τ vs = wipe σ vs ∧ tt τ G1 fun b G2 => if b = true then tk τ G2 fun y G3 => tv τ G3 fun z G4 =>
    ∃ (es : List (List Key × V)) (k : List Key) (c : Addr), y = .ref c ∧ G4 c = some (.tup (k.map kV)) ∧ G4 D = some (.dT es) ∧ es.length < sizeLine ∧ Nx (upd G4 D (.dT (putK es k z))) else Nx G2
def tDct (wi : TI) (g : TG) (tt : TT) (tk tv : TE) (vs : List Nat) : TE := fun σ H Q => wi σ H fun J H1 => ∀ D, H1 D = none → ∃ W : Nat → Nat → Hp → Prop, (∃ m, W 0 m (upd H1 D (.dT []))) ∧
  ∀ i m G, W i m G → (J.stop i G ∧ Q (.ref D) G) ∨ (J.go i G ∧ ∃ Nx : Hp → Prop, (∀ G2, Nx G2 → ∃ m2, m2 < m ∧ W (i + 1) m2 G2) ∧ ∀ x G2, J.yld i G x G2 → dctTurn D g tt tk tv vs σ Nx x G2)
abbrev InBlk (X : Cx) (scope : Scope) (F : Cx → Prop) : Prop := ∀ (s : Shared) (H : Hp) (C : Addr) (cl : List (Str × Addr)) (fp : List Addr), F (X.blk s H scope (compEnvC scope cl C X.env) fp)
theorem pe_dct {kx vx tg iter : Expr} {ifs : List Expr} {scope : Scope} {own : List (Str × Nat)} {pos : Pos} {wi : TI} {g : TG} {tt : TT} {tk tv : TE} (calm : X.calm = true) (nd : X.N.Nodup) (hu : X.A.units < cLine)
    (walk : PI X tg iter wi) (ok : BlkOk X.N X.env.scope scope own) (bg : InBlk X scope fun Y => PG Y tg g) (bt : InBlk X scope fun Y => PTs Y ifs tt) (bk : InBlk X scope fun Y => PE Y kx tk) (bv : InBlk X scope fun Y => PE Y vx tv)
    (plain : ∀ x, foldedSetIterable iter X.env x = pure x := by intro _; rfl) : PE X (.DictComp kx vx [⟨tg, iter, ifs, 0⟩] scope pos) (tDct wi g tt tk tv (own.map (·.2))) := by
  refine ⟨fun ps s σ H Q I hyp => ?_⟩
  rw [arm_eval_DictComp]
  have clo := closure_ok (env := X.env) (scope := scope) fun y hy e => (ok.free y hy e).elim (fun k => I.ok.has _ (.inl k)) (fun k => I.ok.has _ (.inr k))
  refine wpAny_comprehension_free (use := none) rfl plain clo ok.kind (fun y hy e => (ok.uniq y hy).trans (congrArg some e)) (thn (walk.run ps s σ H _ I hyp) fun _ s1 got => thn got fun _ s2 more => ?_)
  obtain ⟨it, fp, tn, J, H2, rfl, I2, T, here, fpok, rest⟩ := more
  refine wpAny_newObj_type (newEnv_comp ?_)
  let D : Addr := s2.heap.objs.size
  have free : H2 D = none := I2.hok.fresh (Nat.le_refl _)
  obtain ⟨W, ⟨m0, start⟩, turn⟩ := rest D free
  let s3 : Shared := { s2 with heap := s2.heap.push { cls := .type "dict", data := .dict #[] } }
  have old : ∀ b o, s2.heap.get? b = some o → s3.heap.get? b = some o := fun b o e => Heap.get?_push_of_some _ e
  have I3 : Inv X ps σ (upd H2 D (.dT [])) s3 := I2.laid (t' := s2.toks) old (Nat.le_refl _) (dt_empty s2.heap I2.big)
  have small : ∀ b ∈ fp, b < s2.heap.objs.size := fun b hb => (T.obj _ _ here b hb).elim fun _ e => Heap.lt_size e.1
  have fp3 : ∀ b ∈ fp, FpOk X ps (upd H2 D (.dT [])) b ∧ b < s3.heap.objs.size := fun b hb =>
    ⟨⟨(upd_ne (Nat.ne_of_lt (small b hb))).trans (fpok b hb).1, (fpok b hb).2⟩, Nat.lt_of_lt_of_eq (Nat.lt_succ_of_lt (small b hb)) (Heap.size_push ..).symm⟩
  have here3 : tn 0 s3.heap := T.keep _ _ _ here fun b _ o e => old b o e
  have I4 := block_start I3 ok nd fp3
  generalize hH3 : upd H2 D (.dT []) = H3 at I3 I4 fp3 start
  generalize hC : s3.heap.objs.size = C at I4 ⊢
  generalize hce : compEnvC scope (cellsFrom (C + 1) scope.names (cloFrom X.env.cells scope.names [])) C X.env = ce at I4
  have locC : ce.locals = C := by rw [← hce]; rfl
  have at_ : ∀ F : Cx → Prop, InBlk X scope F → F (X.blk s3 H3 scope ce fp) := fun F hF => by rw [← hce]; exact hF ..
  have pg := at_ _ bg
  have pt := at_ _ bt
  have pk := at_ _ bk
  have pv := at_ _ bv
  let B : Cx := X.blk s3 H3 scope ce fp
  let s4 : Shared := { s3 with heap := pushCells (s3.heap.push { cls := .type "dict", data := .dict #[] }) scope.names }
  show codeAny _ _ (.compStart (.DictComp kx vx [⟨tg, iter, ifs, 0⟩] scope pos) 0 (.ref it) (.ref D) (compEnvC scope (cellsFrom (C + 1) scope.names (cloFrom X.env.cells scope.names [])) C X.env)) _ s4
  rw [hce]
  have here4 : tn 0 s4.heap := T.keep _ _ _ here3 fun b _ o e => pushCells_keeps _ _ _ _ (Heap.get?_push_of_some _ e)
  have away : ∀ {τ : St} {G : Hp} {t : Shared}, Inv B [] τ G t → (∀ b ∈ fp, G b = none) → ∀ b ∈ fp, FpOk B [] G b := fun {τ G t} J hn b hb =>
    ⟨hn b hb, (J.ok.exf b hb).1, J.ok.exfs b hb, .inl hb, fun x c e => (J.ok.exf b hb).2 x c e, fun p hp => nomatch (show p ∈ ([] : List (Addr × Obj)) ++ [] from hp)⟩
  let Iv : Nat → Shared → Prop := fun n t => ∃ i G, Inv B [] (wipe σ (own.map (·.2))) G t ∧ tn i t.heap ∧ (∀ b ∈ fp, G b = none) ∧ W i n G
  refine codeAny_compStart_dict ?loop (T.self X.A 0 _ _ _ here4 ?loop)
  refine compLoop_anyD Iv ?_ m0 ⟨0, H3, I4, here4, fun b hb => (fp3 b hb).1.1, start⟩
  rintro n t ⟨i, G, J, st, no, w⟩
  rcases turn i n G w with ⟨stop, fin⟩ | ⟨go, Nx, hNx, step⟩
  · -- the walk is over
    refine thnF (T.done B rfl rfl rfl calm i [] t _ G (fun _ _ => False) J (away J no) st stop) fun r t2 ⟨er, J2⟩ => ?_
    subst er
    have back : Inv X ps σ G t2 := I3.call' (ch := fp) J2.os J2.base J2.hok J2.bare fun b hb => ⟨(fp3 b hb).1.2.2.2.1, (fp3 b hb).1.2.1, (fp3 b hb).1.2.2.2.2.1, (fp3 b hb).1.2.2.2.2.2⟩
    have noC : G C = none := locC ▸ (show G ce.locals = none from J2.free)
    obtain ⟨m, hm, _⟩ := J2.loc
    have fo := I3.fpOk (Nat.le_of_eq hC) noC
    refine ⟨m, locC ▸ (show t2.heap.Ns ce.locals m from hm), fun h3 sb => ?_⟩
    obtain ⟨f0, f1, f2, f3, f4, f5⟩ := fo
    exact ⟨.ref D, G, back.turned (t' := t2.toks) (fun b o hb e => (sb.2 b hb).trans e) f0 f1 f3 f4 f5, rfl, fin⟩
  · refine thnF (T.item B rfl rfl rfl calm i [] t _ G (fun _ _ => False) J (away J no) st go) fun r t2 ⟨u, er, more⟩ => ?_
    subst er
    refine thnF more fun _ t3 ⟨x, G3, J3, rx, hy, st3, no3⟩ => ?_
    have J3p := J3.pinned (away J3 no3) (T.obj _ _ st3)
    refine thnF (pg.run _ t3 _ G3 x u _ J3p rx (step x G3 hy)) fun _ t4 ⟨τ, G4, J4, hw, q4⟩ => ?_
    refine thnF (pt.run _ t4 τ G4 _ J4 q4) fun b t5 ⟨G5, J5, q5⟩ => ?_
    have again : ∀ {t' : Shared} {G' : Hp}, Inv B ([] ++ pinsAt fp t3.heap) τ G' t' → Nx G' → ∃ m, m < n ∧ Iv m t' := fun {t' G'} J' nx => by
      obtain ⟨m2, lt, w2⟩ := hNx G' nx
      have kept : ∀ c ∈ fp, ∀ o, t3.heap.get? c = some o → t'.heap.get? c = some o ∧ G' c = none := fun c hc o e =>
        let z := J'.pin (c, o) (List.mem_append_right _ (List.mem_append_right _ (mem_pinsAt hc e)))
        ⟨z.1, z.2.1⟩
      have len : (wipe σ (own.map (·.2))).length = τ.length := by rw [← hw, wipe_length]
      exact ⟨m2, lt, i + 1, G', (J'.unpinned (pins := [])).weak len (fun j v e => (wipe_some (hw ▸ e)).1), T.keep _ _ _ st3 fun c hc o e => (kept c hc o e).1,
        fun c hc => (T.obj _ _ st3 c hc).elim fun o e => (kept c hc o e.1).2, w2⟩
    cases b with
    | false =>
      simp only [Bool.false_eq_true, if_false] at q5 ⊢
      exact again J5 q5
    | true =>
      simp only [if_true] at q5 ⊢
      refine thnF (pk.run _ t5 τ G5 _ J5 q5) fun kv t6 ⟨y, G6, J6, ry, q6⟩ => ?_
      refine thnF (pv.run _ t6 τ G6 _ J6 q6) fun vv t7 ⟨z, G7, J7, rz, es, k, c, ey, hc, hD, hl, nx⟩ => ?_
      subst ey
      obtain rfl : kv = Value.ref c := ry
      exact put_tup (X := B) hu J7 hc hD hl rz fun t8 J8 => again J8 nx
end
end L2
/-! y = {k: v for ..}, y a plain local: the value goes straight to its name -/
namespace L2
open PySem PySem.Spec PyProof.Rows
section
variable {X : Cx}
theorem sw_trueD {kx vx : Expr} {gs : List Comprehension} {scope : Scope} {pos py : Pos} {y : Str} {l : Nat} {env : Env} (hk : env.scope.kind = .function) (hy : env.scope.names.lookup y = some .local) (hl : (py.line == pos.line) = true)
    (ha : (scope.names.any fun (n, k) => n == y && (k == .local || k == .cell)) = false) : swapsWith (.DictComp kx vx gs scope pos) (some (.Name y py)) l env = pure true := by
  have e1 : env.kindOf y = some .local := hy
  have e2 : env.blockKind = .function := by unfold Env.blockKind; rw [hk]; rfl
  unfold swapsWith
  simp only [e1, e2, ha, hl, Expr.pos]
  rfl
theorem ps_setDc {i : Nat} {y : Str} {py : Pos} {kx vx tg iter : Expr} {ifs : List Expr} {scope : Scope} {own : List (Str × Nat)} {pos spos : Pos} {wi : TI} {g : TG} {tt : TT} {tk tv : TE} (calm : X.calm = true) (nd : X.N.Nodup) (at_ : X.N[i]? = some y) (loc : X.env.scope.names.lookup y = some .local)
    (sw : swapsWith (.DictComp kx vx [⟨tg, iter, ifs, 0⟩] scope pos) (some (.Name y py)) spos.line X.env = pure true) (walk : PI X tg iter wi) (ok : BlkOk X.N X.env.scope scope own)
    (bg : InBlk X scope fun Y => PG Y tg g) (bt : InBlk X scope fun Y => PTs Y ifs tt) (bk : InBlk X scope fun Y => PE Y kx tk) (bv : InBlk X scope fun Y => PE Y vx tv) (plain : ∀ x, foldedSetIterable iter X.env x = pure x := by intro _; rfl) :
    PS X (.Assign [.Name y py] (.DictComp kx vx [⟨tg, iter, ifs, 0⟩] scope pos) spos) (tAsg (tDc wi g tt tk tv (own.map (·.2))) (gName i)) := by
  refine ⟨fun ps s σ H D I hyp => ?_⟩
  rw [exec_Assign_Name_used _ _ _ _ sw]
  refine wpAny_bind (wpAny_standAt (wpAny_bind ?_))
  show wpAny _ X.A (do let _ ← comprehension (.DictComp kx vx [⟨tg, iter, ifs, 0⟩] scope pos) scope X.env (firstIterPos [⟨tg, iter, ifs, 0⟩] pos) newDict false (eval iter X.env) (some (assign (.Name y py) X.env))) _ _ s
  have hyp2 : tDc wi g tt tk tv (own.map (·.2)) σ H (fun x G => gName i x σ G D.nx) := hyp
  refine wpAny_bind (thn (dc_core (Qf := fun _ t => SP X ps D .next t) calm nd I walk ok bg bt bk bv plain hyp2 fun L C t m G J fin hn fo => ?_) fun _ t ht => wpAny_pure (wpAny_pure ht))
  show wpAny _ _ (assign (.Name y py) X.env (.ref L)) _ _ _
  refine wpAny_assign_Name (store_ok2 (v := V.ref L) J nd at_ (.inl loc) rfl (fun t2 J2 ⟨b, sb, hb⟩ => ?_) (.inr loc))
  obtain ⟨f0, f1, f2, f3, f4, f5⟩ := fo
  have away : C ≠ b := by
    rcases hb with z | z
    · exact z ▸ f1
    · exact fun e => f4 y b z e.symm
  exact ⟨m, hn.sameBut sb away, fun h3 sb3 => ⟨_, G, J2.turned (t' := t2.toks) (fun c o hc e => (sb3.2 c hc).trans e) f0 f1 f3 f4 f5, fin⟩⟩
end
end L2
namespace G
open PySem PySem.Spec PyProof.Rows L2 Evl
/-! ## two lists side by side -/
def All2 {α β : Type} (R : α → β → Prop) (as : List α) (bs : List β) : Prop := as.length = bs.length ∧ ∀ (i : Nat) (a : α) (b : β), as[i]? = some a → bs[i]? = some b → R a b
theorem All2.nil {α β : Type} {R : α → β → Prop} : All2 R [] [] := ⟨rfl, fun _ _ _ h => nomatch h⟩
theorem All2.imp {α β : Type} {R S : α → β → Prop} {as : List α} {bs : List β} (h : All2 R as bs) (f : ∀ a b, R a b → S a b) : All2 S as bs := ⟨h.1, fun i a b h1 h2 => f _ _ (h.2 i a b h1 h2)⟩
theorem All2.snoc {α β : Type} {R : α → β → Prop} {as : List α} {bs : List β} {a : α} {b : β} (h : All2 R as bs) (r : R a b) : All2 R (as ++ [a]) (bs ++ [b]) := by
  refine ⟨by rw [List.length_append, List.length_append, h.1]; rfl, fun i x y h1 h2 => ?_⟩
  by_cases hi : i < as.length
  · rw [List.getElem?_append_left hi] at h1
    rw [List.getElem?_append_left (h.1 ▸ hi)] at h2
    exact h.2 i x y h1 h2
  · rw [List.getElem?_append_right (by omega)] at h1
    rw [List.getElem?_append_right (by rw [← h.1]; omega), ← h.1] at h2
    cases e : i - as.length with
    | zero =>
      rw [e] at h1 h2
      cases h1; cases h2; exact r
    | succ n => rw [e] at h1; exact nomatch h1
theorem All2.at_ {α β : Type} {R : α → β → Prop} {as : List α} {bs : List β} (h : All2 R as bs) {i : Nat} {a : α} (e : as[i]? = some a) : ∃ b, bs[i]? = some b ∧ R a b := by
  have hi : i < bs.length := by rw [← h.1]; exact (List.getElem?_eq_some_iff.mp e).1
  exact ⟨bs[i], List.getElem?_eq_getElem hi, h.2 i a _ e (List.getElem?_eq_getElem hi)⟩
theorem All2.of {α β : Type} {R : α → β → Prop} {as : List α} {bs : List β} (h : All2 R as bs) {i : Nat} {b : β} (e : bs[i]? = some b) : ∃ a, as[i]? = some a ∧ R a b := by
  have hi : i < as.length := by rw [h.1]; exact (List.getElem?_eq_some_iff.mp e).1
  exact ⟨as[i], List.getElem?_eq_getElem hi, h.2 i _ b (List.getElem?_eq_getElem hi) e⟩
theorem All2.cons {α β : Type} {R : α → β → Prop} {as : List α} {bs : List β} {a : α} {b : β} (r : R a b) (h : All2 R as bs) : All2 R (a :: as) (b :: bs) := by
  refine ⟨by rw [List.length_cons, List.length_cons, h.1], fun i x y h1 h2 => ?_⟩
  cases i with
  | zero => cases h1; cases h2; exact r
  | succ i => exact h.2 i x y h1 h2
theorem take_snoc1 {α : Type} {l : List α} {j : Nat} {x : α} (h : l[j]? = some x) : l.take (j + 1) = l.take j ++ [x] := by rw [List.take_add_one, h]; rfl
theorem refs_get {as : List Addr} {k : Nat} {x : V} (hx : (as.map V.ref)[k]? = some x) : ∃ a, as[k]? = some a ∧ x = .ref a := by
  rw [List.getElem?_map] at hx
  cases e : as[k]? with
  | none => rw [e] at hx; cases hx
  | some a => rw [e] at hx; cases hx; exact ⟨a, rfl, rfl⟩
/-! ## walks: any body -/
theorem wk_list {K : PySem.W.Frag} {a : Addr} {xs : List V} {body : (Hp → Prop) → V → Hp → Prop} {H0 : Hp} {Qd : Hp → Prop} (Pv : Nat → Hp → Prop) (h0 : Pv 0 H0) (hl : ∀ i H, i ≤ xs.length → Pv i H → SqL K H a xs)
    (hs : ∀ i x H, xs[i]? = some x → Pv i H → body (Pv (i + 1)) x H) (hd : ∀ H, Pv xs.length H → Qd H) :
    ∃ W : Nat → Nat → Hp → Prop, (∃ m, W 0 m H0) ∧ ∀ i m H, W i m H → ((Itl K a).stop i H ∧ Qd H) ∨ ((Itl K a).go i H ∧ ∃ Nx : Hp → Prop, (∀ H', Nx H' → ∃ m', m' < m ∧ W (i + 1) m' H') ∧ ∀ x H', (Itl K a).yld i H x H' → body Nx x H') := by
  refine ⟨fun i m H => m = xs.length - i ∧ i ≤ xs.length ∧ Pv i H, ⟨xs.length, by simp, Nat.zero_le _, h0⟩, ?_⟩
  rintro i m H ⟨rfl, hi, p⟩
  have q := hl i H hi p
  rcases Nat.lt_or_ge i xs.length with lt | ge
  · have e : xs[i]? = some xs[i] := List.getElem?_eq_getElem lt
    refine .inr ⟨⟨xs, xs[i], q, e⟩, Pv (i + 1), fun H' p' => ⟨xs.length - (i + 1), by omega, rfl, lt, p'⟩, fun x H' y => ?_⟩
    obtain ⟨rfl, y⟩ := y
    exact hs i x _ (y xs q) p
  · have e : i = xs.length := by omega
    subst e
    exact .inl ⟨⟨xs, q, Nat.le_refl _⟩, hd H p⟩
theorem wk_tup {K : PySem.W.Frag} {a : Addr} {xs : List V} {body : (Hp → Prop) → V → Hp → Prop} {H0 : Hp} {Qd : Hp → Prop} (Pv : Nat → Hp → Prop) (h0 : Pv 0 H0) (hl : ∀ i H, i ≤ xs.length → Pv i H → SqT K H a xs)
    (hs : ∀ i x H, xs[i]? = some x → Pv i H → body (Pv (i + 1)) x H) (hd : ∀ H, Pv xs.length H → Qd H) :
    ∃ W : Nat → Nat → Hp → Prop, (∃ m, W 0 m H0) ∧ ∀ i m H, W i m H → ((Itt K a).stop i H ∧ Qd H) ∨ ((Itt K a).go i H ∧ ∃ Nx : Hp → Prop, (∀ H', Nx H' → ∃ m', m' < m ∧ W (i + 1) m' H') ∧ ∀ x H', (Itt K a).yld i H x H' → body Nx x H') := by
  refine ⟨fun i m H => m = xs.length - i ∧ i ≤ xs.length ∧ Pv i H, ⟨xs.length, by simp, Nat.zero_le _, h0⟩, ?_⟩
  rintro i m H ⟨rfl, hi, p⟩
  have q := hl i H hi p
  rcases Nat.lt_or_ge i xs.length with lt | ge
  · have e : xs[i]? = some xs[i] := List.getElem?_eq_getElem lt
    refine .inr ⟨⟨xs, xs[i], q, e⟩, Pv (i + 1), fun H' p' => ⟨xs.length - (i + 1), by omega, rfl, lt, p'⟩, fun x H' y => ?_⟩
    obtain ⟨rfl, y⟩ := y
    exact hs i x _ (y xs q) p
  · have e : i = xs.length := by omega
    subst e
    exact .inl ⟨⟨xs, q, Nat.le_refl _⟩, hd H p⟩
theorem wk_it {J : It} {n : Nat} {Gd : Hp → Prop} {Y : Nat → Hp → V → Hp → Prop} (w : Walk J n Gd Y) {body : (Hp → Prop) → V → Hp → Prop} {H0 : Hp} {Qd : Hp → Prop} (Pv : Nat → Hp → Prop) (h0 : Pv 0 H0) (hG : ∀ i H, i ≤ n → Pv i H → Gd H)
    (hs : ∀ i x H H', i < n → Pv i H → Y i H x H' → body (Pv (i + 1)) x H') (hd : ∀ H, Pv n H → Qd H) :
    ∃ W : Nat → Nat → Hp → Prop, (∃ m, W 0 m H0) ∧ ∀ i m H, W i m H → (J.stop i H ∧ Qd H) ∨ (J.go i H ∧ ∃ Nx : Hp → Prop, (∀ H', Nx H' → ∃ m', m' < m ∧ W (i + 1) m' H') ∧ ∀ x H', J.yld i H x H' → body Nx x H') := by
  refine ⟨fun i m H => m = n - i ∧ i ≤ n ∧ Pv i H, ⟨n, by simp, Nat.zero_le _, h0⟩, ?_⟩
  rintro i m H ⟨rfl, hi, p⟩
  rcases Nat.lt_or_ge i n with lt | ge
  · exact .inr ⟨w.goes i H lt (hG i H hi p), Pv (i + 1), fun H' p' => ⟨n - (i + 1), by omega, rfl, lt, p'⟩, fun x H' y => hs i x H H' lt p (w.yields i H x H' lt (hG i H hi p) y)⟩
  · have e : i = n := by omega
    subst e
    exact .inl ⟨w.stops H (hG i H hi p), hd H p⟩
/-! ## tuples joined and cut, whatever object that is -/
theorem cat_tup {K : PySem.W.Frag} {H : Hp} {a b : Addr} {xs ys : List V} {Q : VK} (ha : H a = some (.tup xs)) (hb : H b = some (.tup ys)) (hl : xs.length + ys.length ≤ sizeLine) (q : ∀ c H', Ex H H' → H' c = some (.tup (xs ++ ys)) → Q (.ref c) H') : rCatA K (.ref a) (.ref b) H Q := by
  refine ⟨a, b, xs, ys, rfl, rfl, SqT.of ha, SqT.of hb, hl, fun e => ?_, fun _ e => ?_, fun _ _ p np => ?_⟩
  · subst e; exact q b H (Ex.refl _) hb
  · subst e; exact q a H (Ex.refl _) (by rw [List.append_nil]; exact ha)
  · exact q p _ (Ex.new np) upd_same
theorem cut_tup {K : PySem.W.Frag} {H : Hp} {a : Addr} {xs : List V} {lo hi : Option Int} {Q : VK} (ha : H a = some (.tup xs)) (q : ∀ c H', Ex H H' → H' c = some (.tup (cutV xs lo hi)) → Q (.ref c) H') : rSlA K (.ref a) lo hi H Q := by
  refine ⟨a, xs, rfl, SqT.of ha, fun e => ?_, fun _ p np => q p _ (Ex.new np) upd_same⟩
  refine q a H (Ex.refl _) ?_
  rw [ha]
  unfold cutV
  rw [e.1, e.2, List.drop_zero, Nat.sub_zero, List.take_length]
theorem cutV_head {xs : List V} {k : Nat} (h : k ≤ xs.length) : cutV xs none (some (k : Int)) = xs.take k := by
  unfold cutV
  rw [HT.sIx_none, HT.sIx_nat, List.drop_zero, Nat.sub_zero, Nat.min_eq_left h]
theorem cutV_tail {xs : List V} {k : Nat} (h : k ≤ xs.length) : cutV xs (some (k : Int)) none = xs.drop k := by
  unfold cutV
  rw [HT.sIx_none, HT.sIx_nat, Nat.min_eq_left h, List.take_of_length_le]
  rw [List.length_drop]; exact Nat.le_refl _
end G
namespace G
open PySem PySem.Spec PyProof.Rows L2 Evl
theorem tYes_in {σ : L2.St} {H : Hp} {A B : Hp → Prop} (h : A H) : tYes σ H (fun b H3 => if b = true then A H3 else B H3) := by
  show if true = true then A H else B H
  exact iteT h
def tabV (bs : List Bool) : HO := .tup (bs.map V.bl)
theorem inV_ints {k : Int} {l : List Int} : inV (.int k) (l.map V.int) = l.contains k := by
  unfold inV
  rw [List.any_map, List.contains_eq_any_beq]
  congr 1
  funext y
  show (y == k) = (k == y)
  rw [Bool.eq_iff_iff]; simp; exact eq_comm
theorem inV_bls {k : Bool} {l : List Bool} : inV (.bl k) (l.map V.bl) = l.contains k := by
  unfold inV
  rw [List.any_map, List.contains_eq_any_beq]
  congr 1
  funext y
  show (y == k) = (k == y)
  cases y <;> cases k <;> rfl
theorem flat_map {α : Type} {f : α → V} (h : ∀ x, flatV (f x) = true) (l : List α) : (l.map f).all flatV = true := by
  rw [List.all_map]
  exact List.all_eq_true.mpr fun x _ => h x
theorem tif_by {tt : TE} {σ : L2.St} {H : Hp} {Q : VK} (R : V → Hp → Prop) (h : ∀ Q' : VK, (∀ v H', R v H' → Q' v H') → tt σ H Q') (rest : ∀ v H', R v H' → Q v H') : tt σ H Q := h Q rest
theorem bl_eq (a b : Bool) : decide (V.bl a = V.bl b) = decide (a = b) := by cases a <;> cases b <;> rfl
end G
namespace G
open PySem PySem.Spec PyProof.Rows L2
def topS (i : Nat) : Stmt := PySem.Challenge.pw_signoff_k30_loaded_circuits.main.body.getD i (.Pass ⟨0, 0, 0, 0⟩)
abbrev s_wall : Stmt := topS 0
abbrev s_check_nets : Stmt := topS 9
abbrev s_with_ranges : Stmt := topS 10
abbrev s_all_names : Stmt := topS 11
abbrev s_loaded : Stmt := topS 13
abbrev s_check_connected : Stmt := topS 14
abbrev s_added : Stmt := topS 15
abbrev s_WireTree_init : Stmt := inClass (topS 17) 0
abbrev s_WireTree_len : Stmt := inClass (topS 17) 1
abbrev s_WireTree_parent : Stmt := inClass (topS 17) 2
abbrev s_WireTree_path : Stmt := inClass (topS 17) 3
abbrev s_WireTree_below : Stmt := inClass (topS 17) 4
abbrev s_WireTree_delay : Stmt := inClass (topS 17) 5
abbrev s_WireTree_delay_range : Stmt := inClass (topS 17) 6
abbrev s_WireTree_check_node : Stmt := inClass (topS 17) 7
abbrev s_law_pool : Stmt := topS 19
abbrev s_law_spread : Stmt := topS 20
abbrev s_law_draw : Stmt := topS 21
abbrev s_law_same : Stmt := topS 22
abbrev s_law_bits : Stmt := topS 23
abbrev s_law_table : Stmt := topS 24
abbrev s_law_register : Stmt := topS 25
abbrev s_law_shuffled : Stmt := topS 26
abbrev s_law_circuit : Stmt := topS 27
abbrev s_law_segments : Stmt := topS 28
abbrev s_law_path : Stmt := topS 29
abbrev s_law_delay : Stmt := topS 30
abbrev s_law_told : Stmt := topS 31
abbrev s_law_pins : Stmt := topS 32
abbrev s_law_wired : Stmt := topS 33
abbrev s_law_wrong : Stmt := topS 34
abbrev s_law : Stmt := topS 35
end G
namespace G
open PySem PySem.Spec PyProof.Rows L2 Evl
structure TxtL (mg : Str → Option Value) : Prop where
  int : mg "int" = none
  len : mg "len" = none
  list : mg "list" = none
  range : mg "range" = none
section
variable {P : Program} {w : World} {K : PySem.W.Frag} {mg : Str → Option Value} {base : Heap}
def spSpread : Sp := fun vs H Q _ => ∃ (c : Int), vs = [.int c] ∧ ∀ v : Int, Q (.int v) H
theorem sc_law_spread : FnScope ["cell", "mixed", "total", "k"] ["cell"] (defScope s_law_spread) := ⟨rfl, rfl, rfl, by decide +kernel, rfl, by decide +kernel, by decide +kernel⟩
theorem ok_law_spread (D : Dfd K mg "_law_spread" s_law_spread ["cell"]) (T : TxtL mg) : Has P w K mg base 1 "_law_spread" ["cell"] spSpread := by
  refine D.has fun f fd F => F.ok sc_law_spread (fun vs H Q E h => ?_) (fun cdv A outer s H vs Q E hr h => ?_)
  · obtain ⟨c, rfl, _⟩ := h
    rfl
  · obtain ⟨c, rfl, q⟩ := h
    refine ⟨_, (pss_cons (ps_set (i := 1) sc_law_spread.nd rfl (.inl rfl) (pe_op op_mod (pe_callTy call_int1 (by rfl) T.int (by decide +kernel) (pa_cons (pv 0) pa_nil)) pe_int))
      (pss_cons (ps_set (i := 2) sc_law_spread.nd rfl (.inl rfl) pe_int)
      (pss_cons (ps_for PassesOwn.never rfl (pi_range1 rfl T.range (pa_cons pe_int pa_nil)) (pg_name (i := 3) sc_law_spread.nd rfl (.inl rfl))
        (pss_cons (ps_set (i := 1) sc_law_spread.nd rfl (.inl rfl) (pe_op op_mod (pe_callTy call_int1 (by rfl) T.int (by decide +kernel) (pa_cons (pe_op op_add (pe_op op_add (pe_op op_mul (pv 1) pe_int) pe_int) (pv 3)) pa_nil)) pe_int))
        (pss_one (ps_set (i := 2) sc_law_spread.nd rfl (.inl rfl) (pe_op op_add (pe_op op_mul (pv 2) pe_int) (pv 1))))))
      (pss_one (ps_ret (pv 2)))))), ?_⟩
    refine ⟨_, rfl, .inl ⟨_, rfl, _, _, rfl, rfl, (by show (0 : Int) < 2147483647; decide), 4, rfl, by decide, by decide, for_range (n := 4) (fun _ σ H' => H' = H ∧ ∃ (x y : Int) (z : Option V), σ = [some (.int c), some (.int x), some (.int y), z]) ⟨rfl, _, _, _, rfl⟩ ?_ ?_⟩⟩
    · rintro i σ H' hi ⟨rfl, x, y, z, rfl⟩
      refine ⟨_, rfl, _, _, rfl, rfl, .inr ⟨by decide, by decide⟩, _, _, rfl, rfl, _, rfl, _, _, rfl, rfl, .inl ⟨_, rfl, _, _, rfl, rfl, (by show (0 : Int) < 2147483647; decide), _, rfl, _, _, rfl, rfl, .inr ⟨by decide, by decide⟩, _, rfl, _, _, rfl, rfl, rfl, _, _, _, rfl⟩⟩
    · rintro σ H' ⟨rfl, x, y, z, rfl⟩
      exact ⟨_, rfl, q y⟩
/-- a draw below n -/
def spDraw : Sp := fun vs H Q _ => ∃ (p a : Addr) (n : Int), vs = [.ref p, .int n] ∧ 0 < n ∧ n.natAbs.log2 < 9000 ∧ PoolOk p a H ∧ ∀ (v : Int) (o : HO), 0 ≤ v → v < n → PoolOk p a (upd H p o) → Q (.int v) (upd H p o)
theorem sc_law_draw : FnScope ["pool", "many", "cell", "mixed", "value"] ["pool", "many"] (defScope s_law_draw) := ⟨rfl, rfl, rfl, by decide +kernel, rfl, by decide +kernel, by decide +kernel⟩
theorem ok_law_draw (D : Dfd K mg "_law_draw" s_law_draw ["pool", "many"]) (T : TxtL mg) (C : Has P w K mg base 1 "_law_spread" ["cell"] spSpread) : Has P w K mg base 2 "_law_draw" ["pool", "many"] spDraw := by
  obtain ⟨f_law_spread, d_law_spread, G_law_spread, g_law_spread, k_law_spread, b_law_spread⟩ := C
  refine D.has fun f fd F => F.ok sc_law_draw (fun vs H Q E h => ?_) (fun cdv A outer s H vs Q E hr h => ?_)
  · obtain ⟨p, a, n, rfl, _⟩ := h
    rfl
  · obtain ⟨p, a, n, rfl, n0, n9, hp, q⟩ := h
    refine ⟨_, (pss_cut (ps_if (PW.pt (pw_and (pt_cmpR op_le (pe_ix ix_list (pv 0) pe_int (fun _ _ => rfl)) pe_int (nomark _)) (pw_and1 (pt_cmpR op_lt (pe_ix ix_list (pv 0) pe_int (fun _ _ => rfl)) (pe_callB call_len_seq (by rfl) T.len (by decide +kernel) (pa_cons (pe_ix ix_list (pv 0) pe_int (fun _ _ => rfl)) pa_nil)) (nomark _)))))
      (pss_cons (ps_set (i := 2) sc_law_draw.nd rfl (.inl rfl) (pe_ix ix_list (pe_ix ix_list (pv 0) pe_int (fun _ _ => rfl)) (pe_ix ix_list (pv 0) pe_int (fun _ _ => rfl)) (fun _ _ => rfl)))
      (pss_cons (ps_asg (pe_op op_add (pe_ix ix_list (pv 0) pe_int (fun _ _ => rfl)) pe_int) (pg_sub (pv 0) pe_int set_list))
      (pss_cons (ps_asg (pv 2) (pg_sub (pv 0) pe_int set_list))
      (pss_one (ps_if (pt_cmpR op_lt (pv 2) pe_int (nomark _))
        (pss_one (ps_asg (pe_call G_law_spread hr (by rfl) g_law_spread k_law_spread b_law_spread .nil pass0 (pa_cons (pv 2) pa_nil)) (pg_sub (pv 0) pe_int set_list)))
        pss_nil)))))
      pss_nil)
    (pss_cons (ps_asg (pe_op op_add (pe_ix ix_list (pv 0) pe_int (fun _ _ => rfl)) pe_int) (pg_sub (pv 0) pe_int set_list))
    (pss_cons (ps_if (pt_cmpR op_le (pe_ix ix_list (pv 0) pe_int (fun _ _ => rfl)) pe_int (nomark _))
      (pss_cons (ps_set (i := 3) sc_law_draw.nd rfl (.inl rfl) (pe_op op_mod (pe_callTy call_int1 (by rfl) T.int (by decide +kernel) (pa_cons (pe_op op_add (pe_op op_add (pe_op op_mul (pe_ix ix_list (pv 0) pe_int (fun _ _ => rfl)) pe_int) (pe_op op_mul (pe_ix ix_list (pv 0) pe_int (fun _ _ => rfl)) pe_int)) pe_int) pa_nil)) pe_int))
      (pss_cons (ps_set (i := 3) sc_law_draw.nd rfl (.inl rfl) (pe_op op_mod (pe_callTy call_int1 (by rfl) T.int (by decide +kernel) (pa_cons (pe_op op_add (pe_op op_mul (pv 3) pe_int) (pe_ix ix_list (pv 0) pe_int (fun _ _ => rfl))) pa_nil)) pe_int))
      (pss_one (ps_ret (pe_op op_mod (pe_op op_fdiv (pv 3) pe_int) (pv 1))))))
      pss_nil)
    (pss_cons (ps_set (i := 4) sc_law_draw.nd rfl (.inl rfl) (pe_op op_mod (pe_callTy call_int1 (by rfl) T.int (by decide +kernel) (pa_cons (pe_ix ix_list (pv 0) pe_int (fun _ _ => rfl)) pa_nil)) (pv 1)))
    (pss_cons (ps_asg (pe_op op_fdivW (pe_ix ix_list (pv 0) pe_int (fun _ _ => rfl)) (pv 1)) (pg_sub (pv 0) pe_int set_list))
    (pss_one (ps_ret (pv 4)))))))), ?_⟩
    obtain ⟨ns, i, c, k, s5, hl, ha, hn⟩ := hp
    have hap : a ≠ p := hid_neq ha
    have haH := hid_get ha
    -- the pool as it stands after writes
    have pk : ∀ (i' : Nat) (c' k' s' : Int), PoolOk p a (upd H p (.lst [.ref a, .int i', .int c', .int k', .int s'])) := fun i' c' k' s' =>
      ⟨ns, i', c', k', s', upd_same, by rw [hid_upd]; exact ha, hn⟩
    refine ⟨fun σ H' => ∃ (i' : Nat) (c' k' s' : Int) (o1 : Option V), σ = [some (.ref p), some (.int n), o1, none, none] ∧ H' p = some (.lst [.ref a, .int i', .int c', .int k', .int s']) ∧ (∀ o, upd H' p o = upd H p o), ?_, ?_⟩
    · refine ⟨_, rfl, _, _, _, _, rfl, rfl, SqL.of hl, atI_nat (j := 2) rfl, _, _, rfl, rfl, _, rfl, ite2 (fun e1 => ?_) (fun e1 => ?_)⟩
      · refine ⟨_, rfl, _, _, _, _, rfl, rfl, SqL.of hl, atI_nat (j := 1) rfl, _, rfl, _, _, _, _, rfl, rfl, SqL.of hl, atI_nat (j := 0) rfl, _, _, rfl, .inl (SqL.of haH), _, _, rfl, rfl, _, rfl, ite2 (fun e2 => ?_) (fun e2 => ?_)⟩
        · have hi : i < (ns.map V.int).length := by have := of_decide_eq_true e2; omega
          have hi' : i < ns.length := by rw [List.length_map] at hi; exact hi
          have gi : (ns.map V.int)[i]? = some (.int ns[i]) := by rw [List.getElem?_map, List.getElem?_eq_getElem hi']; rfl
          refine ⟨_, rfl, _, _, _, _, rfl, rfl, SqL.of hl, atI_nat (j := 0) rfl, _, rfl, _, _, _, _, rfl, rfl, SqL.of hl, atI_nat (j := 1) rfl, _, _, _, _, rfl, rfl, SqL.of haH, atI_nat gi, ?_⟩
          refine ⟨_, rfl, _, _, _, _, rfl, rfl, SqL.of hl, atI_nat (j := 1) rfl, _, _, rfl, rfl, _, rfl, _, _, _, 1, rfl, rfl, hl, rfl, ?_⟩
          refine ⟨_, rfl, _, rfl, _, _, _, 2, rfl, rfl, upd_same, rfl, ?_⟩
          refine ⟨_, rfl, _, _, rfl, rfl, _, rfl, ite2 (fun e3 => ?_) (fun e3 => ?_)⟩
          · refine ⟨_, rfl, _, rfl, fun v => ⟨_, rfl, _, _, _, 2, rfl, rfl, upd_same, rfl, ?_⟩⟩
            exact ⟨i + 1, v, k, s5, _, rfl, upd_same, fun o => by rw [upd_upd, upd_upd, upd_upd]⟩
          · exact ⟨i + 1, ns[i], k, s5, _, rfl, upd_same, fun o => by rw [upd_upd, upd_upd]⟩
        · exact ⟨i, c, k, s5, _, rfl, hl, fun _ => rfl⟩
      · exact iteF ⟨i, c, k, s5, _, rfl, hl, fun _ => rfl⟩
    · rintro σ H' ⟨i, c, k, s5, o1, rfl, hl', hu⟩
      refine ⟨_, rfl, _, _, _, _, rfl, rfl, SqL.of hl', atI_nat (j := 3) rfl, _, _, rfl, rfl, _, rfl, _, _, _, 3, rfl, rfl, hl', rfl, ?_⟩
      refine ⟨_, rfl, _, _, _, _, rfl, rfl, SqL.of upd_same, atI_nat (j := 2) rfl, _, _, rfl, rfl, _, rfl, ite2 (fun e1 => ?_) (fun e1 => ?_)⟩
      · refine ⟨_, rfl, _, _, _, _, rfl, rfl, SqL.of upd_same, atI_nat (j := 4) rfl, _, _, rfl, rfl, .inr ⟨by decide, by decide⟩, _, rfl, _, _, _, _, rfl, rfl, SqL.of upd_same, atI_nat (j := 3) rfl, _, _, rfl, rfl, .inr ⟨by decide, by decide⟩, _, _, rfl, rfl, _, _, rfl, rfl, .inl ⟨_, rfl, _, _, rfl, rfl, (by show (0 : Int) < 2147483647; decide), ?_⟩⟩
        refine ⟨_, rfl, _, _, rfl, rfl, .inr ⟨by decide, by decide⟩, _, rfl, _, _, _, _, rfl, rfl, SqL.of upd_same, atI_nat (j := 3) rfl, _, _, rfl, rfl, .inl ⟨_, rfl, _, _, rfl, rfl, (by show (0 : Int) < 2147483629; decide), ?_⟩⟩
        refine ⟨_, rfl, _, _, rfl, rfl, ⟨by decide, by decide⟩, _, rfl, _, _, rfl, rfl, n0, ?_⟩
        show Q _ _
        rw [hu]
        exact q _ _ (Int.emod_nonneg _ (by omega)) (Int.emod_lt_of_pos _ n0) (pk i c (k + 1) s5)
      · refine ⟨_, rfl, _, _, _, _, rfl, rfl, SqL.of upd_same, atI_nat (j := 2) rfl, .inl ⟨_, rfl, _, rfl, _, _, rfl, rfl, n0, ?_⟩⟩
        refine ⟨_, rfl, _, _, _, _, rfl, rfl, SqL.of upd_same, atI_nat (j := 2) rfl, _, rfl, _, _, rfl, rfl, ⟨n0, n9⟩, _, rfl, _, _, _, 2, rfl, rfl, upd_same, rfl, _, rfl, ?_⟩
        show Q _ _
        rw [upd_upd, hu]
        exact q _ _ (Int.emod_nonneg _ (by omega)) (Int.emod_lt_of_pos _ n0) (pk i (c / n) (k + 1) s5)
/-- the same, the heap behind it a letter -/
def spDrawX : Sp := fun vs H Q _ => ∃ (p a : Addr) (n : Int), vs = [.ref p, .int n] ∧ 0 < n ∧ n ≤ 2 ^ 70 ∧ PoolOk p a H ∧ ∀ (v : Nat) (H' : Hp), (v : Int) < n → Px p a H H' → (∀ b, b ≠ p → H' b = H b) → Q (.int v) H'
theorem log2_small {n : Int} (h0 : 0 < n) (h : n ≤ 2 ^ 70) : n.natAbs.log2 < 9000 := by
  have h1 : n.natAbs < 2 ^ 71 := by omega
  have := PySem.Flt.log2_lt_of (by decide : 0 < 71) h1
  omega
theorem drawX (C : Has P w K mg base 2 "_law_draw" ["pool", "many"] spDraw) : Has P w K mg base 2 "_law_draw" ["pool", "many"] spDrawX :=
  C.imp fun vs H Q E h => by
    obtain ⟨p, a, n, rfl, h0, h1, hp, q⟩ := h
    refine ⟨p, a, n, rfl, h0, log2_small h0 h1, hp, fun v o v0 v1 hq => ?_⟩
    have e : v = ((v.toNat : Nat) : Int) := by omega
    rw [e]
    exact q v.toNat _ (by omega) (Px.draw hp hq) fun b hb => upd_ne hb
end
end G
namespace G
open PySem PySem.Spec PyProof.Rows L2 Evl
section
variable {P : Program} {w : World} {K : PySem.W.Frag} {mg : Str → Option Value} {base : Heap}
theorem cutV_mem {xs : List V} {lo hi : Option Int} {i : Nat} {x : V} (h : (cutV xs lo hi)[i]? = some x) : x ∈ xs := by
  unfold cutV at h
  exact List.mem_of_mem_drop (List.mem_of_mem_take (List.mem_of_getElem? h))
theorem int_of {ns : List Int} {x : V} (h : x ∈ ns.map V.int) : ∃ z, x = .int z := by
  obtain ⟨z, _, e⟩ := List.mem_map.mp h
  exact ⟨z, e.symm⟩
def spPool (K : PySem.W.Frag) : Sp := fun vs H Q _ => ∃ (s : Addr) (ns : List Int), vs = [.ref s] ∧ SqL K H s (ns.map V.int) ∧ ns.length ≤ 1000 ∧ ∀ (p a : Addr) (H' : Hp), PoolOk p a H' → Ex H H' → H p = none → Q (.ref p) H'
theorem sc_law_pool : FnScope ["script", "salt", "cell"] ["script"] (defScope s_law_pool) := ⟨rfl, rfl, rfl, by decide +kernel, rfl, by decide +kernel, by decide +kernel⟩
theorem ok_law_pool (D : Dfd K mg "_law_pool" s_law_pool ["script"]) (T : TxtL mg) : Has P w K mg base 1 "_law_pool" ["script"] (spPool K) := by
  refine D.has fun f fd F => F.ok sc_law_pool (fun vs H Q E h => ?_) (fun cdv A outer s H vs Q E hr h => ?_)
  · obtain ⟨c, _, rfl, _⟩ := h
    rfl
  · obtain ⟨sa, ns, rfl, hs, hn, q⟩ := h
    refine ⟨_, (pss_cons (ps_set (i := 1) sc_law_pool.nd rfl (.inl rfl) pe_int)
      (pss_cons (ps_for PassesOwn.never rfl (pi_list (pe_slice sl_list (pv 0) po_none (po_some pe_int))) (pg_name (i := 2) sc_law_pool.nd rfl (.inl rfl))
        (pss_one (ps_set (i := 1) sc_law_pool.nd rfl (.inl rfl) (pe_op op_mod (pe_callTy call_int1 (by rfl) T.int (by decide +kernel) (pa_cons (pe_op op_add (pe_op op_mul (pv 1) pe_int) (pv 2)) pa_nil)) pe_int))))
      (pss_one (ps_ret (pe_lst (pa_cons (pe_callTy call_list_of (by rfl) T.list (by decide +kernel) (pa_cons (pv 0) pa_nil)) (pa_cons pe_int (pa_cons pe_int (pa_cons pe_int (pa_cons (pv 1) pa_nil)))))))))), ?_⟩
    refine ⟨_, rfl, _, rfl, sa, _, rfl, hs, fun c nc => ⟨c, rfl, ⟨_, SqL.of upd_same⟩, for_list (K := K) (a := c) (xs := cutV (ns.map V.int) none (some 63)) (fun _ σ H' => H' = upd H c (.lst (cutV (ns.map V.int) none (some 63))) ∧ ∃ (x : Int) (z : Option V), σ = [some (.ref sa), some (.int x), z]) ⟨rfl, _, _, rfl⟩ ?_ ?_ ?_⟩⟩
    · rintro i σ H' _ ⟨rfl, _⟩
      exact SqL.of upd_same
    · rintro i x σ H' hi ⟨rfl, y, z, rfl⟩
      obtain ⟨m, rfl⟩ := int_of (cutV_mem hi)
      exact ⟨_, rfl, _, _, rfl, rfl, .inr ⟨by decide, by decide⟩, _, rfl, _, _, rfl, rfl, .inl ⟨_, rfl, _, _, rfl, rfl, (by show (0 : Int) < 1000003; decide), rfl, _, _, rfl⟩⟩
    · rintro σ H' ⟨rfl, y, z, rfl⟩
      have e1 : Ex H (upd H c (.lst (cutV (ns.map V.int) none (some 63)))) := Ex.new nc
      refine ⟨_, rfl, _, _, rfl, .inl (ex_l e1 hs), fun l nl => ⟨_, rfl, (by show 5 ≤ sizeLine; decide), fun p np => ?_⟩⟩
      have e2 := e1.trans (Ex.new (o := .lst (ns.map V.int)) nl)
      have npl : l ≠ p := ne_of_none upd_same np
      exact q p l _ ⟨ns, 0, 0, 0, y, upd_same, by rw [hid_ne npl, upd_ne npl]; exact upd_same, hn⟩ (e2.trans (Ex.new np)) (fresh_back e2 np)
end
end G
namespace G
open PySem PySem.Spec PyProof.Rows L2 Evl
/-! ## data -/
inductive D where
  | non | bl (b : Bool) | int (i : Int) | str (s : Str) | tup (l : List D) | lst (l : List D)
def okD : Nat → D → Prop
  | 0, .tup _ => False
  | 0, .lst _ => False
  | n + 1, .tup l => l.length < 2 ^ 61 ∧ ∀ d ∈ l, okD n d
  | n + 1, .lst l => l.length < 2 ^ 61 ∧ ∀ d ∈ l, okD n d
  | _, _ => True
inductive Rep (H : Hp) : V → D → Prop where
  | non : Rep H .non .non
  | bl (b : Bool) : Rep H (.bl b) (.bl b)
  | int (i : Int) : Rep H (.int i) (.int i)
  | str (s : Str) : Rep H (.str s) (.str s)
  | tup {a : Addr} {xs : List V} {ds : List D} (h : H a = some (.tup xs)) (hl : xs.length = ds.length) (hr : ∀ (i : Nat) (x : V) (d : D), xs[i]? = some x → ds[i]? = some d → Rep H x d) : Rep H (.ref a) (.tup ds)
  | lst {a : Addr} {xs : List V} {ds : List D} (h : H a = some (.lst xs)) (hl : xs.length = ds.length) (hr : ∀ (i : Nat) (x : V) (d : D), xs[i]? = some x → ds[i]? = some d → Rep H x d) : Rep H (.ref a) (.lst ds)
theorem Rep.ex {H H' : Hp} (e : Ex H H') {x : V} {d : D} (r : Rep H x d) : Rep H' x d := by
  induction r with
  | non => exact .non
  | bl b => exact .bl b
  | int i => exact .int i
  | str s => exact .str s
  | tup h hl _ ih => exact .tup (e _ _ h) hl ih
  | lst h hl _ ih => exact .lst (e _ _ h) hl ih
theorem okD.mono : ∀ {n m : Nat} {d : D}, n ≤ m → okD n d → okD m d
  | 0, 0, d, _, h => h
  | 0, m + 1, .non, _, _ => trivial
  | 0, m + 1, .bl _, _, _ => trivial
  | 0, m + 1, .int _, _, _ => trivial
  | 0, m + 1, .str _, _, _ => trivial
  | 0, m + 1, .tup _, _, h => h.elim
  | 0, m + 1, .lst _, _, h => h.elim
  | n + 1, m + 1, .non, _, _ => trivial
  | n + 1, m + 1, .bl _, _, _ => trivial
  | n + 1, m + 1, .int _, _, _ => trivial
  | n + 1, m + 1, .str _, _, _ => trivial
  | n + 1, m + 1, .tup l, le, h => ⟨h.1, fun d hd => okD.mono (Nat.le_of_succ_le_succ le) (h.2 d hd)⟩
  | n + 1, m + 1, .lst l, le, h => ⟨h.1, fun d hd => okD.mono (Nat.le_of_succ_le_succ le) (h.2 d hd)⟩
structure TxtS (mg : Str → Option Value) : Prop where
  isinstance : mg "isinstance" = none
  tuple : mg "tuple" = none
  list : mg "list" = none
  len : mg "len" = none
  range : mg "range" = none
  bool : mg "bool" = none
  int : mg "int" = none
  str : mg "str" = none
section
variable {P : Program} {w : World} {K : PySem.W.Frag} {mg : Str → Option Value} {base : Heap}
/-- equal data: the answer is True -/
def spSame : Nat → Sp
  | 0 => fun _ _ _ _ => False
  | n + 1 => fun vs H Q _ => ∃ (x y : V) (d : D), vs = [x, y] ∧ Rep H x d ∧ Rep H y d ∧ okD n d ∧ Q (.bl true) H
theorem sc_law_same : FnScope ["actual", "due", "k"] ["actual", "due"] (defScope s_law_same) := ⟨rfl, rfl, rfl, by decide +kernel, rfl, by decide +kernel, by decide +kernel⟩
theorem fn_law_same {f : Addr} {fd : FuncData} (F : Fun K "_law_same" "_law_same" s_law_same f fd) (g_law_same : mg "_law_same" = some (.ref f)) (b_law_same : Binds K fd ["actual", "due"] []) (T : TxtS mg) : ∀ n, FnOk P w K mg base CX0 n f fd ["actual", "due"] (spSame n)
  | 0 => ⟨fun _ _ _ _ h => h.elim, fun _ _ _ _ _ _ _ _ _ _ _ _ _ h => h.elim⟩
  | n + 1 => by
    have G_law_same := fn_law_same F g_law_same b_law_same T n
    have k_law_same := F.kp
    refine F.ok sc_law_same (fun vs H Q E h => ?_) (fun cdv A outer s H vs Q E hr h => ?_)
    · obtain ⟨x, y, d, rfl, _⟩ := h
      rfl
    · obtain ⟨x, y, d, rfl, rx, ry, hd, q⟩ := h
      refine ⟨_, (pss_cons (ps_if (PW.pt (pw_or (pt_val (pe_callB call_isi (by rfl) T.isinstance (by decide +kernel) (pa_cons (pv 1) (pa_cons (pe_bltn (v := .ty "tuple") (by rfl) T.tuple (by decide +kernel) rfl) pa_nil)))) (pw_or1 (pt_val (pe_callB call_isi (by rfl) T.isinstance (by decide +kernel) (pa_cons (pv 1) (pa_cons (pe_bltn (v := .ty "list") (by rfl) T.list (by decide +kernel) rfl) pa_nil)))))))
      (pss_cons (ps_if (PW.pt (pw_or (pt_cmpR op_ne (pe_callB call_isi (by rfl) T.isinstance (by decide +kernel) (pa_cons (pv 1) (pa_cons (pe_bltn (v := .ty "tuple") (by rfl) T.tuple (by decide +kernel) rfl) pa_nil))) (pe_callB call_isi (by rfl) T.isinstance (by decide +kernel) (pa_cons (pv 0) (pa_cons (pe_bltn (v := .ty "tuple") (by rfl) T.tuple (by decide +kernel) rfl) pa_nil))) (nomark _)) (pw_or1 (pt_cmpR op_ne (pe_callB call_isi (by rfl) T.isinstance (by decide +kernel) (pa_cons (pv 1) (pa_cons (pe_bltn (v := .ty "list") (by rfl) T.list (by decide +kernel) rfl) pa_nil))) (pe_callB call_isi (by rfl) T.isinstance (by decide +kernel) (pa_cons (pv 0) (pa_cons (pe_bltn (v := .ty "list") (by rfl) T.list (by decide +kernel) rfl) pa_nil))) (nomark _)))))
        (pss_one (ps_ret pe_bl))
        pss_nil)
      (pss_cons (ps_if (pt_cmpR op_ne (pe_callB call_len_seq (by rfl) T.len (by decide +kernel) (pa_cons (pv 0) pa_nil)) (pe_callB call_len_seq (by rfl) T.len (by decide +kernel) (pa_cons (pv 1) pa_nil)) (nomark _))
        (pss_one (ps_ret pe_bl))
        pss_nil)
      (pss_cons (ps_for PassesOwn.never rfl (pi_range1 rfl T.range (pa_cons (pe_callB call_len_seq (by rfl) T.len (by decide +kernel) (pa_cons (pv 1) pa_nil)) pa_nil)) (pg_name (i := 2) sc_law_same.nd rfl (.inl rfl))
        (pss_one (ps_if (pt_not (pt_val (pe_call G_law_same hr (by rfl) g_law_same k_law_same b_law_same .nil pass0 (pa_cons (pe_ix ix_seq (pv 0) (pv 2) (fun _ _ => rfl)) (pa_cons (pe_ix ix_seq (pv 1) (pv 2) (fun _ _ => rfl)) pa_nil)))))
          (pss_one (ps_ret pe_bl))
          pss_nil)))
      (pss_one (ps_ret pe_bl)))))
      pss_nil)
    (pss_cons (ps_if (pt_cmpR op_isN (pv 1) pe_non (nomark _))
      (pss_one (ps_ret (pe_cmpR op_isN (pv 0) pe_non (nomark _))))
      pss_nil)
    (pss_cons (ps_if (pt_val (pe_callB call_isi (by rfl) T.isinstance (by decide +kernel) (pa_cons (pv 1) (pa_cons (pe_bltn (v := .ty "bool") (by rfl) T.bool (by decide +kernel) rfl) pa_nil))))
      (pss_one (ps_ret (pe_and (pe_callB call_isi (by rfl) T.isinstance (by decide +kernel) (pa_cons (pv 0) (pa_cons (pe_bltn (v := .ty "bool") (by rfl) T.bool (by decide +kernel) rfl) pa_nil))) (pe_one (pe_cmpR op_eq (pv 0) (pv 1) (nomark _))))))
      pss_nil)
    (pss_cons (ps_if (pt_val (pe_callB call_isi (by rfl) T.isinstance (by decide +kernel) (pa_cons (pv 1) (pa_cons (pe_bltn (v := .ty "int") (by rfl) T.int (by decide +kernel) rfl) pa_nil))))
      (pss_one (ps_ret (pe_and (pe_callB call_isi (by rfl) T.isinstance (by decide +kernel) (pa_cons (pv 0) (pa_cons (pe_bltn (v := .ty "int") (by rfl) T.int (by decide +kernel) rfl) pa_nil))) (pe_and (pe_not (pe_callB call_isi (by rfl) T.isinstance (by decide +kernel) (pa_cons (pv 0) (pa_cons (pe_bltn (v := .ty "bool") (by rfl) T.bool (by decide +kernel) rfl) pa_nil)))) (pe_one (pe_cmpR op_eq (pv 0) (pv 1) (nomark _)))))))
      pss_nil)
    (pss_one (ps_ret (pe_and (pe_callB call_isi (by rfl) T.isinstance (by decide +kernel) (pa_cons (pv 0) (pa_cons (pe_bltn (v := .ty "str") (by rfl) T.str (by decide +kernel) rfl) pa_nil))) (pe_one (pe_cmpR op_eq (pv 0) (pv 1) (nomark _)))))))))), ?_⟩
      cases rx with
      | non =>
        cases ry
        refine ⟨_, rfl, _, _, _, _, _, rfl, .ty "tuple", .base .non, kit_ty (a := "NoneType") (r := false) (by decide +kernel), _, rfl, iteF ⟨_, rfl, _, _, _, _, _, rfl, .ty "list", .base .non, kit_ty (a := "NoneType") (r := false) (by decide +kernel), _, rfl, iteF ⟨_, rfl, rfl, _, rfl, iteT ⟨_, rfl, rfl, ?_⟩⟩⟩⟩
        exact q
      | bl b =>
        cases ry
        refine ⟨_, rfl, _, _, _, _, _, rfl, .ty "tuple", .base (.bl _), kit_ty (a := "bool") (r := false) (by decide +kernel), _, rfl, iteF ⟨_, rfl, _, _, _, _, _, rfl, .ty "list", .base (.bl _), kit_ty (a := "bool") (r := false) (by decide +kernel), _, rfl, iteF ⟨_, rfl, rfl, _, rfl, iteF ⟨_, rfl, _, _, _, _, _, rfl, .ty "bool", .base (.bl _), kit_ty (a := "bool") (r := true) (by decide +kernel), _, rfl, iteT ⟨_, rfl, _, _, _, _, _, rfl, .ty "bool", .base (.bl _), kit_ty (a := "bool") (r := true) (by decide +kernel), _, rfl, iteT ⟨_, rfl, _, rfl, rfl, ?_⟩⟩⟩⟩⟩⟩
        rw [decide_eq_true rfl]
        exact q
      | int b =>
        cases ry
        refine ⟨_, rfl, _, _, _, _, _, rfl, .ty "tuple", .base (.int _), kit_ty (a := "int") (r := false) (by decide +kernel), _, rfl, iteF ⟨_, rfl, _, _, _, _, _, rfl, .ty "list", .base (.int _), kit_ty (a := "int") (r := false) (by decide +kernel), _, rfl, iteF ⟨_, rfl, rfl, _, rfl, iteF ⟨_, rfl, _, _, _, _, _, rfl, .ty "bool", .base (.int _), kit_ty (a := "int") (r := false) (by decide +kernel), _, rfl, iteF ⟨_, rfl, _, _, _, _, _, rfl, .ty "int", .base (.int _), kit_ty (a := "int") (r := true) (by decide +kernel), _, rfl, iteT ⟨_, rfl, _, _, _, _, _, rfl, .ty "int", .base (.int _), kit_ty (a := "int") (r := true) (by decide +kernel), _, rfl, iteT ⟨_, rfl, _, _, _, _, _, rfl, .ty "bool", .base (.int _), kit_ty (a := "int") (r := false) (by decide +kernel), _, rfl, _, rfl, iteT ⟨_, rfl, _, rfl, rfl, ?_⟩⟩⟩⟩⟩⟩⟩⟩
        rw [decide_eq_true rfl]
        exact q
      | str b =>
        cases ry
        refine ⟨_, rfl, _, _, _, _, _, rfl, .ty "tuple", .base (.str _), kit_ty (a := "str") (r := false) (by decide +kernel), _, rfl, iteF ⟨_, rfl, _, _, _, _, _, rfl, .ty "list", .base (.str _), kit_ty (a := "str") (r := false) (by decide +kernel), _, rfl, iteF ⟨_, rfl, rfl, _, rfl, iteF ⟨_, rfl, _, _, _, _, _, rfl, .ty "bool", .base (.str _), kit_ty (a := "str") (r := false) (by decide +kernel), _, rfl, iteF ⟨_, rfl, _, _, _, _, _, rfl, .ty "int", .base (.str _), kit_ty (a := "str") (r := false) (by decide +kernel), _, rfl, iteF ⟨_, rfl, _, _, _, _, _, rfl, .ty "str", .base (.str _), kit_ty (a := "str") (r := true) (by decide +kernel), _, rfl, iteT ⟨_, rfl, _, rfl, rfl, ?_⟩⟩⟩⟩⟩⟩⟩
        rw [decide_eq_true rfl]
        exact q
      | @tup a xs ds hx lx rx =>
        cases ry with
        | @tup b ys _ hy ly ry =>
          cases n with
          | zero => exact hd.elim
          | succ m =>
            obtain ⟨hlen, hall⟩ := hd
            refine ⟨_, rfl, _, _, _, _, _, rfl, .ty "tuple", .base (.tup hy), kit_ty (a := "tuple") (r := true) (by decide +kernel), _, rfl, iteT (iteT ⟨_, rfl, _, _, _, _, _, rfl, .ty "tuple", .base (.tup hy), kit_ty (a := "tuple") (r := true) (by decide +kernel), _, rfl, _, _, _, _, _, rfl, .ty "tuple", .base (.tup hx), kit_ty (a := "tuple") (r := true) (by decide +kernel), rfl, _, rfl, iteF ⟨_, rfl, _, _, _, _, _, rfl, .ty "list", .base (.tup hy), kit_ty (a := "tuple") (r := false) (by decide +kernel), _, rfl, _, _, _, _, _, rfl, .ty "list", .base (.tup hx), kit_ty (a := "tuple") (r := false) (by decide +kernel), rfl, _, rfl, iteF ⟨_, rfl, _, _, rfl, .inr (SqT.of hx), _, rfl, _, _, rfl, .inr (SqT.of hy), rfl, _, rfl, ?_⟩⟩⟩)⟩
            have el : decide (V.int (xs.length : Int) = V.int (ys.length : Int)) = true := decide_eq_true (by rw [lx, ly])
            rw [el]
            refine ⟨_, rfl, _, _, rfl, .inr (SqT.of hy), _, rfl, by omega, by omega, for_range (n := (ys.length : Int).toNat) (fun _ σ H' => H' = H ∧ ∃ z : Option V, σ = [some (.ref a), some (.ref b), z]) ⟨rfl, _, rfl⟩ ?_ ?_⟩
            · rintro i σ H' hi ⟨rfl, z, rfl⟩
              have hi' : i < ds.length := by omega
              have e0 : (0 : Int) + (i : Int) = (i : Int) := Int.zero_add _
              have g1 : xs[i]? = some xs[i] := List.getElem?_eq_getElem (by omega)
              have g2 : ys[i]? = some ys[i] := List.getElem?_eq_getElem (by omega)
              have g3 : ds[i]? = some ds[i] := List.getElem?_eq_getElem hi'
              rw [e0]
              refine ⟨_, rfl, _, rfl, .inr (.inl ⟨_, _, _, _, rfl, rfl, SqT.of hx, atI_nat g1, _, rfl, _, rfl, .inr (.inl ⟨_, _, _, _, rfl, rfl, SqT.of hy, atI_nat g2, ?_⟩)⟩)⟩
              exact ⟨_, _, ds[i], rfl, rx i _ _ g1 g3, ry i _ _ g2 g3, hall _ (List.getElem_mem hi'), _, rfl, rfl, _, rfl⟩
            · rintro σ H' ⟨rfl, z, rfl⟩
              exact q
      | @lst a xs ds hx lx rx =>
        cases ry with
        | @lst b ys _ hy ly ry =>
          cases n with
          | zero => exact hd.elim
          | succ m =>
            obtain ⟨hlen, hall⟩ := hd
            refine ⟨_, rfl, _, _, _, _, _, rfl, .ty "tuple", .base (.lst hy), kit_ty (a := "list") (r := false) (by decide +kernel), _, rfl, iteF ⟨_, rfl, _, _, _, _, _, rfl, .ty "list", .base (.lst hy), kit_ty (a := "list") (r := true) (by decide +kernel), _, rfl, iteT ⟨_, rfl, _, _, _, _, _, rfl, .ty "tuple", .base (.lst hy), kit_ty (a := "list") (r := false) (by decide +kernel), _, rfl, _, _, _, _, _, rfl, .ty "tuple", .base (.lst hx), kit_ty (a := "list") (r := false) (by decide +kernel), rfl, _, rfl, iteF ⟨_, rfl, _, _, _, _, _, rfl, .ty "list", .base (.lst hy), kit_ty (a := "list") (r := true) (by decide +kernel), _, rfl, _, _, _, _, _, rfl, .ty "list", .base (.lst hx), kit_ty (a := "list") (r := true) (by decide +kernel), rfl, _, rfl, iteF ⟨_, rfl, _, _, rfl, .inl (SqL.of hx), _, rfl, _, _, rfl, .inl (SqL.of hy), rfl, _, rfl, ?_⟩⟩⟩⟩⟩
            have el : decide (V.int (xs.length : Int) = V.int (ys.length : Int)) = true := decide_eq_true (by rw [lx, ly])
            rw [el]
            refine ⟨_, rfl, _, _, rfl, .inl (SqL.of hy), _, rfl, by omega, by omega, for_range (n := (ys.length : Int).toNat) (fun _ σ H' => H' = H ∧ ∃ z : Option V, σ = [some (.ref a), some (.ref b), z]) ⟨rfl, _, rfl⟩ ?_ ?_⟩
            · rintro i σ H' hi ⟨rfl, z, rfl⟩
              have hi' : i < ds.length := by omega
              have e0 : (0 : Int) + (i : Int) = (i : Int) := Int.zero_add _
              have g1 : xs[i]? = some xs[i] := List.getElem?_eq_getElem (by omega)
              have g2 : ys[i]? = some ys[i] := List.getElem?_eq_getElem (by omega)
              have g3 : ds[i]? = some ds[i] := List.getElem?_eq_getElem hi'
              rw [e0]
              refine ⟨_, rfl, _, rfl, .inl ⟨_, _, _, _, rfl, rfl, SqL.of hx, atI_nat g1, _, rfl, _, rfl, .inl ⟨_, _, _, _, rfl, rfl, SqL.of hy, atI_nat g2, ?_⟩⟩⟩
              exact ⟨_, _, ds[i], rfl, rx i _ _ g1 g3, ry i _ _ g2 g3, hall _ (List.getElem_mem hi'), _, rfl, rfl, _, rfl⟩
            · rintro σ H' ⟨rfl, z, rfl⟩
              exact q
theorem ok_law_same (D : Dfd K mg "_law_same" s_law_same ["actual", "due"]) (T : TxtS mg) (n : Nat) : Has P w K mg base n "_law_same" ["actual", "due"] (spSame n) := by
  obtain ⟨f, fd, F, g, b⟩ := D
  exact ⟨f, fd, fn_law_same F g b T n, g, F.kp, b⟩
end
/-! ## data made of flat lists -/
theorem rep_map {H : Hp} {α : Type} {f : α → V} {g : α → D} {l : List α} (h : ∀ x, Rep H (f x) (g x)) : (l.map f).length = (l.map g).length ∧ ∀ (i : Nat) (x : V) (d : D), (l.map f)[i]? = some x → (l.map g)[i]? = some d → Rep H x d := by
  refine ⟨by rw [List.length_map, List.length_map], fun i x d hx hd => ?_⟩
  rw [List.getElem?_map] at hx hd
  cases e : l[i]? with
  | none => rw [e] at hx; cases hx
  | some y =>
    rw [e] at hx hd
    have e1 : f y = x := Option.some.inj hx
    have e2 : g y = d := Option.some.inj hd
    rw [← e1, ← e2]
    exact h y
theorem rep_ints {H : Hp} {a : Addr} {l : List Int} (h : H a = some (.lst (l.map V.int))) : Rep H (.ref a) (.lst (l.map D.int)) :=
  let r := rep_map (H := H) (f := V.int) (g := D.int) (l := l) fun i => .int i
  .lst h r.1 r.2
theorem rep_bls {H : Hp} {a : Addr} {l : List Bool} (h : H a = some (.tup (l.map V.bl))) : Rep H (.ref a) (.tup (l.map D.bl)) :=
  let r := rep_map (H := H) (f := V.bl) (g := D.bl) (l := l) fun i => .bl i
  .tup h r.1 r.2
theorem okD_ints {l : List Int} (h : l.length < 2 ^ 61) : okD 1 (.lst (l.map D.int)) := ⟨by rw [List.length_map]; exact h, fun d hd => by obtain ⟨_, _, rfl⟩ := List.mem_map.mp hd; trivial⟩
end G
namespace G
open PySem PySem.Spec PyProof.Rows L2 Evl
def bitsOf (x m : Nat) : List Bool := (List.range m).map fun k => x.testBit k
theorem bitsOf_len (x m : Nat) : (bitsOf x m).length = m := by unfold bitsOf; rw [List.length_map, List.length_range]
theorem bitsOf_succ (x m : Nat) : bitsOf x (m + 1) = bitsOf x m ++ [x.testBit m] := by unfold bitsOf; rw [List.range_succ, List.map_append]; rfl
theorem bit_at (x i : Nat) : decide (V.int (((x / 2 ^ i : Nat) : Int) % 2) = V.int 1) = x.testBit i := by
  rw [Nat.testBit_eq_decide_div_mod_eq, Bool.eq_iff_iff, decide_eq_true_iff, decide_eq_true_iff, V.int.injEq]
  omega
theorem half_at (x i : Nat) : ((x / 2 ^ i : Nat) : Int) / 2 = ((x / 2 ^ (i + 1) : Nat) : Int) := by
  rw [Nat.pow_succ, ← Nat.div_div_eq_div_mul]
  omega
section
variable {P : Program} {w : World} {K : PySem.W.Frag} {mg : Str → Option Value} {base : Heap}
def spBits : Sp := fun vs H Q _ => ∃ (x m : Nat), vs = [.int x, .int m] ∧ m ≤ 1000 ∧ ∀ (t : Addr) (H' : Hp), H t = none → Ex H H' → H' t = some (.tup ((bitsOf x m).map V.bl)) → Q (.ref t) H'
theorem sc_law_bits : FnScope ["index", "many", "out", "k"] ["index", "many"] (defScope s_law_bits) := ⟨rfl, rfl, rfl, by decide +kernel, rfl, by decide +kernel, by decide +kernel⟩
theorem ok_law_bits (D : Dfd K mg "_law_bits" s_law_bits ["index", "many"]) (T : TxtS mg) : Has P w K mg base 1 "_law_bits" ["index", "many"] spBits := by
  refine D.has fun f fd F => F.ok sc_law_bits (fun vs H Q E h => ?_) (fun cdv A outer s H vs Q E hr h => ?_)
  · obtain ⟨c, _, rfl, _⟩ := h
    rfl
  · obtain ⟨x, m, rfl, hm, q⟩ := h
    refine ⟨_, (pss_cons (ps_set (i := 2) sc_law_bits.nd rfl (.inl rfl) (pe_lst pa_nil))
    (pss_cons (ps_for PassesOwn.never rfl (pi_range1 rfl T.range (pa_cons (pv 1) pa_nil)) (pg_name (i := 3) sc_law_bits.nd rfl (.inl rfl))
      (pss_cons (ps_expr (pe_bm PySem.F.plainAttrs_list PySem.F.slot_list_append PySem.F.type_list_append mt_append (pv 2) (pa_cons (pe_cmpR op_eq (pe_op op_mod (pe_callTy call_int1 (by rfl) T.int (by decide +kernel) (pa_cons (pv 0) pa_nil)) pe_int) pe_int (nomark _)) pa_nil)))
      (pss_one (ps_set (i := 0) sc_law_bits.nd rfl (.inl rfl) (pe_op op_fdiv (pv 0) pe_int)))))
    (pss_one (ps_ret (pe_callTy call_tuple_of (by rfl) T.tuple (by decide +kernel) (pa_cons (pv 2) pa_nil)))))), ?_⟩
    refine ⟨Nat.zero_le _, fun o no => ⟨_, rfl, _, rfl, by omega, by omega, for_range (n := ((m : Int)).toNat) (fun i σ H' => H' = upd H o (.lst ((bitsOf x i).map V.bl)) ∧ ∃ z : Option V, σ = [some (.int ((x / 2 ^ i : Nat) : Int)), some (.int m), some (.ref o), z]) ⟨rfl, _, by rw [Nat.pow_zero, Nat.div_one]; rfl⟩ ?_ ?_⟩⟩
    · rintro i σ H' hi ⟨rfl, z, rfl⟩
      refine ⟨_, rfl, .inl ⟨rfl, _, SqL.of upd_same⟩, _, rfl, .inl ⟨_, rfl, _, _, rfl, rfl, (by show (0 : Int) < 2; decide), rfl, o, _, _, rfl, rfl, upd_same, ?_, _, rfl, _, _, rfl, rfl, ⟨by decide, by decide⟩, ?_, some (.int (0 + (i : Int))), ?_⟩⟩
      · exact sz_lt (by rw [List.length_map, bitsOf_len]; omega)
      · rw [upd_upd, bit_at, bitsOf_succ, List.map_append]; rfl
      · rw [← half_at]; rfl
    · rintro σ H' ⟨rfl, z, rfl⟩
      refine ⟨_, rfl, _, _, rfl, .inl ⟨SqL.of upd_same, fun t nt => ?_⟩⟩
      have e1 : Ex H (upd H o (.lst ((bitsOf x ((m : Int)).toNat).map V.bl))) := Ex.new no
      exact q t _ (fresh_back e1 nt) (e1.trans (Ex.new nt)) upd_same
end
end G
namespace G
open PySem PySem.Spec PyProof.Rows L2 Evl
theorem pow7 : ∀ {m : Nat}, m ≤ 6 → ([.int 1, .int 2, .int 4, .int 8, .int 16, .int 32, .int 64] : List V)[m]? = some (.int ((2 ^ m : Nat) : Int))
  | 0, _ => rfl | 1, _ => rfl | 2, _ => rfl | 3, _ => rfl | 4, _ => rfl | 5, _ => rfl | 6, _ => rfl
  | n + 7, h => by omega
theorem pow6 : ∀ {m : Nat}, m ≤ 5 → ([.int 1, .int 2, .int 4, .int 8, .int 16, .int 32] : List V)[m]? = some (.int ((2 ^ m : Nat) : Int))
  | 0, _ => rfl | 1, _ => rfl | 2, _ => rfl | 3, _ => rfl | 4, _ => rfl | 5, _ => rfl
  | n + 6, h => by omega
theorem pow_le64 {m : Nat} (h : m ≤ 6) : 2 ^ m ≤ 64 := Nat.le_trans (Nat.pow_le_pow_right (by decide) h) (by decide)
theorem pow_pos2 (m : Nat) : 0 < 2 ^ m := Nat.pow_pos (by decide)
theorem divW_small {i : Int} {j : Nat} (h : 0 < j) (h9 : j ≤ 1000) : CDivW i (j : Int) := wide_div (b := 20) (by omega) (by
  rw [Int.natAbs_natCast]
  exact Nat.lt_of_le_of_lt h9 (by decide)) (by decide) (by decide)
section
variable {P : Program} {w : World} {K : PySem.W.Frag} {mg : Str → Option Value} {base : Heap}
/-- a table of m inputs -/
def spTable : Sp := fun vs H Q _ => ∃ (p a : Addr) (m : Nat), vs = [.ref p, .int m] ∧ m ≤ 6 ∧ PoolOk p a H ∧ ∀ (t : Addr) (bs : List Bool) (H' : Hp), bs.length = 2 ^ m → Px p a H H' → H t = none → H' t = some (.tup (bs.map V.bl)) → Q (.ref t) H'
theorem sc_law_table : FnScope ["pool", "many", "size", "kind", "value", "low", "place", "number", "bit", "k"] ["pool", "many"] (defScope s_law_table) := ⟨rfl, rfl, rfl, by decide +kernel, rfl, by decide +kernel, by decide +kernel⟩
theorem ok_law_table (D : Dfd K mg "_law_table" s_law_table ["pool", "many"]) (T : TxtS mg) (C : Has P w K mg base 2 "_law_draw" ["pool", "many"] spDrawX) (C2 : Has P w K mg base 1 "_law_bits" ["index", "many"] spBits) : Has P w K mg base 3 "_law_table" ["pool", "many"] spTable := by
  obtain ⟨f_law_draw, d_law_draw, G_law_draw, g_law_draw, k_law_draw, b_law_draw⟩ := C
  obtain ⟨f_law_bits, d_law_bits, G_law_bits, g_law_bits, k_law_bits, b_law_bits⟩ := C2
  refine D.has fun f fd F => F.ok sc_law_table (fun vs H Q E h => ?_) (fun cdv A outer s H vs Q E hr h => ?_)
  · obtain ⟨c, _, _, rfl, _⟩ := h
    rfl
  · obtain ⟨p, a, m, rfl, hm, hp, q⟩ := h
    have h64 := pow_le64 hm
    have hpos := pow_pos2 m
    refine ⟨_, (pss_cons (ps_set (i := 2) sc_law_table.nd rfl (.inl rfl) (pe_ix ix_list (pe_lst (pa_cons pe_int (pa_cons pe_int (pa_cons pe_int (pa_cons pe_int (pa_cons pe_int (pa_cons pe_int (pa_cons pe_int pa_nil)))))))) (pv 1) (fun _ _ => rfl)))
    (pss_cons (ps_set (i := 3) sc_law_table.nd rfl (.inl rfl) (pe_call G_law_draw hr (by rfl) g_law_draw k_law_draw b_law_draw .nil pass0 (pa_cons (pv 0) (pa_cons pe_int pa_nil))))
    (pss_cons (ps_if (pt_cmpR op_eq (pv 3) pe_int (nomark _))
      (pss_cons (ps_set (i := 4) sc_law_table.nd rfl (.inr rfl) (pe_cmpR op_eq (pe_call G_law_draw hr (by rfl) g_law_draw k_law_draw b_law_draw .nil pass0 (pa_cons (pv 0) (pa_cons pe_int pa_nil))) pe_int (nomark _)))
      (pss_one (ps_ret (pe_callTy call_tuple_of (by rfl) T.tuple (by decide +kernel) (pa_cons (pe_lc (own := [("k", 9)]) (g := gName 9) (tt := tYes) rfl sc_law_table.nd (pi_range1 rfl T.range (pa_cons (pv 2) pa_nil)) (blkOk_by (N := ["pool", "many", "size", "kind", "value", "low", "place", "number", "bit", "k"]) (sc := defScope s_law_table) (own := [("k", 9)]) (by decide +kernel)) (fun _ _ _ _ _ => (pg_name (i := 9) sc_law_table.nd rfl (.inl rfl))) (fun _ _ _ _ _ => pts_nil) (fun _ _ _ _ _ => (pv 4))) pa_nil)))))
      pss_nil)
    (pss_cut (ps_if (PW.pt (pw_and (pt_cmpR op_eq (pv 3) pe_int (nomark _)) (pw_and1 (pt_cmpR op_gt (pv 1) pe_int (nomark _)))))
      (pss_cons (ps_set (i := 5) sc_law_table.nd rfl (.inr rfl) (pe_ix ix_list (pe_lst (pa_cons pe_int (pa_cons pe_int (pa_cons pe_int (pa_cons pe_int (pa_cons pe_int (pa_cons pe_int pa_nil))))))) (pe_call G_law_draw hr (by rfl) g_law_draw k_law_draw b_law_draw .nil pass0 (pa_cons (pv 0) (pa_cons (pv 1) pa_nil))) (fun _ _ => rfl)))
      (pss_one (ps_ret (pe_callTy call_tuple_of (by rfl) T.tuple (by decide +kernel) (pa_cons (pe_lc (own := [("k", 9)]) (g := gName 9) (tt := tYes) rfl sc_law_table.nd (pi_range1 rfl T.range (pa_cons (pv 2) pa_nil)) (blkOk_by (N := ["pool", "many", "size", "kind", "value", "low", "place", "number", "bit", "k"]) (sc := defScope s_law_table) (own := [("k", 9)]) (by decide +kernel)) (fun _ _ _ _ _ => (pg_name (i := 9) sc_law_table.nd rfl (.inl rfl))) (fun _ _ _ _ _ => pts_nil) (fun _ _ _ _ _ => (pe_cmpR op_eq (pe_op op_mod (pe_callTy call_int1 (by rfl) T.int (by decide +kernel) (pa_cons (pe_op op_fdivW (pv 9) (pv 5)) pa_nil)) pe_int) pe_int (nomark _)))) pa_nil)))))
      pss_nil)
    (pss_cons (ps_if (pt_cmpR op_eq (pv 3) pe_int (nomark _))
      (pss_cons (ps_set (i := 6) sc_law_table.nd rfl (.inr rfl) (pe_call G_law_draw hr (by rfl) g_law_draw k_law_draw b_law_draw .nil pass0 (pa_cons (pv 0) (pa_cons (pv 2) pa_nil))))
      (pss_one (ps_ret (pe_callTy call_tuple_of (by rfl) T.tuple (by decide +kernel) (pa_cons (pe_lc (own := [("k", 9)]) (g := gName 9) (tt := tYes) rfl sc_law_table.nd (pi_range1 rfl T.range (pa_cons (pv 2) pa_nil)) (blkOk_by (N := ["pool", "many", "size", "kind", "value", "low", "place", "number", "bit", "k"]) (sc := defScope s_law_table) (own := [("k", 9)]) (by decide +kernel)) (fun _ _ _ _ _ => (pg_name (i := 9) sc_law_table.nd rfl (.inl rfl))) (fun _ _ _ _ _ => pts_nil) (fun _ _ _ _ _ => (pe_cmpR op_eq (pv 9) (pv 6) (nomark _)))) pa_nil)))))
      pss_nil)
    (pss_cons (ps_set (i := 7) sc_law_table.nd rfl (.inl rfl) (pe_call G_law_draw hr (by rfl) g_law_draw k_law_draw b_law_draw .nil pass0 (pa_cons (pv 0) (pa_cons (pe_op op_pow pe_int pe_int) pa_nil))))
    (pss_one (ps_ret (pe_callTy call_tuple_of (by rfl) T.tuple (by decide +kernel) (pa_cons (pe_lc (own := [("bit", 8)]) (g := gName 8) (tt := tYes) rfl sc_law_table.nd (pi_tup (pe_call G_law_bits (hr.mono (by decide)) (by rfl) g_law_bits k_law_bits b_law_bits .nil pass0 (pa_cons (pv 7) (pa_cons (pv 2) pa_nil)))) (blkOk_by (N := ["pool", "many", "size", "kind", "value", "low", "place", "number", "bit", "k"]) (sc := defScope s_law_table) (own := [("bit", 8)]) (by decide +kernel)) (fun _ _ _ _ _ => (pg_name (i := 8) sc_law_table.nd rfl (.inl rfl))) (fun _ _ _ _ _ => pts_nil) (fun _ _ _ _ _ => (pv 8))) pa_nil)))))))))), ?_⟩
    refine ⟨(by show 7 ≤ sizeLine; decide), fun l nl => ⟨_, rfl, _, _, _, _, rfl, rfl, SqL.of upd_same, atI_nat (pow7 hm), ?_⟩⟩
    have X1 : Px p a H (upd H l (.lst [.int 1, .int 2, .int 4, .int 8, .int 16, .int 32, .int 64])) := (Px.refl hp).new nl
    refine ⟨_, rfl, p, a, 6, rfl, by decide, by decide, X1.pool, fun kind H2 hk X2 _ => ?_⟩
    have Y2 := X1.trans X2
    refine ⟨_, rfl, rfl, _, rfl, ite2 (fun e => ?_) (fun e => ?_)⟩
    · refine ⟨_, rfl, p, a, 2, rfl, by decide, by decide, Y2.pool, fun v H3 hv X3 _ => ⟨rfl, ?_⟩⟩
      have Y3 := Y2.trans X3
      refine ⟨_, rfl, _, rfl, by omega, by omega, fun L nL => lcRv (fun _ => .bl (decide (V.int v = V.int 1))) (by omega) (fun _ => rfl) (fun i H4 _ _ Q q => ⟨_, rfl, q⟩) ⟨_, _, rfl, .inl ⟨SqL.of upd_same, fun t nt => ?_⟩⟩⟩
      exact q t ((List.range ((2 ^ m : Nat) : Int).toNat).map fun _ => decide (V.int v = V.int 1)) _ (by rw [List.length_map, List.length_range]; omega) ((Y3.new nL).new nt) ((Y3.new nL).free nt) (by rw [upd_same, List.map_map]; rfl)
    · refine ⟨fun σ H' => σ = [some (.ref p), some (.int m), some (.int ((2 ^ m : Nat) : Int)), some (.int kind), none, none, none, none, none, none] ∧ H' = H2, ?_, ?_⟩
      · refine ⟨_, rfl, rfl, _, rfl, ite2 (fun e1 => ?_) (fun e1 => iteF ⟨rfl, rfl⟩)⟩
        refine ⟨_, rfl, _, _, rfl, rfl, _, rfl, ite2 (fun e2 => ?_) (fun e2 => ⟨rfl, rfl⟩)⟩
        have hm0 : 0 < m := by have := of_decide_eq_true e2; omega
        refine ⟨(by show 6 ≤ sizeLine; decide), fun l2 nl2 => ⟨_, rfl, _, rfl, p, a, m, rfl, by omega, by omega, (Y2.new nl2).pool, fun v H3 hv X3 hk3 => ?_⟩⟩
        have Y3 := (Y2.new nl2).trans X3
        have h2 : H3 l2 = some (.lst [.int 1, .int 2, .int 4, .int 8, .int 16, .int 32]) := by rw [hk3 _ (Y2.pool.ne nl2)]; exact upd_same
        refine ⟨_, _, _, _, rfl, rfl, SqL.of h2, atI_nat (pow6 (by omega)), ?_⟩
        refine ⟨_, rfl, _, rfl, by omega, by omega, fun L nL => lcRv (fun (i : Nat) => .bl (decide (V.int ((0 + (i : Int)) / ((2 ^ v : Nat) : Int) % 2) = V.int 1))) (by omega) (fun _ => rfl) (fun i H4 _ _ Q q => ⟨_, rfl, _, rfl, _, _, rfl, rfl, divW_small (pow_pos2 v) (Nat.le_trans (pow_le64 (by omega)) (by decide)), .inl ⟨_, rfl, _, _, rfl, rfl, (by show (0 : Int) < 2; decide), rfl, q⟩⟩) ⟨_, _, rfl, .inl ⟨SqL.of upd_same, fun t nt => ?_⟩⟩⟩
        exact q t ((List.range ((2 ^ m : Nat) : Int).toNat).map fun (i : Nat) => decide (V.int ((0 + (i : Int)) / ((2 ^ v : Nat) : Int) % 2) = V.int 1)) _ (by rw [List.length_map, List.length_range]; omega) ((Y3.new nL).new nt) ((Y3.new nL).free nt) (by rw [upd_same, List.map_map]; rfl)
      · rintro σ H' ⟨rfl, rfl⟩
        refine ⟨_, rfl, rfl, _, rfl, ite2 (fun e1 => ?_) (fun e1 => ?_)⟩
        · refine ⟨_, rfl, _, rfl, p, a, ((2 ^ m : Nat) : Int), rfl, by omega, by omega, Y2.pool, fun v H3 hv X3 _ => ?_⟩
          have Y3 := Y2.trans X3
          refine ⟨_, rfl, _, rfl, by omega, by omega, fun L nL => lcRv (fun (i : Nat) => .bl (decide (V.int (0 + (i : Int)) = V.int v))) (by omega) (fun _ => rfl) (fun i H4 _ _ Q q => ⟨_, rfl, _, rfl, rfl, q⟩) ⟨_, _, rfl, .inl ⟨SqL.of upd_same, fun t nt => ?_⟩⟩⟩
          exact q t ((List.range ((2 ^ m : Nat) : Int).toNat).map fun (i : Nat) => decide (V.int (0 + (i : Int)) = V.int v)) _ (by rw [List.length_map, List.length_range]; omega) ((Y3.new nL).new nt) ((Y3.new nL).free nt) (by rw [upd_same, List.map_map]; rfl)
        · refine ⟨_, rfl, _, _, rfl, rfl, ⟨by decide, by decide, by decide⟩, p, a, _, rfl, by decide, by decide, Y2.pool, fun v H3 hv X3 _ => ?_⟩
          have Y3 := Y2.trans X3
          refine ⟨_, rfl, _, rfl, v, 2 ^ m, rfl, by omega, fun t1 H4 n1 E1 h1 => ⟨t1, rfl, ⟨_, SqT.of h1⟩, fun L nL => lcTm (xs := (bitsOf v (2 ^ m)).map V.bl) id (SqT.of h1) nL (by rw [List.length_map, bitsOf_len]; omega) (fun _ => rfl) (fun i x H4 _ _ Q q => ⟨_, rfl, q⟩) ⟨_, _, rfl, .inl ⟨SqL.of upd_same, fun t nt => ?_⟩⟩⟩⟩
          have Y4 := Y3.more E1
          exact q t (bitsOf v (2 ^ m)) _ (bitsOf_len _ _) ((Y4.new nL).new nt) ((Y4.new nL).free nt) (by rw [upd_same, List.map_id])
end
end G
namespace G
open PySem PySem.Spec PyProof.Rows L2 Evl
/-! ## tuples never change -/
def TEx (H H' : Hp) : Prop := ∀ (b : Addr) (xs : List V), H b = some (.tup xs) → H' b = some (.tup xs)
theorem TEx.refl (H : Hp) : TEx H H := fun _ _ h => h
theorem TEx.trans {H H1 H2 : Hp} (a : TEx H H1) (b : TEx H1 H2) : TEx H H2 := fun c xs h => b c xs (a c xs h)
theorem TEx.of {H H' : Hp} (e : Ex H H') : TEx H H' := fun b xs h => e b _ h
theorem TEx.px {p a : Addr} {H H' : Hp} (x : Px p a H H') : TEx H H' := fun b xs h => by
  obtain ⟨_, _, _, _, _, e, _⟩ := x.was
  exact x.at_ (b := b) (o := .tup xs) (by rw [hid_ne (ne_of h e (by intro z; cases z))]; exact h)
theorem TEx.new {H : Hp} {b : Addr} {o : HO} (n : H b = none) : TEx H (upd H b o) := .of (Ex.new n)
theorem TEx.mut {H : Hp} {b : Addr} {l : List V} {o : HO} (h : H b = some (.lst l)) : TEx H (upd H b o) := fun c xs hc => by
  rw [upd_ne (ne_of hc h (by intro z; cases z))]; exact hc
/-! ## circuits -/
structure GateD where
  name : Str
  tab : List Bool
  pins : List Str
  rng : List (Int × Int)
structure RegD where
  name : Str
  net : Str
  edge : Int × Int
  out : Int × Int
  setup : Int
  hold : Int
  start : Bool
structure CircD where
  ins : List Str
  gates : List GateD
  regs : List RegD
  outs : List (Str × Str)
def IntsAt (H : Hp) (a : Addr) (p : Int × Int) : Prop := H a = some (.tup [.int p.1, .int p.2])
def GateAt (H : Hp) (a : Addr) (g : GateD) : Prop := ∃ (t pt rt : Addr) (ra : List Addr), H a = some (.tup [.str g.name, .ref t, .ref pt, .ref rt]) ∧ H t = some (.tup (g.tab.map V.bl)) ∧ H pt = some (.tup (g.pins.map V.str)) ∧ H rt = some (.tup (ra.map V.ref)) ∧ All2 (IntsAt H) ra g.rng
def RegAt (H : Hp) (a : Addr) (r : RegD) : Prop := ∃ ea oa : Addr, H a = some (.tup [.str r.name, .str r.net, .ref ea, .ref oa, .int r.setup, .int r.hold, .bl r.start]) ∧ IntsAt H ea r.edge ∧ IntsAt H oa r.out
def OutAt (H : Hp) (a : Addr) (o : Str × Str) : Prop := H a = some (.tup [.str o.1, .str o.2])
structure CircAt (H : Hp) (c : Addr) (d : CircD) (it gt rt ot : Addr) (ga ra oa : List Addr) : Prop where
  top : H c = some (.tup [.ref it, .ref gt, .ref rt, .ref ot])
  ins : H it = some (.tup (d.ins.map V.str))
  gts : H gt = some (.tup (ga.map V.ref))
  rgs : H rt = some (.tup (ra.map V.ref))
  ots : H ot = some (.tup (oa.map V.ref))
  gates : All2 (GateAt H) ga d.gates
  regs : All2 (RegAt H) ra d.regs
  outs : All2 (OutAt H) oa d.outs
section
variable {H H' : Hp} {a c it gt rt ot : Addr} {g : GateD} {r : RegD} {d : CircD} {ga ra oa : List Addr}
theorem IntsAt.te {p : Int × Int} (e : TEx H H') (h : IntsAt H a p) : IntsAt H' a p := e _ _ h
theorem GateAt.te (e : TEx H H') (h : GateAt H a g) : GateAt H' a g := by
  obtain ⟨t, pt, rt, ra, h1, h2, h3, h4, h5⟩ := h
  exact ⟨t, pt, rt, ra, e _ _ h1, e _ _ h2, e _ _ h3, e _ _ h4, h5.imp fun _ _ z => z.te e⟩
theorem RegAt.te (e : TEx H H') (h : RegAt H a r) : RegAt H' a r := by
  obtain ⟨ea, oa, h1, h2, h3⟩ := h
  exact ⟨ea, oa, e _ _ h1, h2.te e, h3.te e⟩
theorem CircAt.te (e : TEx H H') (h : CircAt H c d it gt rt ot ga ra oa) : CircAt H' c d it gt rt ot ga ra oa :=
  ⟨e _ _ h.top, e _ _ h.ins, e _ _ h.gts, e _ _ h.rgs, e _ _ h.ots, h.gates.imp fun _ _ z => z.te e, h.regs.imp fun _ _ z => z.te e, h.outs.imp fun _ _ z => e _ _ z⟩
end
/-! ### the names that are given -/
def nm (c : Str) (k : Nat) : Str := c ++ Str.ofString (toString ((k : Nat) : Int))
structure RegWf (r : RegD) : Prop where
  e0 : 0 ≤ r.edge.1 ∧ r.edge.1 ≤ 2
  e1 : r.edge.1 ≤ r.edge.2 ∧ r.edge.2 ≤ r.edge.1 + 2
  o0 : 0 ≤ r.out.1 ∧ r.out.1 ≤ 3
  o1 : r.out.1 + 1 ≤ r.out.2 ∧ r.out.2 ≤ r.out.1 + 4
  su : 0 ≤ r.setup ∧ r.setup ≤ 3
  ho : 0 ≤ r.hold ∧ r.hold < r.out.2
structure GateWf (ns : List Str) (k : Nat) (g : GateD) : Prop where
  name : g.name = nm "g" k
  few : g.pins.length ≤ 3
  pins : ∀ x ∈ g.pins, x ∈ ns
  tab : g.tab.length = 2 ^ g.pins.length
  many : g.rng.length = g.pins.length
  rng : ∀ r ∈ g.rng, 0 ≤ r.1 ∧ r.1 ≤ 4 ∧ r.1 + 2 ≤ r.2 ∧ r.2 ≤ r.1 + 6
/-- the gates in the order of their making: each reads what stood before it -/
structure CircWf (most : Nat) (d : CircD) (G : List GateD) : Prop where
  ins : ∃ n, 1 ≤ n ∧ n ≤ 3 ∧ d.ins = (List.range n).map (nm "i")
  regs : ∃ n, n ≤ 3 ∧ d.regs.map (·.name) = (List.range n).map (nm "r")
  few : G.length ≤ most
  gates : ∀ k g, G[k]? = some g → GateWf (d.ins ++ d.regs.map (·.name) ++ (List.range k).map (nm "g")) k g
  perm : d.gates.Perm G
  rwf : ∀ r ∈ d.regs, RegWf r ∧ r.net ∈ d.ins ++ d.regs.map (·.name) ++ (List.range G.length).map (nm "g")
  outs : ∃ n, n ≤ 3 ∧ d.outs.map (·.1) = (List.range n).map (nm "p")
  onet : ∀ o ∈ d.outs, o.2 ∈ d.ins ++ d.regs.map (·.name) ++ (List.range G.length).map (nm "g")
section
variable {P : Program} {w : World} {K : PySem.W.Frag} {mg : Str → Option Value} {base : Heap}
def spReg : Sp := fun vs H Q _ => ∃ (p a : Addr) (n net : Str), vs = [.ref p, .str n, .str net] ∧ PoolOk p a H ∧ ∀ (x : Addr) (r : RegD) (H' : Hp), Px p a H H' → H x = none → RegAt H' x r → r.name = n → r.net = net → RegWf r → Q (.ref x) H'
theorem sc_law_register : FnScope ["pool", "name", "net", "edge", "out", "high", "wide"] ["pool", "name", "net"] (defScope s_law_register) := ⟨rfl, rfl, rfl, by decide +kernel, rfl, by decide +kernel, by decide +kernel⟩
theorem ok_law_register (D : Dfd K mg "_law_register" s_law_register ["pool", "name", "net"]) (C : Has P w K mg base 2 "_law_draw" ["pool", "many"] spDrawX) : Has P w K mg base 3 "_law_register" ["pool", "name", "net"] spReg := by
  obtain ⟨f_law_draw, d_law_draw, G_law_draw, g_law_draw, k_law_draw, b_law_draw⟩ := C
  refine D.has fun f fd F => F.ok sc_law_register (fun vs H Q E h => ?_) (fun cdv A outer s H vs Q E hr h => ?_)
  · obtain ⟨p, a, n, net, rfl, _⟩ := h
    rfl
  · obtain ⟨p, a, n, net, rfl, hp, q⟩ := h
    refine ⟨_, (pss_cons (ps_set (i := 3) sc_law_register.nd rfl (.inl rfl) (pe_call G_law_draw (hr.mono (by omega)) (by rfl) g_law_draw k_law_draw b_law_draw .nil pass0 (pa_cons (pv 0) (pa_cons pe_int pa_nil))))
    (pss_cons (ps_set (i := 4) sc_law_register.nd rfl (.inl rfl) (pe_call G_law_draw (hr.mono (by omega)) (by rfl) g_law_draw k_law_draw b_law_draw .nil pass0 (pa_cons (pv 0) (pa_cons pe_int pa_nil))))
    (pss_cons (ps_set (i := 5) sc_law_register.nd rfl (.inl rfl) (pe_op op_add (pe_op op_add (pv 4) pe_int) (pe_call G_law_draw (hr.mono (by omega)) (by rfl) g_law_draw k_law_draw b_law_draw .nil pass0 (pa_cons (pv 0) (pa_cons pe_int pa_nil)))))
    (pss_cons (ps_set (i := 6) sc_law_register.nd rfl (.inl rfl) (pe_op op_add (pv 3) (pe_call G_law_draw (hr.mono (by omega)) (by rfl) g_law_draw k_law_draw b_law_draw .nil pass0 (pa_cons (pv 0) (pa_cons pe_int pa_nil)))))
    (pss_one (ps_ret (pe_tup (pa_cons (pv 1) (pa_cons (pv 2) (pa_cons (pe_tup (pa_cons (pv 3) (pa_cons (pv 6) pa_nil))) (pa_cons (pe_tup (pa_cons (pv 4) (pa_cons (pv 5) pa_nil))) (pa_cons (pe_call G_law_draw (hr.mono (by omega)) (by rfl) g_law_draw k_law_draw b_law_draw .nil pass0 (pa_cons (pv 0) (pa_cons pe_int pa_nil))) (pa_cons (pe_call G_law_draw (hr.mono (by omega)) (by rfl) g_law_draw k_law_draw b_law_draw .nil pass0 (pa_cons (pv 0) (pa_cons (pv 5) pa_nil))) (pa_cons (pe_cmpR op_eq (pe_call G_law_draw (hr.mono (by omega)) (by rfl) g_law_draw k_law_draw b_law_draw .nil pass0 (pa_cons (pv 0) (pa_cons pe_int pa_nil))) pe_int (nomark _)) pa_nil)))))))))))))), ?_⟩
    refine ⟨_, rfl, p, a, 3, rfl, by decide, by decide, hp, fun v1 H1 h1 X1 _ => ?_⟩
    refine ⟨_, rfl, p, a, 4, rfl, by decide, by decide, X1.pool, fun v2 H2 h2 X2 _ => ?_⟩
    refine ⟨_, rfl, _, _, rfl, rfl, _, rfl, p, a, 4, rfl, by decide, by decide, X2.pool, fun v3 H3 h3 X3 _ => ⟨_, _, rfl, rfl, ?_⟩⟩
    refine ⟨_, rfl, _, rfl, p, a, 3, rfl, by decide, by decide, X3.pool, fun v4 H4 h4 X4 _ => ⟨_, _, rfl, rfl, ?_⟩⟩
    have Y4 := X1.trans (X2.trans (X3.trans X4))
    refine ⟨_, rfl, _, rfl, _, rfl, _, rfl, (by show 2 ≤ sizeLine; decide), fun e1 n1 => ⟨_, rfl, _, rfl, (by show 2 ≤ sizeLine; decide), fun e2 n2 => ?_⟩⟩
    have Y5 := (Y4.new (o := .tup [.int v1, .int ((v1 : Int) + v4)]) n1).new (o := .tup [.int v2, .int ((v2 : Int) + 1 + v3)]) n2
    have t1 : upd (upd H4 e1 (.tup [.int v1, .int ((v1 : Int) + v4)])) e2 (.tup [.int v2, .int ((v2 : Int) + 1 + v3)]) e1 = some (.tup [.int v1, .int ((v1 : Int) + v4)]) := by rw [upd_ne (ne_of_none upd_same n2)]; exact upd_same
    have t2 : upd (upd H4 e1 (.tup [.int v1, .int ((v1 : Int) + v4)])) e2 (.tup [.int v2, .int ((v2 : Int) + 1 + v3)]) e2 = some (.tup [.int v2, .int ((v2 : Int) + 1 + v3)]) := upd_same
    generalize upd (upd H4 e1 (.tup [.int v1, .int ((v1 : Int) + v4)])) e2 (.tup [.int v2, .int ((v2 : Int) + 1 + v3)]) = H5 at *
    refine ⟨_, rfl, p, a, 4, rfl, by decide, by decide, Y5.pool, fun v5 H6 h5 X6 _ => ?_⟩
    refine ⟨_, rfl, _, rfl, p, a, (v2 : Int) + 1 + v3, rfl, by omega, by omega, X6.pool, fun v6 H7 h6 X7 _ => ?_⟩
    refine ⟨_, rfl, p, a, 2, rfl, by decide, by decide, X7.pool, fun v7 H8 h7 X8 _ => ⟨rfl, (by show 7 ≤ sizeLine; decide), fun x nx => ?_⟩⟩
    have Y8 := X6.trans (X7.trans X8)
    have T8 := (TEx.px Y8).trans (TEx.new (o := .tup [.str n, .str net, .ref e1, .ref e2, .int v5, .int v6, .bl (decide (V.int v7 = V.int 1))]) nx)
    exact q x ⟨n, net, (v1, (v1 : Int) + v4), (v2, (v2 : Int) + 1 + v3), v5, v6, decide (V.int v7 = V.int 1)⟩ _ ((Y5.trans Y8).new nx) ((Y5.trans Y8).free nx) ⟨e1, e2, upd_same, T8 _ _ t1, T8 _ _ t2⟩ rfl rfl
      ⟨by constructor <;> simp <;> omega, by constructor <;> simp <;> omega, by constructor <;> simp <;> omega, by constructor <;> simp <;> omega, by constructor <;> simp <;> omega, by constructor <;> simp <;> omega⟩
theorem nm_small : ∀ c ∈ (["i", "r", "g", "p"] : List Str), ∀ k, k < 20 → c.length + (Str.ofString (toString ((k : Nat) : Int))).length ≤ 1000 ∧ ((k : Nat) : Int).natAbs.log2 < 1920 := by decide +kernel
/-- 'x' + str(k), read -/
theorem nm_read {c : Str} {k : Nat} (hc : c ∈ (["i", "r", "g", "p"] : List Str)) (hk : k < 20) : ((k : Nat) : Int).natAbs.log2 < 1920 ∧ c.length + (Str.ofString (toString ((k : Nat) : Int))).length ≤ sizeLine :=
  ⟨(nm_small c hc k hk).2, sz_of (Nat.le_trans (nm_small c hc k hk).1 (by decide))⟩
theorem keep1 {p M x : Addr} {H : Hp} {o o' : HO} (e : hid p H x = some o) (hx : x ≠ M) (hM : M ≠ p) : hid p (upd H M o') x = some o := by
  rw [hid_upd_ne hM, upd_ne hx]; exact e
theorem hid_new {p M : Addr} {H : Hp} {o : HO} (hM : M ≠ p) : hid p (upd H M o) M = some o := by
  rw [hid_ne hM]; exact upd_same
theorem erase_perm {α : Type} : ∀ (l : List α) (v : Nat) (h : v < l.length), (l[v] :: l.eraseIdx v).Perm l
  | [], v, h => absurd h (Nat.not_lt_zero _)
  | a :: r, 0, _ => .refl _
  | a :: r, v + 1, h => by
    have h' : v < r.length := Nat.lt_of_succ_lt_succ h
    have ih := erase_perm r v h'
    show (r[v] :: a :: r.eraseIdx v).Perm (a :: r)
    exact (List.Perm.swap ..).trans (ih.cons a)
def spShuf : Sp := fun vs H Q _ => ∃ (p a l : Addr) (xs : List V), vs = [.ref p, .ref l] ∧ PoolOk p a H ∧ hid p H l = some (.lst xs) ∧ xs.length ≤ 200 ∧ ∀ (o : Addr) (ys : List V) (H' : Hp), Px p a H H' → H o = none → H' o = some (.lst ys) → ys.Perm xs → Q (.ref o) H'
theorem sc_law_shuffled : FnScope ["pool", "rows", "left", "out", "k"] ["pool", "rows"] (defScope s_law_shuffled) := ⟨rfl, rfl, rfl, by decide +kernel, rfl, by decide +kernel, by decide +kernel⟩
theorem ok_law_shuffled (D : Dfd K mg "_law_shuffled" s_law_shuffled ["pool", "rows"]) (T : TxtS mg) (C : Has P w K mg base 2 "_law_draw" ["pool", "many"] spDrawX) : Has P w K mg base 3 "_law_shuffled" ["pool", "rows"] spShuf := by
  obtain ⟨f_law_draw, d_law_draw, G_law_draw, g_law_draw, k_law_draw, b_law_draw⟩ := C
  refine D.has fun f fd F => F.ok sc_law_shuffled (fun vs H Q E h => ?_) (fun cdv A outer s H vs Q E hr h => ?_)
  · obtain ⟨p, a, l, xs, rfl, _⟩ := h
    rfl
  · obtain ⟨p, a, l, xs, rfl, hp, hl, hn, q⟩ := h
    refine ⟨_, (pss_cons (ps_set (i := 2) sc_law_shuffled.nd rfl (.inl rfl) (pe_callTy call_list_of (by rfl) T.list (by decide +kernel) (pa_cons (pv 1) pa_nil)))
    (pss_cons (ps_set (i := 3) sc_law_shuffled.nd rfl (.inl rfl) (pe_lst pa_nil))
    (pss_cons (ps_for PassesOwn.never rfl (pi_range1 rfl T.range (pa_cons (pe_callB call_len_seq (by rfl) T.len (by decide +kernel) (pa_cons (pv 1) pa_nil)) pa_nil)) (pg_name (i := 4) sc_law_shuffled.nd rfl (.inl rfl))
      (pss_one (ps_expr (pe_bm PySem.F.plainAttrs_list PySem.F.slot_list_append PySem.F.type_list_append mt_append (pv 3) (pa_cons (pe_bm PySem.F.plainAttrs_list PySem.F.slot_list_pop PySem.F.type_list_pop mt_popAt (pv 2) (pa_cons (pe_call G_law_draw (hr.mono (by omega)) (by rfl) g_law_draw k_law_draw b_law_draw .nil pass0 (pa_cons (pv 0) (pa_cons (pe_callB call_len_seq (by rfl) T.len (by decide +kernel) (pa_cons (pv 2) pa_nil)) pa_nil))) pa_nil)) pa_nil)))))
    (pss_one (ps_ret (pv 3)))))), ?_⟩
    refine ⟨_, rfl, _, _, rfl, .inl (SqL.of (hid_get hl)), fun lf nlf => ⟨Nat.zero_le _, fun o no => ?_⟩⟩
    have X0 := ((Px.refl hp).new (o := .lst xs) nlf).new (o := .lst []) no
    have plf := hp.ne nlf
    have nlo : lf ≠ o := ne_of_none upd_same no
    have nHo : H o = none := by
      have z := no
      rw [upd_ne nlo.symm] at z; exact z
    have po := hp.ne nHo
    have h1 : hid p (upd (upd H lf (.lst xs)) o (.lst [])) lf = some (.lst xs) := keep1 (hid_new plf) nlo po
    have h2 : hid p (upd (upd H lf (.lst xs)) o (.lst [])) o = some (.lst []) := hid_new po
    generalize upd (upd H lf (.lst xs)) o (.lst []) = H0 at *
    refine ⟨_, rfl, _, _, rfl, .inl (SqL.of (X0.at_ hl)), _, rfl, by omega, by omega, for_range (n := ((xs.length : Nat) : Int).toNat)
      (fun i σ H' => Px p a H H' ∧ ∃ (ls os : List V) (z : Option V), hid p H' lf = some (.lst ls) ∧ hid p H' o = some (.lst os) ∧ (os ++ ls).Perm xs ∧ os.length = i ∧ σ = [some (.ref p), some (.ref l), some (.ref lf), some (.ref o), z])
      ⟨X0, xs, [], _, h1, h2, .refl _, rfl, rfl⟩ ?_ ?_⟩
    · rintro i σ H1 hi ⟨X1, ls, os, z, hls, hos, hperm, hoi, rfl⟩
      rw [Int.toNat_natCast] at hi
      have hlen := hperm.length_eq
      rw [List.length_append] at hlen
      have hpos : 0 < ls.length := by omega
      refine ⟨_, rfl, .inl ⟨rfl, _, SqL.of (hid_get hos)⟩, _, rfl, .inl ⟨rfl, _, SqL.of (hid_get hls)⟩, _, rfl, _, rfl, _, _, rfl, .inl (SqL.of (hid_get hls)), p, a, ls.length, rfl, by omega, by omega, X1.pool, fun v H2 hv X2 _ => ?_⟩
      have hv' : v < ls.length := by omega
      have hls2 := X2.get hls
      have hos2 := X2.get hos
      refine ⟨lf, ls, (v : Int), v, ls[v], rfl, rfl, hid_get hls2, by omega, by omega, ?_, List.getElem?_eq_getElem hv', ?_⟩
      · have := PyProof.Rows.seqIndex_at (i := (v : Int)) (n := ls.length) (by omega) (by omega)
        rw [Int.toNat_natCast] at this
        exact this
      · have hos3 : hid p (upd H2 lf (.lst (ls.eraseIdx v))) o = some (.lst os) := keep1 hos2 nlo.symm plf
        have X3 := (X1.trans X2).mut (o := .lst (ls.eraseIdx v)) nlf
        have hls3 : hid p (upd H2 lf (.lst (ls.eraseIdx v))) lf = some (.lst (ls.eraseIdx v)) := hid_new plf
        generalize upd H2 lf (.lst (ls.eraseIdx v)) = H3 at *
        refine ⟨o, os, ls[v], rfl, rfl, hid_get hos3, sz_lt (by omega), X3.mut nHo, ls.eraseIdx v, os ++ [ls[v]], _, keep1 hls3 nlo po, hid_new po, ?_, by rw [List.length_append, hoi]; rfl, rfl⟩
        refine List.Perm.trans ?_ hperm
        rw [List.append_assoc]
        exact List.Perm.append_left _ (erase_perm ls v hv')
    · rintro σ H1 ⟨X1, ls, os, z, hls, hos, hperm, hoi, rfl⟩
      rw [Int.toNat_natCast] at hoi
      have hlen := hperm.length_eq
      rw [List.length_append] at hlen
      have : ls = [] := List.length_eq_zero_iff.mp (by omega)
      rw [this, List.append_nil] at hperm
      exact ⟨_, rfl, q o os H1 X1 nHo (hid_get hos) hperm⟩
theorem nmi_str : ("i" : Str) ∈ (["i", "r", "g", "p"] : List Str) := by decide
theorem nmr_str : ("r" : Str) ∈ (["i", "r", "g", "p"] : List Str) := by decide
theorem nmg_str : ("g" : Str) ∈ (["i", "r", "g", "p"] : List Str) := by decide
theorem nmp_str : ("p" : Str) ∈ (["i", "r", "g", "p"] : List Str) := by decide
theorem strV_at {us : List Str} {i : Nat} (h : i < us.length) : (us.map V.str)[i]? = some (.str us[i]) := by rw [List.getElem?_map, List.getElem?_eq_getElem h]; rfl
theorem nms_snoc (c : Str) (k : Nat) : (List.range (k + 1)).map (nm c) = (List.range k).map (nm c) ++ [nm c k] := by rw [List.range_succ, List.map_append]; rfl
theorem All2.te {R : Hp → Addr → β → Prop} {as : List Addr} {bs : List β} {H H' : Hp} (f : ∀ a b, R H a b → R H' a b) (h : All2 (R H) as bs) : All2 (R H') as bs := h.imp f
/-- what a permutation of references refers to -/
theorem perm_refs {R : Addr → GateD → Prop} {as : List Addr} {G : List GateD} (h : All2 R as G) {vs : List V} (p : vs.Perm (as.map V.ref)) : ∃ (bs : List Addr) (F : List GateD), vs = bs.map V.ref ∧ All2 R bs F ∧ F.Perm G := by
  have z : ∀ {xs ys : List V}, xs.Perm ys → ∀ (as : List Addr) (G : List GateD), ys = as.map V.ref → All2 R as G → ∃ (bs : List Addr) (F : List GateD), xs = bs.map V.ref ∧ All2 R bs F ∧ F.Perm G := by
    intro xs ys pp
    induction pp with
    | nil =>
      intro as G e h
      have : as = [] := by
        cases as with
        | nil => rfl
        | cons _ _ => cases e
      subst this
      have : G = [] := List.length_eq_zero_iff.mp h.1.symm
      subst this
      exact ⟨[], [], rfl, .nil, .refl _⟩
    | @cons x l1 l2 _ ih =>
      intro as G e h
      cases as with
      | nil => cases e
      | cons a as =>
        cases G with
        | nil => exact nomatch h.1
        | cons g G =>
          obtain ⟨e1, e2⟩ := List.cons.inj e
          have h2 : All2 R as G := ⟨Nat.succ.inj h.1, fun i x y q1 q2 => h.2 (i + 1) x y q1 q2⟩
          obtain ⟨bs, F, f1, f2, f3⟩ := ih as G e2 h2
          exact ⟨a :: bs, g :: F, by rw [e1, f1]; rfl, .cons (h.2 0 a g rfl rfl) f2, f3.cons g⟩
    | @swap x y l =>
      intro as G e h
      match as, G, h with
      | [], _, _ => cases e
      | [_], _, _ => cases e
      | _ :: _ :: _, [], h => exact nomatch h.1
      | _ :: _ :: _, [_], h => exact nomatch Nat.succ.inj h.1
      | a :: b :: as, g :: k :: G, h =>
        obtain ⟨e1, e2⟩ := List.cons.inj e
        obtain ⟨e3, e4⟩ := List.cons.inj e2
        have h2 : All2 R as G := ⟨Nat.succ.inj (Nat.succ.inj h.1), fun i x y q1 q2 => h.2 (i + 2) x y q1 q2⟩
        exact ⟨b :: a :: as, k :: g :: G, by rw [e1, e3, e4]; rfl, .cons (h.2 1 b k rfl rfl) (.cons (h.2 0 a g rfl rfl) h2), .swap ..⟩
    | trans _ _ ih1 ih2 =>
      intro as G e h
      obtain ⟨bs, F, f1, f2, f3⟩ := ih2 as G e h
      obtain ⟨cs, F2, g1, g2, g3⟩ := ih1 bs F f1 f2
      exact ⟨cs, F2, g1, g2, g3.trans f3⟩
  exact z p as G rfl h
def spCirc : Sp := fun vs H Q _ => ∃ (p a : Addr) (most : Nat), vs = [.ref p, .int most] ∧ most ≤ 15 ∧ PoolOk p a H ∧ ∀ (c : Addr) (d : CircD) (G : List GateD) (it gt rt ot : Addr) (ga ra oa : List Addr) (H' : Hp), Px p a H H' → CircAt H' c d it gt rt ot ga ra oa → CircWf most d G → Q (.ref c) H'
theorem sc_law_circuit : FnScope ["pool", "most", "k", "inputs", "stored", "nets", "gates", "pins", "ranges", "pin", "low", "regs", "outputs", "name", "j"] ["pool", "most"] (defScope s_law_circuit) := ⟨rfl, rfl, rfl, by decide +kernel, rfl, by decide +kernel, by decide +kernel⟩
theorem ok_law_circuit (D : Dfd K mg "_law_circuit" s_law_circuit ["pool", "most"]) (T : TxtS mg) (C1 : Has P w K mg base 2 "_law_draw" ["pool", "many"] spDrawX) (C2 : Has P w K mg base 3 "_law_table" ["pool", "many"] spTable) (C3 : Has P w K mg base 3 "_law_register" ["pool", "name", "net"] spReg)
    (C4 : Has P w K mg base 3 "_law_shuffled" ["pool", "rows"] spShuf) : Has P w K mg base 4 "_law_circuit" ["pool", "most"] spCirc := by
  obtain ⟨f_law_draw, d_law_draw, G_law_draw, g_law_draw, k_law_draw, b_law_draw⟩ := C1
  obtain ⟨f_law_table, d_law_table, G_law_table, g_law_table, k_law_table, b_law_table⟩ := C2
  obtain ⟨f_law_register, d_law_register, G_law_register, g_law_register, k_law_register, b_law_register⟩ := C3
  obtain ⟨f_law_shuffled, d_law_shuffled, G_law_shuffled, g_law_shuffled, k_law_shuffled, b_law_shuffled⟩ := C4
  refine D.has fun f fd F => F.ok sc_law_circuit (fun vs H Q E h => ?_) (fun cdv A outer s H vs Q E hr h => ?_)
  · obtain ⟨p, a, most, rfl, _⟩ := h
    rfl
  · obtain ⟨p, a, most, rfl, hmost, hp, q⟩ := h
    refine ⟨_, (pss_cons (ps_setLc (i := 3) (own := [("k", 2)]) (g := gName 2) (tt := tYes) rfl sc_law_circuit.nd rfl rfl (sw_true rfl rfl rfl (by decide +kernel)) (pi_range1 rfl T.range (pa_cons (pe_op op_add pe_int (pe_call G_law_draw (hr.mono (by omega)) (by rfl) g_law_draw k_law_draw b_law_draw .nil pass0 (pa_cons (pv 0) (pa_cons pe_int pa_nil)))) pa_nil)) (blkOk_by (N := ["pool", "most", "k", "inputs", "stored", "nets", "gates", "pins", "ranges", "pin", "low", "regs", "outputs", "name", "j"]) (sc := defScope s_law_circuit) (own := [("k", 2)]) (by decide +kernel)) (fun _ _ _ _ _ => (pg_name (i := 2) sc_law_circuit.nd rfl (.inl rfl))) (fun _ _ _ _ _ => pts_nil) (fun _ _ _ _ _ => (pe_op op_add_str pe_str (pe_callTy call_str_int (by rfl) T.str (by decide +kernel) (pa_cons (pv 2) pa_nil)))))
    (pss_cons (ps_setLc (i := 4) (own := [("k", 2)]) (g := gName 2) (tt := tYes) rfl sc_law_circuit.nd rfl rfl (sw_true rfl rfl rfl (by decide +kernel)) (pi_range1 rfl T.range (pa_cons (pe_call G_law_draw (hr.mono (by omega)) (by rfl) g_law_draw k_law_draw b_law_draw .nil pass0 (pa_cons (pv 0) (pa_cons pe_int pa_nil))) pa_nil)) (blkOk_by (N := ["pool", "most", "k", "inputs", "stored", "nets", "gates", "pins", "ranges", "pin", "low", "regs", "outputs", "name", "j"]) (sc := defScope s_law_circuit) (own := [("k", 2)]) (by decide +kernel)) (fun _ _ _ _ _ => (pg_name (i := 2) sc_law_circuit.nd rfl (.inl rfl))) (fun _ _ _ _ _ => pts_nil) (fun _ _ _ _ _ => (pe_op op_add_str pe_str (pe_callTy call_str_int (by rfl) T.str (by decide +kernel) (pa_cons (pv 2) pa_nil)))))
    (pss_cons (ps_set (i := 5) sc_law_circuit.nd rfl (.inr rfl) (pe_op op_cat (pv 3) (pv 4)))
    (pss_cons (ps_set (i := 6) sc_law_circuit.nd rfl (.inl rfl) (pe_lst pa_nil))
    (pss_cons (ps_for PassesOwn.never rfl (pi_range1 rfl T.range (pa_cons (pe_call G_law_draw (hr.mono (by omega)) (by rfl) g_law_draw k_law_draw b_law_draw .nil pass0 (pa_cons (pv 0) (pa_cons (pe_op op_add (pv 1) pe_int) pa_nil))) pa_nil)) (pg_name (i := 2) sc_law_circuit.nd rfl (.inl rfl))
      (pss_cons (ps_set (i := 7) sc_law_circuit.nd rfl (.inl rfl) (pe_callTy call_tuple_of (by rfl) T.tuple (by decide +kernel) (pa_cons (pe_lc (own := [("j", 14)]) (g := gName 14) (tt := tYes) rfl sc_law_circuit.nd (pi_range1 rfl T.range (pa_cons (pe_ix ix_list (pe_lst (pa_cons pe_int (pa_cons pe_int (pa_cons pe_int (pa_cons pe_int (pa_cons pe_int (pa_cons pe_int pa_nil))))))) (pe_call G_law_draw (hr.mono (by omega)) (by rfl) g_law_draw k_law_draw b_law_draw .nil pass0 (pa_cons (pv 0) (pa_cons pe_int pa_nil))) (fun _ _ => rfl)) pa_nil)) (blkOk_by (N := ["pool", "most", "k", "inputs", "stored", "nets", "gates", "pins", "ranges", "pin", "low", "regs", "outputs", "name", "j"]) (sc := defScope s_law_circuit) (own := [("j", 14)]) (by decide +kernel)) (fun _ _ _ _ _ => (pg_name (i := 14) sc_law_circuit.nd rfl (.inl rfl))) (fun _ _ _ _ _ => pts_nil) (fun _ _ _ _ _ => (pe_ix (kIxL (K := K) rfl) (pv 5) (pe_call G_law_draw (hr.mono (by omega)) (by rfl) g_law_draw k_law_draw b_law_draw .nil pass0 (pa_cons (pv 0) (pa_cons (pe_callB (kLen (K := K) rfl) (by rfl) T.len (by decide +kernel) (pa_cons (pv 5) pa_nil)) pa_nil))) (fun _ _ => rfl)))) pa_nil)))
      (pss_cons (ps_set (i := 8) sc_law_circuit.nd rfl (.inl rfl) (pe_lst pa_nil))
      (pss_cons (ps_for PassesOwn.never rfl (pi_tup (pv 7)) (pg_name (i := 9) sc_law_circuit.nd rfl (.inl rfl))
        (pss_cons (ps_set (i := 10) sc_law_circuit.nd rfl (.inl rfl) (pe_call G_law_draw (hr.mono (by omega)) (by rfl) g_law_draw k_law_draw b_law_draw .nil pass0 (pa_cons (pv 0) (pa_cons pe_int pa_nil))))
        (pss_one (ps_expr (pe_bm PySem.F.plainAttrs_list PySem.F.slot_list_append PySem.F.type_list_append mt_append (pv 8) (pa_cons (pe_tup (pa_cons (pv 10) (pa_cons (pe_op op_add (pe_op op_add (pv 10) pe_int) (pe_call G_law_draw (hr.mono (by omega)) (by rfl) g_law_draw k_law_draw b_law_draw .nil pass0 (pa_cons (pv 0) (pa_cons pe_int pa_nil)))) pa_nil))) pa_nil))))))
      (pss_cons (ps_expr (pe_bm PySem.F.plainAttrs_list PySem.F.slot_list_append PySem.F.type_list_append mt_append (pv 6) (pa_cons (pe_tup (pa_cons (pe_op op_add_str pe_str (pe_callTy call_str_int (by rfl) T.str (by decide +kernel) (pa_cons (pv 2) pa_nil))) (pa_cons (pe_call G_law_table (hr.mono (by omega)) (by rfl) g_law_table k_law_table b_law_table .nil pass0 (pa_cons (pv 0) (pa_cons (pe_callB call_len_seq (by rfl) T.len (by decide +kernel) (pa_cons (pv 7) pa_nil)) pa_nil))) (pa_cons (pv 7) (pa_cons (pe_callTy call_tuple_of (by rfl) T.tuple (by decide +kernel) (pa_cons (pv 8) pa_nil)) pa_nil))))) pa_nil)))
      (pss_one (ps_expr (pe_bm PySem.F.plainAttrs_list PySem.F.slot_list_append PySem.F.type_list_append mt_append (pv 5) (pa_cons (pe_op op_add_str pe_str (pe_callTy call_str_int (by rfl) T.str (by decide +kernel) (pa_cons (pv 2) pa_nil))) pa_nil)))))))))
    (pss_cons (ps_setLc (i := 11) (own := [("name", 13)]) (g := gName 13) (tt := tYes) rfl sc_law_circuit.nd rfl rfl (sw_true rfl rfl rfl (by decide +kernel)) (pi_list (pv 4)) (blkOk_by (N := ["pool", "most", "k", "inputs", "stored", "nets", "gates", "pins", "ranges", "pin", "low", "regs", "outputs", "name", "j"]) (sc := defScope s_law_circuit) (own := [("name", 13)]) (by decide +kernel)) (fun _ _ _ _ _ => (pg_name (i := 13) sc_law_circuit.nd rfl (.inl rfl))) (fun _ _ _ _ _ => pts_nil) (fun _ _ _ _ _ => (pe_call G_law_register (hr.mono (by omega)) (by rfl) g_law_register k_law_register b_law_register .nil pass0 (pa_cons (pv 0) (pa_cons (pv 13) (pa_cons (pe_ix (kIxL (K := K) rfl) (pv 5) (pe_call G_law_draw (hr.mono (by omega)) (by rfl) g_law_draw k_law_draw b_law_draw .nil pass0 (pa_cons (pv 0) (pa_cons (pe_callB (kLen (K := K) rfl) (by rfl) T.len (by decide +kernel) (pa_cons (pv 5) pa_nil)) pa_nil))) (fun _ _ => rfl)) pa_nil))))))
    (pss_cons (ps_setLc (i := 12) (own := [("k", 2)]) (g := gName 2) (tt := tYes) rfl sc_law_circuit.nd rfl rfl (sw_true rfl rfl rfl (by decide +kernel)) (pi_range1 rfl T.range (pa_cons (pe_call G_law_draw (hr.mono (by omega)) (by rfl) g_law_draw k_law_draw b_law_draw .nil pass0 (pa_cons (pv 0) (pa_cons pe_int pa_nil))) pa_nil)) (blkOk_by (N := ["pool", "most", "k", "inputs", "stored", "nets", "gates", "pins", "ranges", "pin", "low", "regs", "outputs", "name", "j"]) (sc := defScope s_law_circuit) (own := [("k", 2)]) (by decide +kernel)) (fun _ _ _ _ _ => (pg_name (i := 2) sc_law_circuit.nd rfl (.inl rfl))) (fun _ _ _ _ _ => pts_nil) (fun _ _ _ _ _ => (pe_tup (pa_cons (pe_op op_add_str pe_str (pe_callTy call_str_int (by rfl) T.str (by decide +kernel) (pa_cons (pv 2) pa_nil))) (pa_cons (pe_ix (kIxL (K := K) rfl) (pv 5) (pe_call G_law_draw (hr.mono (by omega)) (by rfl) g_law_draw k_law_draw b_law_draw .nil pass0 (pa_cons (pv 0) (pa_cons (pe_callB (kLen (K := K) rfl) (by rfl) T.len (by decide +kernel) (pa_cons (pv 5) pa_nil)) pa_nil))) (fun _ _ => rfl)) pa_nil)))))
    (pss_one (ps_ret (pe_tup (pa_cons (pe_callTy call_tuple_of (by rfl) T.tuple (by decide +kernel) (pa_cons (pv 3) pa_nil)) (pa_cons (pe_callTy call_tuple_of (by rfl) T.tuple (by decide +kernel) (pa_cons (pe_call G_law_shuffled (hr.mono (by omega)) (by rfl) g_law_shuffled k_law_shuffled b_law_shuffled .nil pass0 (pa_cons (pv 0) (pa_cons (pv 6) pa_nil))) pa_nil)) (pa_cons (pe_callTy call_tuple_of (by rfl) T.tuple (by decide +kernel) (pa_cons (pv 11) pa_nil)) (pa_cons (pe_callTy call_tuple_of (by rfl) T.tuple (by decide +kernel) (pa_cons (pv 12) pa_nil)) pa_nil)))))))))))))), ?_⟩
    -- inputs
    refine ⟨_, rfl, p, a, 3, rfl, by decide, by decide, hp, fun na H1 hna X1 _ => ⟨_, _, rfl, rfl, _, rfl, by omega, by omega, fun L3 nL3 => lcRv (fun k => .str (nm "i" k)) (by omega) (fun _ => rfl) (fun k H2 hk _ Q q => ?_) ?_⟩⟩
    · rw [Int.zero_add]
      have := nm_read nmi_str (k := k) (by omega)
      exact ⟨_, rfl, _, rfl, this.1, _, _, rfl, rfl, this.2, q⟩
    have e1 : ((1 : Int) + (na : Int)).toNat = na + 1 := by omega
    rw [e1] at *
    have X3 := X1.new (o := .lst ((List.range (na + 1)).map fun k => V.str (nm "i" k))) nL3
    have h3 : hid p (upd H1 L3 (.lst ((List.range (na + 1)).map fun k => V.str (nm "i" k)))) L3 = some (.lst (((List.range (na + 1)).map (nm "i")).map V.str)) := by
      rw [hid_new (X1.pool.ne nL3), List.map_map]; rfl
    generalize upd H1 L3 (.lst ((List.range (na + 1)).map fun k => V.str (nm "i" k))) = H2 at *
    -- stored
    refine ⟨_, rfl, p, a, 4, rfl, by decide, by decide, X3.pool, fun nb H3 hnb X4 _ => ⟨_, rfl, by omega, by omega, fun L4 nL4 => lcRv (fun k => .str (nm "r" k)) (by omega) (fun _ => rfl) (fun k H2 hk _ Q q => ?_) ?_⟩⟩
    · rw [Int.zero_add]
      have := nm_read nmr_str (k := k) (by omega)
      exact ⟨_, rfl, _, rfl, this.1, _, _, rfl, rfl, this.2, q⟩
    rw [Int.toNat_natCast] at *
    have n34 : L3 ≠ L4 := ne_of_none (hid_get (X4.get h3)) nL4
    have X5 := (X3.trans X4).new (o := .lst ((List.range nb).map fun k => V.str (nm "r" k))) nL4
    have h4 : hid p (upd H3 L4 (.lst ((List.range nb).map fun k => V.str (nm "r" k)))) L4 = some (.lst (((List.range nb).map (nm "r")).map V.str)) := by
      rw [hid_new (X4.pool.ne nL4), List.map_map]; rfl
    have h35 : hid p (upd H3 L4 (.lst ((List.range nb).map fun k => V.str (nm "r" k)))) L3 = some (.lst (((List.range (na + 1)).map (nm "i")).map V.str)) := keep1 (X4.get h3) n34 (X4.pool.ne nL4)
    generalize upd H3 L4 (.lst ((List.range nb).map fun k => V.str (nm "r" k))) = H4 at *
    generalize eIns : (List.range (na + 1)).map (nm "i") = ins at *
    generalize eRgs : (List.range nb).map (nm "r") = rgs at *
    have lIns : ins.length ≤ 3 := by rw [← eIns, List.length_map, List.length_range]; omega
    have lIns0 : 0 < ins.length := by rw [← eIns, List.length_map, List.length_range]; omega
    have lRgs : rgs.length ≤ 3 := by rw [← eRgs, List.length_map, List.length_range]; omega
    -- nets, gates
    refine ⟨_, rfl, _, rfl, L3, L4, _, _, rfl, rfl, hid_get h35, hid_get h4, sz_of (by rw [List.length_map, List.length_map]; omega), fun L5 nL5 => ⟨Nat.zero_le _, fun L6 nL6 => ?_⟩⟩
    rw [← List.map_append] at *
    have n35 : L3 ≠ L5 := ne_of_none (hid_get h35) nL5
    have n45 : L4 ≠ L5 := ne_of_none (hid_get h4) nL5
    have p5 := X5.pool.ne nL5
    have Y5 := X5.new (o := .lst ((ins ++ rgs).map V.str)) nL5
    have g3 : hid p (upd H4 L5 (.lst ((ins ++ rgs).map V.str))) L3 = some (.lst (ins.map V.str)) := keep1 h35 n35 p5
    have g4 : hid p (upd H4 L5 (.lst ((ins ++ rgs).map V.str))) L4 = some (.lst (rgs.map V.str)) := keep1 h4 n45 p5
    have g5 : hid p (upd H4 L5 (.lst ((ins ++ rgs).map V.str))) L5 = some (.lst ((ins ++ rgs).map V.str)) := hid_new p5
    have f5 : H L5 = none := X5.free nL5
    generalize upd H4 L5 (.lst ((ins ++ rgs).map V.str)) = H5 at *
    have n36 : L3 ≠ L6 := ne_of_none (hid_get g3) nL6
    have n46 : L4 ≠ L6 := ne_of_none (hid_get g4) nL6
    have n56 : L5 ≠ L6 := ne_of_none (hid_get g5) nL6
    have p6 := Y5.pool.ne nL6
    have f6 : H L6 = none := Y5.free nL6
    have Y6 := Y5.new (o := .lst []) nL6
    have k3 : hid p (upd H5 L6 (.lst [])) L3 = some (.lst (ins.map V.str)) := keep1 g3 n36 p6
    have k4 : hid p (upd H5 L6 (.lst [])) L4 = some (.lst (rgs.map V.str)) := keep1 g4 n46 p6
    have k5 : hid p (upd H5 L6 (.lst [])) L5 = some (.lst ((ins ++ rgs).map V.str)) := keep1 g5 n56 p6
    have k6 : hid p (upd H5 L6 (.lst [])) L6 = some (.lst []) := hid_new p6
    generalize upd H5 L6 (.lst []) = H6 at *
    refine ⟨_, rfl, _, rfl, _, _, rfl, rfl, p, a, (most : Int) + 1, rfl, by omega, by omega, Y6.pool, fun ng H7 hng X7 _ => ⟨ng, rfl, by omega, by omega, for_range (n := ((ng : Nat) : Int).toNat)
      (fun i σ H' => Px p a H H' ∧ hid p H' L3 = some (.lst (ins.map V.str)) ∧ hid p H' L4 = some (.lst (rgs.map V.str)) ∧ hid p H' L5 = some (.lst ((ins ++ rgs ++ (List.range i).map (nm "g")).map V.str)) ∧
        ∃ (ga : List Addr) (G : List GateD), hid p H' L6 = some (.lst (ga.map V.ref)) ∧ All2 (GateAt H') ga G ∧ G.length = i ∧ (∀ k g, G[k]? = some g → GateWf (ins ++ rgs ++ (List.range k).map (nm "g")) k g) ∧
        ∃ (x2 x7 x8 x9 x10 : Option V), σ = [some (.ref p), some (.int most), x2, some (.ref L3), some (.ref L4), some (.ref L5), some (.ref L6), x7, x8, x9, x10, none, none, none, none])
      ⟨Y6.trans X7, X7.get k3, X7.get k4, ?_, [], [], X7.get k6, .nil, rfl, (fun _ _ h => nomatch h), _, _, _, _, _, rfl⟩ ?_ ?_⟩⟩
    · rw [List.range_zero, List.map_nil, List.append_nil]; exact X7.get k5
    · rintro i σ H8 hi ⟨X8, q3, q4, q5, ga, G, q6, hG, hGi, hGw, x2, x7, x8, x9, x10, rfl⟩
      rw [Int.toNat_natCast] at hi
      have hi15 : i < 15 := by omega
      have lN : (ins ++ rgs ++ (List.range i).map (nm "g")).length ≤ 21 := by
        rw [List.length_append, List.length_append, List.length_map, List.length_range]; omega
      have lN0 : 0 < (ins ++ rgs ++ (List.range i).map (nm "g")).length := by
        rw [List.length_append, List.length_append]; omega
      have ei : (0 : Int) + (i : Int) = (i : Int) := Int.zero_add _
      rw [ei]
      generalize eN : ins ++ rgs ++ (List.range i).map (nm "g") = N at *
      -- pins
      refine ⟨(by show 6 ≤ sizeLine; decide), fun l nl => ⟨_, rfl, p, a, 6, rfl, by decide, by decide, (X8.new nl).pool, fun v H9 hv X9 kp => ?_⟩⟩
      have hl9 : H9 l = some (.lst [.int 1, .int 2, .int 2, .int 3, .int 0, .int 1]) := by rw [kp _ (X8.pool.ne nl)]; exact upd_same
      obtain ⟨m, hm3, hm⟩ : ∃ m : Nat, m ≤ 3 ∧ ([.int 1, .int 2, .int 2, .int 3, .int 0, .int 1] : List V)[v]? = some (.int m) := by
        match v, hv with
        | 0, _ => exact ⟨1, by decide, rfl⟩
        | 1, _ => exact ⟨2, by decide, rfl⟩
        | 2, _ => exact ⟨2, by decide, rfl⟩
        | 3, _ => exact ⟨3, by decide, rfl⟩
        | 4, _ => exact ⟨0, by decide, rfl⟩
        | 5, _ => exact ⟨1, by decide, rfl⟩
        | n + 6, h => exact absurd h (by omega)
      have Z9 := ((Px.refl X8.pool).new nl).trans X9
      refine ⟨_, _, _, _, rfl, rfl, SqL.of hl9, atI_nat hm, _, rfl, by omega, by omega, fun L7 nL7 => lc_range (lo := 0) (n := ((m : Nat) : Int).toNat)
        (fun j H' => Px p a H8 H' ∧ ∃ ps : List Str, ps.length = j ∧ (∀ x ∈ ps, x ∈ N) ∧ hid p H' L7 = some (.lst (ps.map V.str))) ⟨Z9.new nL7, [], rfl, (fun _ h => nomatch h), hid_new (X9.pool.ne nL7)⟩ ?_ ?_⟩
      · rintro j H10 hj ⟨X10, ps, hpj, hpN, hps⟩
        have f7 : H8 L7 = none := Z9.free nL7
        refine ⟨rfl, tYes_in ⟨_, rfl, _, rfl, _, rfl, _, _, rfl, .inl (SqL.of (X10.at_ q5)), p, a, N.length, by rw [List.length_map]; rfl, by omega, by omega, X10.pool, fun u H11 hu X11 _ => ?_⟩⟩
        have hu' : u < N.length := by omega
        have Z11 := X10.trans X11
        refine ⟨_, _, _, _, rfl, rfl, SqL.of (Z11.at_ q5), atI_nat (strV_at hu'), _, hid_get (X11.get hps), sz_lt (by rw [List.length_map]; omega), Z11.mut f7, ps ++ [N[u]], ?_, ?_, ?_⟩
        · rw [List.length_append, hpj]; rfl
        · intro x hx
          rcases List.mem_append.mp hx with z | z
          · exact hpN x z
          · rw [List.mem_singleton.mp z]; exact List.getElem_mem hu'
        · rw [hid_new (X8.pool.ne f7), List.map_append]; rfl
      · rintro H10 ⟨X10, ps, hpj, hpN, hps⟩
        rw [Int.toNat_natCast] at hpj
        refine ⟨_, _, rfl, .inl ⟨SqL.of (hid_get hps), fun pt npt => ?_⟩⟩
        have Z10 := X10.new (o := .tup (ps.map V.str)) npt
        have hpt : upd H10 pt (.tup (ps.map V.str)) pt = some (.tup (ps.map V.str)) := upd_same
        generalize upd H10 pt (.tup (ps.map V.str)) = H11 at *
        -- ranges
        refine ⟨Nat.zero_le _, fun L8 nL8 => ?_⟩
        have Z11 := Z10.new (o := .lst []) nL8
        have hpt2 : upd H11 L8 (.lst []) pt = some (.tup (ps.map V.str)) := Ex.new nL8 _ _ hpt
        have h8 : hid p (upd H11 L8 (.lst [])) L8 = some (.lst []) := hid_new (Z10.pool.ne nL8)
        have f8 : H8 L8 = none := Z10.free nL8
        have p8 := X8.pool.ne f8
        generalize upd H11 L8 (.lst []) = H12 at *
        refine ⟨_, rfl, pt, rfl, ⟨_, SqT.of hpt2⟩, for_tup (K := K) (a := pt) (xs := ps.map V.str)
          (fun j σ H' => Px p a H8 H' ∧ TEx H12 H' ∧ ∃ (ra : List Addr) (R : List (Int × Int)) (x9 x10 : Option V), hid p H' L8 = some (.lst (ra.map V.ref)) ∧ All2 (IntsAt H') ra R ∧ R.length = j ∧ (∀ r ∈ R, 0 ≤ r.1 ∧ r.1 ≤ 4 ∧ r.1 + 2 ≤ r.2 ∧ r.2 ≤ r.1 + 6) ∧
            σ = [some (.ref p), some (.int most), some (.int (i : Int)), some (.ref L3), some (.ref L4), some (.ref L5), some (.ref L6), some (.ref pt), some (.ref L8), x9, x10, none, none, none, none])
          ⟨Z11, .refl _, [], [], _, _, h8, .nil, rfl, (fun _ h => nomatch h), rfl⟩ (fun j σ H' _ g => SqT.of (g.2.1 _ _ hpt2)) ?_ ?_⟩
        · rintro j x σ H13 hx ⟨X13, T13, ra, R, x9, x10, hra, hR, hRj, hRw, rfl⟩
          have hj3 : j < 3 := by have := (List.getElem?_eq_some_iff.mp hx).1; rw [List.length_map] at this; omega
          refine ⟨_, rfl, p, a, 5, rfl, by decide, by decide, X13.pool, fun lo H14 hlo X14 _ => ?_⟩
          refine ⟨_, rfl, .inl ⟨rfl, _, SqL.of (hid_get (X14.get hra))⟩, _, rfl, _, rfl, _, _, rfl, rfl, _, rfl, p, a, 5, rfl, by decide, by decide, X14.pool, fun u H15 hu X15 _ => ⟨_, _, rfl, rfl, (by show 2 ≤ sizeLine; decide), fun e ne => ?_⟩⟩
          have X16 := (X14.trans X15).new (o := .tup [.int lo, .int ((lo : Int) + 2 + u)]) ne
          have hra16 := X16.get hra
          have T16 := TEx.px X16
          have he : upd H15 e (.tup [.int lo, .int ((lo : Int) + 2 + u)]) e = some (.tup [.int lo, .int ((lo : Int) + 2 + u)]) := upd_same
          generalize upd H15 e (.tup [.int lo, .int ((lo : Int) + 2 + u)]) = H16 at *
          refine ⟨L8, ra.map V.ref, .ref e, rfl, rfl, hid_get hra16, sz_lt (by rw [List.length_map, hR.1]; omega), (X13.trans X16).mut f8, T13.trans (T16.trans (TEx.mut (hid_get hra16))), ra ++ [e], R ++ [((lo : Int), (lo : Int) + 2 + u)], _, _, ?_, ?_, ?_, ?_, rfl⟩
          · rw [hid_new p8, List.map_append]; rfl
          · exact (hR.imp fun _ _ z => (z.te T16).te (TEx.mut (hid_get hra16))).snoc (TEx.mut (hid_get hra16) _ _ he)
          · rw [List.length_append, hRj]; rfl
          · intro r hr
            rcases List.mem_append.mp hr with z | z
            · exact hRw r z
            · rw [List.mem_singleton.mp z]
              refine ⟨?_, ?_, ?_, ?_⟩ <;> simp <;> omega
        · rintro σ H13 ⟨X13, T13, ra, R, x9, x10, hra, hR, hRj, hRw, rfl⟩
          have hs := nm_read nmg_str (k := i) (by omega)
          rw [List.length_map] at hRj
          refine ⟨_, rfl, .inl ⟨rfl, _, SqL.of (X13.at_ q6)⟩, _, rfl, _, rfl, hs.1, _, _, rfl, rfl, hs.2, ?_⟩
          refine ⟨_, rfl, _, rfl, _, _, rfl, .inr (SqT.of (T13 _ _ hpt2)), p, a, ps.length, by rw [List.length_map]; rfl, by omega, X13.pool, fun t bs H14 hbl X14 nt ht => ?_⟩
          have T14 := TEx.px X14
          refine ⟨_, rfl, _, rfl, _, _, rfl, .inl ⟨SqL.of (hid_get (X14.get hra)), fun rt nrt => ?_⟩⟩
          have X15 := X14.new (o := .tup (ra.map V.ref)) nrt
          have T15 := TEx.px X15
          have hrt : upd H14 rt (.tup (ra.map V.ref)) rt = some (.tup (ra.map V.ref)) := upd_same
          have ht15 : upd H14 rt (.tup (ra.map V.ref)) t = some (.tup (bs.map V.bl)) := Ex.new nrt _ _ ht
          generalize upd H14 rt (.tup (ra.map V.ref)) = H15 at *
          refine ⟨(by show 4 ≤ sizeLine; decide), fun g ngg => ?_⟩
          have X16 := X15.new (o := .tup [.str (("g" : Str) ++ Str.ofString (toString ((i : Nat) : Int))), .ref t, .ref pt, .ref rt]) ngg
          have T16 : TEx H13 (upd H15 g (.tup [.str (("g" : Str) ++ Str.ofString (toString ((i : Nat) : Int))), .ref t, .ref pt, .ref rt])) := TEx.px X16
          have hg16 : upd H15 g (.tup [.str (("g" : Str) ++ Str.ofString (toString ((i : Nat) : Int))), .ref t, .ref pt, .ref rt]) g = some (.tup [.str (("g" : Str) ++ Str.ofString (toString ((i : Nat) : Int))), .ref t, .ref pt, .ref rt]) := upd_same
          have ht16 := Ex.new (o := .tup [.str (("g" : Str) ++ Str.ofString (toString ((i : Nat) : Int))), .ref t, .ref pt, .ref rt]) ngg _ _ ht15
          have hrt16 := Ex.new (o := .tup [.str (("g" : Str) ++ Str.ofString (toString ((i : Nat) : Int))), .ref t, .ref pt, .ref rt]) ngg _ _ hrt
          have Z16 := X13.trans X16
          generalize upd H15 g (.tup [.str (("g" : Str) ++ Str.ofString (toString ((i : Nat) : Int))), .ref t, .ref pt, .ref rt]) = H16 at *
          have hG16 : GateAt H16 g ⟨nm "g" i, bs, ps, R⟩ := ⟨t, pt, rt, ra, hg16, ht16, (T13.trans T16) _ _ hpt2, hrt16, hR.imp fun _ _ z => z.te T16⟩
          have q6' := Z16.get q6
          have p6' := hid_neq q6'
          have p5' := hid_neq q5
          have T17 : TEx H16 (upd H16 L6 (.lst (ga.map V.ref ++ [.ref g]))) := TEx.mut (hid_get q6')
          have hGs : All2 (GateAt H16) ga G := hG.imp fun _ _ z => z.te (TEx.px Z16)
          refine ⟨L6, ga.map V.ref, .ref g, rfl, rfl, hid_get q6', sz_lt (by rw [List.length_map, hG.1]; omega), ?_⟩
          have r3 := keep1 (o' := .lst (ga.map V.ref ++ [.ref g])) (Z16.get q3) n36 p6'
          have r4 := keep1 (o' := .lst (ga.map V.ref ++ [.ref g])) (Z16.get q4) n46 p6'
          have r5 := keep1 (o' := .lst (ga.map V.ref ++ [.ref g])) (Z16.get q5) n56 p6'
          have r6 : hid p (upd H16 L6 (.lst (ga.map V.ref ++ [.ref g]))) L6 = some (.lst ((ga ++ [g]).map V.ref)) := by rw [hid_new p6', List.map_append]; rfl
          have X17 := ((X8.trans Z16)).mut (o := .lst (ga.map V.ref ++ [.ref g])) f6
          have hG17 : All2 (GateAt (upd H16 L6 (.lst (ga.map V.ref ++ [.ref g])))) (ga ++ [g]) (G ++ [⟨nm "g" i, bs, ps, R⟩]) := (hGs.imp fun _ _ z => z.te T17).snoc (hG16.te T17)
          generalize upd H16 L6 (.lst (ga.map V.ref ++ [.ref g])) = H17 at *
          refine ⟨_, rfl, .inl ⟨rfl, _, SqL.of (hid_get r5)⟩, _, rfl, _, rfl, hs.1, _, _, rfl, rfl, hs.2, L5, N.map V.str, .str (nm "g" i), rfl, rfl, hid_get r5, sz_lt (by rw [List.length_map]; omega), ?_⟩
          have T18 : TEx H17 (upd H17 L5 (.lst (N.map V.str ++ [.str (nm "g" i)]))) := TEx.mut (hid_get r5)
          refine ⟨X17.mut f5, keep1 r3 n35 p5', keep1 r4 n45 p5', ?_, ga ++ [g], G ++ [⟨nm "g" i, bs, ps, R⟩], keep1 r6 n56.symm p5', hG17.imp fun _ _ z => z.te T18, ?_, ?_, _, _, _, _, _, rfl⟩
          · rw [hid_new p5', nms_snoc, ← List.append_assoc, eN, List.map_append]; rfl
          · rw [List.length_append, hGi]; rfl
          · intro k g' hk
            by_cases hkl : k < G.length
            · rw [List.getElem?_append_left hkl] at hk; exact hGw k g' hk
            · rw [List.getElem?_append_right (by omega)] at hk
              have hk0 : k - G.length = 0 := by
                cases e : k - G.length with
                | zero => rfl
                | succ n => rw [e] at hk; exact nomatch hk
              rw [hk0] at hk
              have : k = i := by omega
              subst this
              cases hk
              exact ⟨rfl, by show ps.length ≤ 3; omega, by rw [eN]; exact hpN, hbl, hRj, hRw⟩
    · rintro σ H8 ⟨X8, q3, q4, q5, ga, G, q6, hG, hGi, hGw, x2, x7, x8, x9, x10, rfl⟩
      rw [Int.toNat_natCast] at hGi q5
      have lN : (ins ++ rgs ++ (List.range ng).map (nm "g")).length ≤ 21 := by
        rw [List.length_append, List.length_append, List.length_map, List.length_range]; omega
      have lN0 : 0 < (ins ++ rgs ++ (List.range ng).map (nm "g")).length := by
        rw [List.length_append, List.length_append]; omega
      generalize eN : ins ++ rgs ++ (List.range ng).map (nm "g") = N at *
      -- regs
      refine ⟨_, rfl, L4, rfl, ⟨_, SqL.of (hid_get q4)⟩, fun L11 nL11 => wk_list (K := K) (a := L4) (xs := rgs.map V.str)
        (fun j H' => Px p a H8 H' ∧ ∃ (ra : List Addr) (R : List RegD), hid p H' L11 = some (.lst (ra.map V.ref)) ∧ All2 (RegAt H') ra R ∧ R.map (·.name) = rgs.take j ∧ ∀ r ∈ R, RegWf r ∧ r.net ∈ N)
        ⟨(Px.refl X8.pool).new nL11, [], [], hid_new (X8.pool.ne nL11), .nil, (by rw [List.take_zero]; rfl), (fun _ h => nomatch h)⟩ (fun j H' _ g => SqL.of (g.1.at_ q4)) ?_ ?_⟩
      · rintro j x H9 hx ⟨X9, ra, R, hra, hR, hRn, hRw⟩
        have hj : j < rgs.length := by have := (List.getElem?_eq_some_iff.mp hx).1; rw [List.length_map] at this; exact this
        obtain rfl : x = .str rgs[j] := by rw [strV_at hj] at hx; exact (Option.some.inj hx).symm
        refine ⟨rfl, tYes_in ⟨_, rfl, _, rfl, _, rfl, _, rfl, _, rfl, _, _, rfl, .inl (SqL.of (X9.at_ q5)), p, a, N.length, by rw [List.length_map]; rfl, by omega, by omega, X9.pool, fun u H10 hu X10 _ => ?_⟩⟩
        have hu' : u < N.length := by omega
        refine ⟨_, _, _, _, rfl, rfl, SqL.of ((X9.trans X10).at_ q5), atI_nat (strV_at hu'), p, a, rgs[j], N[u], rfl, X10.pool, fun y r H11 X11 ny hr hn1 hn2 hw => ?_⟩
        have Z := X10.trans X11
        have hra' := Z.get hra
        refine ⟨_, hid_get hra', sz_lt (by rw [List.length_map, hR.1]; have := congrArg List.length hRn; rw [List.length_map, List.length_take] at this; omega), (X9.trans Z).mut nL11, ra ++ [y], R ++ [r], ?_, ?_, ?_, ?_⟩
        · rw [hid_new (X8.pool.ne nL11), List.map_append]; rfl
        · exact ((hR.imp fun _ _ z => z.te (TEx.px Z)).snoc hr).imp fun _ _ z => z.te (TEx.mut (hid_get hra'))
        · rw [List.map_append, hRn, List.take_add_one, List.getElem?_eq_getElem hj, ← hn1]; rfl
        · intro r' hr'
          rcases List.mem_append.mp hr' with z | z
          · exact hRw r' z
          · rw [List.mem_singleton.mp z]; exact ⟨hw, by rw [hn2]; exact List.getElem_mem hu'⟩
      rintro H9 ⟨X9, ra, R, hra, hR, hRn, hRw⟩
      rw [List.length_map, List.take_length] at hRn
      -- outputs
      refine ⟨_, rfl, p, a, 4, rfl, by decide, by decide, X9.pool, fun nq H10 hnq X10 _ => ⟨_, rfl, by omega, by omega, fun L12 nL12 => lc_range (lo := 0) (n := ((nq : Nat) : Int).toNat)
        (fun j H' => Px p a H10 H' ∧ ∃ (oa : List Addr) (O : List (Str × Str)), hid p H' L12 = some (.lst (oa.map V.ref)) ∧ All2 (OutAt H') oa O ∧ O.map (·.1) = (List.range j).map (nm "p") ∧ ∀ o ∈ O, o.2 ∈ N)
        ⟨(Px.refl X10.pool).new nL12, [], [], hid_new (X10.pool.ne nL12), .nil, rfl, (fun _ h => nomatch h)⟩ ?_ ?_⟩⟩
      · rintro j H11 hj ⟨X11, oa, O, hoa, hO, hOn, hOw⟩
        have hs := nm_read nmp_str (k := j) (by omega)
        have ej : (0 : Int) + (j : Int) = (j : Int) := Int.zero_add _
        rw [ej]
        have Z11 := (X9.trans X10).trans X11
        refine ⟨rfl, tYes_in ⟨_, rfl, _, rfl, hs.1, _, _, rfl, rfl, hs.2, _, rfl, _, rfl, _, rfl, _, _, rfl, .inl (SqL.of (Z11.at_ q5)), p, a, N.length, by rw [List.length_map]; rfl, by omega, by omega, X11.pool, fun u H12 hu X12 _ => ?_⟩⟩
        have hu' : u < N.length := by omega
        refine ⟨_, _, _, _, rfl, rfl, SqL.of ((Z11.trans X12).at_ q5), atI_nat (strV_at hu'), (by show 2 ≤ sizeLine; decide), fun e ne => ?_⟩
        have Z := X12.new (o := .tup [.str (("p" : Str) ++ Str.ofString (toString ((j : Nat) : Int))), .str N[u]]) ne
        have hoa' := Z.get hoa
        refine ⟨_, hid_get hoa', sz_lt (by rw [List.length_map, hO.1]; have := congrArg List.length hOn; rw [List.length_map, List.length_map, List.length_range] at this; omega), (X11.trans Z).mut nL12, oa ++ [e], O ++ [(nm "p" j, N[u])], ?_, ?_, ?_, ?_⟩
        · rw [hid_new (X10.pool.ne nL12), List.map_append]; rfl
        · exact ((hO.imp fun _ _ z => TEx.px Z _ _ z).snoc (show OutAt _ e (nm "p" j, N[u]) from upd_same)).imp fun _ _ z => TEx.mut (hid_get hoa') _ _ z
        · rw [List.map_append, hOn, nms_snoc]; rfl
        · intro o ho
          rcases List.mem_append.mp ho with z | z
          · exact hOw o z
          · rw [List.mem_singleton.mp z]; exact List.getElem_mem hu'
      rintro H11 ⟨X11, oa, O, hoa, hO, hOn, hOw⟩
      rw [Int.toNat_natCast] at hOn
      have Z11 := X9.trans (X10.trans X11)
      have T11 : TEx H9 H11 := TEx.px (X10.trans X11)
      refine ⟨_, rfl, _, _, rfl, .inl ⟨SqL.of (Z11.at_ q3), fun it nit => ?_⟩⟩
      have X12 := (Px.refl X11.pool).new (o := .tup (ins.map V.str)) nit
      have hit : upd H11 it (.tup (ins.map V.str)) it = some (.tup (ins.map V.str)) := upd_same
      generalize upd H11 it (.tup (ins.map V.str)) = H12 at *
      have hga12 := (Z11.trans X12).get q6
      refine ⟨_, rfl, _, rfl, p, a, L6, ga.map V.ref, rfl, X12.pool, hga12, by rw [List.length_map, hG.1]; omega, fun o ys H13 X13 no ho hperm => ?_⟩
      obtain ⟨gb, GB, rfl, hGB, hGp⟩ := perm_refs (hG.imp fun _ _ z => z.te (TEx.px (Z11.trans (X12.trans X13)))) hperm
      refine ⟨_, _, rfl, .inl ⟨SqL.of ho, fun gt ngt => ?_⟩⟩
      have X14 := X13.new (o := .tup (gb.map V.ref)) ngt
      have hgt : upd H13 gt (.tup (gb.map V.ref)) gt = some (.tup (gb.map V.ref)) := upd_same
      have T14 : TEx H13 (upd H13 gt (.tup (gb.map V.ref))) := TEx.new ngt
      generalize upd H13 gt (.tup (gb.map V.ref)) = H14 at *
      have Y14 := X12.trans X14
      refine ⟨_, rfl, _, _, rfl, .inl ⟨SqL.of (hid_get (Y14.get ((X10.trans X11).get hra))), fun rt nrt => ?_⟩⟩
      have X15 := Y14.new (o := .tup (ra.map V.ref)) nrt
      have hrt : upd H14 rt (.tup (ra.map V.ref)) rt = some (.tup (ra.map V.ref)) := upd_same
      have T15 : TEx H14 (upd H14 rt (.tup (ra.map V.ref))) := TEx.new nrt
      generalize upd H14 rt (.tup (ra.map V.ref)) = H15 at *
      refine ⟨_, rfl, _, _, rfl, .inl ⟨SqL.of (hid_get (X15.get hoa)), fun ot not => ?_⟩⟩
      have X16 := X15.new (o := .tup (oa.map V.ref)) not
      have hot : upd H15 ot (.tup (oa.map V.ref)) ot = some (.tup (oa.map V.ref)) := upd_same
      have T16 : TEx H15 (upd H15 ot (.tup (oa.map V.ref))) := TEx.new not
      generalize upd H15 ot (.tup (oa.map V.ref)) = H16 at *
      refine ⟨(by show 4 ≤ sizeLine; decide), fun c nc => ?_⟩
      have T17 : TEx H16 (upd H16 c (.tup [.ref it, .ref gt, .ref rt, .ref ot])) := TEx.new nc
      have T1114 := TEx.px Y14
      have T1117 := TEx.px X16
      refine q c ⟨ins, GB, R, O⟩ G it gt rt ot gb ra oa _ ((X8.trans (Z11.trans X16)).new nc) ⟨upd_same, ?_, ?_, ?_, ?_, ?_, ?_, ?_⟩ ⟨?_, ?_, ?_, ?_, ?_, ?_, ?_, ?_⟩
      · exact T17 _ _ (T16 _ _ (T15 _ _ (T14 _ _ (TEx.px X13 _ _ hit))))
      · exact T17 _ _ (T16 _ _ (T15 _ _ hgt))
      · exact T17 _ _ (T16 _ _ hrt)
      · exact T17 _ _ hot
      · exact hGB.imp fun _ _ z => z.te (T14.trans (T15.trans (T16.trans T17)))
      · exact hR.imp fun _ _ z => z.te (T11.trans (T1117.trans T17))
      · exact hO.imp fun _ _ z => (T1117.trans T17) _ _ z
      · exact ⟨na + 1, by omega, by omega, eIns.symm⟩
      · exact ⟨nb, by omega, hRn.trans eRgs.symm⟩
      · show G.length ≤ most
        omega
      · intro k g hk
        have := hGw k g hk
        show GateWf (ins ++ R.map (·.name) ++ _) k g
        rw [hRn]; exact this
      · exact hGp
      · intro r hr
        show RegWf r ∧ r.net ∈ ins ++ R.map (·.name) ++ (List.range G.length).map (nm "g")
        rw [hRn, hGi, eN]; exact hRw r hr
      · exact ⟨nq, by omega, hOn⟩
      · intro o ho
        show o.2 ∈ ins ++ R.map (·.name) ++ (List.range G.length).map (nm "g")
        rw [hRn, hGi, eN]; exact hOw o ho
end
end G
/-! zip of two rows, each a list or a tuple -/
namespace G
open PySem PySem.Spec PyProof.Rows L2 Evl
def SqB (t : Bool) (K : PySem.W.Frag) (H : Hp) (a : Addr) (xs : List V) : Prop := if t = true then SqT K H a xs else SqL K H a xs
def ItB (t : Bool) (h : Heap) (it l : Addr) (i : Nat) : Prop := if t = true then h.IsTupleIter it l i else h.IsListIter it l i
theorem ItB.obj {t : Bool} {h : Heap} {it l : Addr} {i : Nat} (x : ItB t h it l i) : ∃ o, h.get? it = some o ∧ ∃ q, o.data = .fields q := by
  unfold ItB at x
  split at x
  · obtain ⟨o, ho, _, hd⟩ := x; exact ⟨o, ho, _, hd⟩
  · obtain ⟨o, ho, _, hd⟩ := x; exact ⟨o, ho, _, hd⟩
theorem ItB.to {t : Bool} {h h' : Heap} {it l : Addr} {i : Nat} (x : ItB t h it l i) (k : ∀ o, h.get? it = some o → h'.get? it = some o) : ItB t h' it l i := by
  unfold ItB at x ⊢
  split
  · rw [if_pos (by assumption)] at x; exact x.at k
  · rw [if_neg (by assumption)] at x; exact x.at k
theorem SqB.one {X : Cx} {pins : List (Addr × Obj)} {σ : L2.St} {H : Hp} {s : Shared} (I : Inv X pins σ H s) {t : Bool} {a : Addr} {xs ys : List V} (h : SqB t X.K H a xs) (h' : SqB t X.K H a ys) : xs = ys := by
  unfold SqB at h h'
  cases t with
  | true => exact I.tuple_inj h h'
  | false => exact I.list_inj h h'
theorem drawsB {X : Cx} {pins : List (Addr × Obj)} {σ : L2.St} {H : Hp} {s : Shared} (I : Inv X pins σ H s) (hh : X.A.handled = none) {t : Bool} {a it : Addr} {xs : List V} {i : Nat} (hq : SqB t X.K H a xs) (st : ItB t s.heap it a i) (hne : a ≠ it) :
    ∃ (items : List Value) (St : Nat → Heap → Prop), Vals xs items ∧ Draws X.prog X.w X.A.in1 it [it, a] items.toArray.size (fun i v => items.toArray[i]? = some v) St ∧ St i s.heap ∧ ∀ h', St (i + 1) h' → ItB t h' it a (i + 1) := by
  unfold SqB at hq
  unfold ItB at st ⊢
  cases t with
  | true =>
    obtain ⟨items, rv, p, _⟩ := I.tuple hq
    exact ⟨items, _, rv, Draws.tuple (A := X.A.in1) hh it a hne items.toArray, ⟨st, p⟩, fun h' z => z.1⟩
  | false =>
    obtain ⟨items, rv, p, _⟩ := I.list hq
    exact ⟨items, _, rv, Draws.list (A := X.A.in1) hh it a hne items.toArray, ⟨st, p.isList⟩, fun h' z => z.1⟩
/-- both rows as they stand at each turn, a new pair each -/
def ItM (t1 t2 : Bool) (K : PySem.W.Frag) (a b : Addr) : It :=
  ⟨fun i H => ∃ (xs ys : List V), SqB t1 K H a xs ∧ SqB t2 K H b ys ∧ i < xs.length ∧ i < ys.length,
   fun i H v H' => ∃ T x y, v = .ref T ∧ H T = none ∧ H' = upd H T (.tup [x, y]) ∧ (∀ xs, SqB t1 K H a xs → xs[i]? = some x) ∧ ∀ ys, SqB t2 K H b ys → ys[i]? = some y,
   fun i H => ∃ xs ys : List V, SqB t1 K H a xs ∧ SqB t2 K H b ys ∧ i ≤ xs.length ∧ i ≤ ys.length ∧ (i = xs.length ∨ i = ys.length)⟩
theorem turn_zipM {P : Program} {w : World} {K : PySem.W.Frag} {elts : List Expr} {kk : Nat} {tpos : Pos} {t1 t2 : Bool} {a b z TI TO i1 i2 : Addr} (S : ZipSep2 z TI TO i1 i2 [i1, a] [i2, b]) (na : a ≠ i1) (nb : b ≠ i2) :
    Turn P w K (.Tuple elts kk tpos) (ItM t1 t2 K a b) [z, TI, TO, i1, i2] z (fun i h => IsZip h z TI TO .none ∧ IsTupOf2 h TI (.ref i1) (.ref i2) ∧ (∃ x y, IsTupOf2 h TO x y) ∧ ItB t1 h i1 a i ∧ ItB t2 h i2 b i) where
  mem := by simp
  obj := fun i h st c hc => by
    obtain ⟨hz, hTI, ⟨x, y, hTO⟩, h1, h2⟩ := st
    obtain ⟨o1, e1, q1, d1⟩ := h1.obj
    obtain ⟨o2, e2, q2, d2⟩ := h2.obj
    have e' : c = z ∨ c = TI ∨ c = TO ∨ c = i1 ∨ c = i2 := by simpa using hc
    rcases e' with q | q | q | q | q <;> subst q
    · exact ⟨_, hz, fun v q => nomatch q⟩
    · exact ⟨_, hTI, fun v q => nomatch q⟩
    · exact ⟨_, hTO, fun v q => nomatch q⟩
    · exact ⟨o1, e1, fun v q => by rw [d1] at q; cases q⟩
    · exact ⟨o2, e2, fun v q => by rw [d2] at q; cases q⟩
  keep := fun i h h' st k => by
    obtain ⟨hz, hTI, ⟨x, y, hTO⟩, h1, h2⟩ := st
    exact ⟨k _ (by simp) _ hz, k _ (by simp) _ hTI, ⟨x, y, k _ (by simp) _ hTO⟩, h1.to (k i1 (by simp)), h2.to (k i2 (by simp))⟩
  item := by
    intro X hP hw hK hc i pins s σ H E I hf st hg
    subst hP hw hK
    obtain ⟨hz, hTI, ⟨x0, y0, hTO⟩, h1, h2⟩ := st
    obtain ⟨xs, ys, hqx, hqy, hx, hy⟩ := hg
    have hh : X.A.handled = none := I.ok.hd hc
    obtain ⟨its, St1, rv, D1, s1, n1⟩ := drawsB I hh hqx h1 na
    obtain ⟨its2, St2, rv2, D2, s2, n2⟩ := drawsB I hh hqy h2 nb
    have hxe : xs[i]? = some xs[i] := List.getElem?_eq_getElem hx
    have hye : ys[i]? = some ys[i] := List.getElem?_eq_getElem hy
    obtain ⟨u, hu, ru⟩ := rv.get hxe
    obtain ⟨u2, hu2, ru2⟩ := rv2.get hye
    have hzl : z < s.heap.objs.size := Heap.lt_size hz
    refine wpAny_pyNext_zipD2_item S D1 D2 hz hTI hTO s1 s2 (by have := rv.length; simp; omega) (by have := rv2.length; simp; omega) fun v1 v2 h' tk e1 e2 z' TO' t1' t2' hT hsz hk => ?_
    have ev1 : v1 = u := Option.some.inj (e1.symm.trans (by simpa using hu))
    have ev2 : v2 = u2 := Option.some.inj (e2.symm.trans (by simpa using hu2))
    subst ev1 ev2
    refine ⟨_, rfl, wpAny_letOwnedTupleGo_zip (s := { s with heap := h', toks := tk }) z' fun h'' z'' sb => ?_⟩
    have hT2 : h''.get? s.heap.objs.size = some { cls := .type "tuple", data := .seq #[v1, v2] } := (sb.2 _ (Nat.ne_of_gt hzl)).trans hT
    have made : ObjOk X.prog X.w (upd H s.heap.objs.size (.tup [xs[i], ys[i]])) h'' s.heap.objs.size (.tup [xs[i], ys[i]]) := ⟨(by show 2 ≤ sizeLine; decide), [v1, v2], .cons ru (.cons ru2 .nil), _, hT2, rfl, _, rfl⟩
    have old : ∀ c, c ∈ [z, TI, TO, i1, i2] → c < s.heap.objs.size := fun c hcm => by
      have e' : c = z ∨ c = TI ∨ c = TO ∨ c = i1 ∨ c = i2 := by simpa using hcm
      rcases e' with q | q | q | q | q <;> rw [q]
      · exact hzl
      · exact Heap.lt_size hTI
      · exact Heap.lt_size hTO
      · obtain ⟨_, e, _⟩ := h1.obj; exact Heap.lt_size e
      · obtain ⟨_, e, _⟩ := h2.obj; exact Heap.lt_size e
    have I1 : Inv X pins σ (upd H s.heap.objs.size (.tup [xs[i], ys[i]])) { s with heap := h'', toks := tk } :=
      I.turnedNew (ch := [z, TI, TO, i1, i2]) (fun c o nb q => by
        have out : c ≠ z ∧ c ≠ TI ∧ c ≠ TO ∧ c ≠ i1 ∧ c ≠ i2 := by simpa using nb
        exact (sb.2 c out.1).trans (hk c o out.1 out.2.2.1 out.2.2.2.1 out.2.2.2.2 q)) hf (Nat.le_refl _) made
    refine ⟨.ref s.heap.objs.size, _, I1, rfl, ⟨_, xs[i], ys[i], rfl, I.hok.fresh (Nat.le_refl _), rfl, fun l hl => (congrArg (·[i]?) (hqx.one I hl)).symm.trans hxe, fun l hl => (congrArg (·[i]?) (hqy.one I hl)).symm.trans hye⟩,
      ⟨z'', (sb.2 _ S.TIz).trans (hk _ _ S.TIz S.TITO S.TIi1 S.TIi2 hTI), ⟨v1, v2, (sb.2 _ S.TOz).trans TO'⟩, (n1 _ t1').to fun o q => (sb.2 _ S.zi1.symm).trans q, (n2 _ t2').to fun o q => (sb.2 _ S.zi2.symm).trans q⟩, fun c hcm => ?_⟩
    rw [upd_ne (Nat.ne_of_lt (old c hcm))]
    exact (hf c hcm).1
  done := by
    intro X hP hw hK hc i pins s σ H E I hf st hg
    subst hP hw hK
    obtain ⟨hz, hTI, ⟨x0, y0, hTO⟩, h1, h2⟩ := st
    obtain ⟨xs, ys, hqx, hqy, hlx, hly, hend⟩ := hg
    have hh : X.A.handled = none := I.ok.hd hc
    obtain ⟨its, St1, rv, D1, s1, n1⟩ := drawsB I hh hqx h1 na
    obtain ⟨its2, St2, rv2, D2, s2, n2⟩ := drawsB I hh hqy h2 nb
    have l1 := rv.length
    have l2 := rv2.length
    refine wpAny_pyNext_zipD2_end S D1 D2 hz hTI hTO s1 s2 (by simp; omega) (by simp; omega) (by simp; omega) fun h' tk hk => ⟨rfl, I.turnedL (t' := tk) (ch := [z, TI, TO, i1, i2]) (fun c o nb q => ?_) hf⟩
    have out : c ≠ z ∧ c ≠ TI ∧ c ≠ TO ∧ c ≠ i1 ∧ c ≠ i2 := by simpa using nb
    exact hk c o out.1 out.2.2.1 out.2.2.2.1 out.2.2.2.2 q
  self := fun A i s Q E st h => wpAny_pyIter_zip st.1 h
def iZipM (K : PySem.W.Frag) (t1 t2 : Bool) (ta : TA) : TI := fun σ H R => ta σ H fun vs H1 => ∃ a b xs ys, vs = [.ref a, .ref b] ∧ SqB t1 K H1 a xs ∧ SqB t2 K H1 b ys ∧ R (ItM t1 t2 K a b) H1
theorem nin2 {x y z : Nat} (h1 : x ≠ y) (h2 : x ≠ z) : x ∉ [y, z] := by simp [h1, h2]
theorem nin2' {x y z : Nat} (h1 : x ≠ y) (h2 : x ≠ z) : ¬ (x : Addr) ∈ ([y, z] : List Addr) := nin2 h1 h2
theorem sepZ {n a b : Nat} (ha : a < n) (hb : b < n) : ZipSep2 (n + 4) (n + 2) (n + 3) n (n + 1) [n, a] [n + 1, b] :=
  have e1 : n + 2 ≠ n + 4 := by omega
  have e2 : n + 3 ≠ n + 4 := by omega
  have e3 : n + 2 ≠ n + 3 := by omega
  have e4 : n + 2 ≠ n := by omega
  have e5 : n + 2 ≠ n + 1 := by omega
  have f1 : n + 4 ≠ n := by omega
  have f2 : n + 4 ≠ a := by omega
  have f3 : n + 3 ≠ n := by omega
  have f4 : n + 3 ≠ a := by omega
  have f5 : n + 4 ≠ n + 1 := by omega
  have f6 : n + 4 ≠ b := by omega
  have f7 : n + 3 ≠ n + 1 := by omega
  have f8 : n + 3 ≠ b := by omega
  have f9 : n ≠ n + 1 := by omega
  have g1 : n ≠ b := by omega
  have g2 : n + 1 ≠ n := by omega
  have g3 : n + 1 ≠ a := by omega
  ⟨e1, e2, e3, e4, List.mem_cons_self .., nin2' f1 f2, nin2' f3 f4, e5, List.mem_cons_self .., nin2' f5 f6, nin2' f7 f8, nin2' f9 g1, nin2' g2 g3⟩
theorem pi_zipM {X : Cx} (t1 t2 : Bool) {e e2 : Expr} {ta : TA} {p pos tpos : Pos} {elts : List Expr} {kk : Nat} (hg : Gl X "zip") (hm : X.mg "zip" = none) (ha : PA X [e, e2] ta)
    (hs : starEach [e, e2] X.env = (false, eval e X.env) :: starEach [e2] X.env := by rfl) (hpl : (backTo pos (starEach [e2] X.env)).any (·.1) = false := by rfl) :
    PI X (.Tuple elts kk tpos) (.Call (.Name "zip" p) [e, e2] [] pos) (iZipM X.K t1 t2 ta) := by
  refine ⟨fun pins s σ H R I h => Call_ (ld_blt I hg hm PyProof.Rows.boot_zip (PyProof.Rows.callWith_type1 (thn (ha.run pos pins s σ H _ I h) fun us s1 ⟨vs, H1, I1, r1, q1⟩ => ?_) hs hpl))⟩
  obtain ⟨a, b, xs, ys, rfl, hqx, hqy, q⟩ := q1
  obtain _ | ⟨r, _ | ⟨r', _ | _⟩⟩ := r1
  cases r
  cases r'
  have beg : ∀ (t : Bool) (c : Addr) (zs : List V), SqB t X.K H1 c zs → ∃ (o : Obj) (Hh : Heap → Prop), Begins (.ref c) o Hh ∧ Hh s1.heap ∧ c < s1.heap.objs.size ∧ ∀ (h' : Heap) (it : Addr), h'.get? it = some o → ItB t h' it c 0 := fun t c zs hq => by
    unfold SqB at hq
    unfold ItB
    cases t with
    | true =>
      obtain ⟨items, _, p, _⟩ := I1.tuple hq
      obtain ⟨o, ho, _⟩ := id p
      exact ⟨_, _, begins_tuple c items.toArray, p, Heap.lt_size ho, fun h' it e => ⟨_, e, rfl, rfl⟩⟩
    | false =>
      obtain ⟨items, _, p, _⟩ := I1.list hq
      exact ⟨_, _, begins_list c items.toArray, p.isList, p.lt, fun h' it e => ⟨_, e, rfl, rfl⟩⟩
  obtain ⟨o1, P1, B1, p1, la, k1⟩ := beg t1 a xs hqx
  obtain ⟨o2, P2, B2, p2, lb, k2⟩ := beg t2 b ys hqy
  refine zip_begins2 B1 B2 p1 p2 fun h' hz hTI hTO g1 g2 hsz hk => wpAny_pyIter_zip hz ?_
  have I2 : Inv X pins σ H1 { s1 with heap := h' } := I1.kept (t' := s1.toks) hk
  refine ⟨s1.heap.objs.size + 4, [s1.heap.objs.size + 4, s1.heap.objs.size + 2, s1.heap.objs.size + 3, s1.heap.objs.size, s1.heap.objs.size + 1], _, _, H1, rfl, I2, turn_zipM (t1 := t1) (t2 := t2) (sepZ la lb) (Nat.ne_of_lt la) (Nat.ne_of_lt (Nat.lt_succ_of_lt lb)), ⟨hz, hTI, ⟨_, _, hTO⟩, k1 _ _ g1, k2 _ _ g2⟩, fun c hcm => ?_, q⟩
  have hle : s1.heap.objs.size ≤ c := by
    have e' : c = s1.heap.objs.size + 4 ∨ c = s1.heap.objs.size + 2 ∨ c = s1.heap.objs.size + 3 ∨ c = s1.heap.objs.size ∨ c = s1.heap.objs.size + 1 := by simpa using hcm
    rcases e' with z | z | z | z | z <;> rw [z]
    · exact Nat.le_add_right _ _
    · exact Nat.le_add_right _ _
    · exact Nat.le_add_right _ _
    · exact Nat.le_refl _
    · exact Nat.le_add_right _ _
  exact I1.fpOk hle (I1.hok.fresh hle)
theorem kPiZipM {X : Cx} {K : PySem.W.Frag} (t1 t2 : Bool) {e e2 : Expr} {ta : TA} {p pos tpos : Pos} {elts : List Expr} {kk : Nat} (h : X.K = K) (hg : Gl X "zip") (hm : X.mg "zip" = none) (ha : PA X [e, e2] ta)
    (hs : starEach [e, e2] X.env = (false, eval e X.env) :: starEach [e2] X.env := by rfl) (hpl : (backTo pos (starEach [e2] X.env)).any (·.1) = false := by rfl) :
    PI X (.Tuple elts kk tpos) (.Call (.Name "zip" p) [e, e2] [] pos) (iZipM K t1 t2 ta) := by subst h; exact pi_zipM t1 t2 hg hm ha hs hpl
theorem walk_zipM {t1 t2 : Bool} {K : PySem.W.Frag} {a b : Addr} {xs ys : List V} {n : Nat} (hx : xs.length = n) (hy : ys.length = n) : Walk (ItM t1 t2 K a b) n (fun H => SqB t1 K H a xs ∧ SqB t2 K H b ys) (YPair (fun i => xs[i]?) (fun i => ys[i]?)) := by
  refine ⟨fun i H hi q => ⟨xs, ys, q.1, q.2, by omega, by omega⟩, fun H q => ⟨xs, ys, q.1, q.2, by omega, by omega, .inl hx.symm⟩, fun i H v H' hi q y => ?_⟩
  obtain ⟨T, x, y, h1, h2, h3, h4, h5⟩ := y
  exact ⟨T, x, y, h1, h2, h3, h4 xs q.1, h5 ys q.2⟩
theorem wipe_in {σ : L2.St} {j : Nat} : ∀ {vs : List Nat}, j ∈ vs → j < σ.length → (wipe σ vs)[j]? = some none
  | v :: vs, h, hl => by
    show ((wipe σ vs).set v none)[j]? = some none
    by_cases e : v = j
    · subst e
      rw [List.getElem?_set_self (by rw [wipe_length]; exact hl)]
    · rw [List.getElem?_set_ne e]
      exact wipe_in ((List.mem_cons.mp h).resolve_left fun z => e z.symm) hl
/-- what stands in a slot that is wiped does not matter -/
theorem wipe_set {σ : L2.St} {i : Nat} {x : Option V} {vs : List Nat} (h : i ∈ vs) : wipe (σ.set i x) vs = wipe σ vs := by
  refine List.ext_getElem? fun j => ?_
  by_cases hl : j < σ.length
  · by_cases hj : j ∈ vs
    · rw [wipe_in hj (by rw [List.length_set]; exact hl), wipe_in hj hl]
    · rw [wipe_out hj, wipe_out hj, List.getElem?_set_ne (fun z => hj (by rw [← z]; exact h))]
  · rw [List.getElem?_eq_none (by rw [wipe_length, List.length_set]; omega), List.getElem?_eq_none (by rw [wipe_length]; omega)]
theorem wipe_wipe {σ : L2.St} {vs : List Nat} : wipe (wipe σ vs) vs = wipe σ vs := by
  refine List.ext_getElem? fun j => ?_
  by_cases hl : j < σ.length
  · by_cases hj : j ∈ vs
    · rw [wipe_in hj (by rw [wipe_length]; exact hl), wipe_in hj hl]
    · rw [wipe_out hj, wipe_out hj]
  · rw [List.getElem?_eq_none (by rw [wipe_length, wipe_length]; omega), List.getElem?_eq_none (by rw [wipe_length]; omega)]
end G
namespace G
open PySem PySem.Spec PyProof.Rows L2 Evl
/-! ## methods of built-in types within a suite: the written part by its letter -/
theorem kBm {X : Cx} {K : PySem.W.Frag} {T name id : String} {r : V → List V → Hp → VK → Prop} {o e : Expr} {es : List Expr} {to_ : TE} {t : TA} {apos cpos : Pos} (h : X.K = K) (p1 : PlainAttrs T) (p2 : Slot T name id) (p3 : typeOf (.builtin id) = pure (.type "method_descriptor")) (p4 : MtR X id r) (p5 : PE X o to_) (p6 : PA X (e :: es) t)
    (p7 : attributeBase o name X.env (eval o X.env) = eval o X.env := by rfl) (p8 : ((backTo cpos (starEach (e :: es) X.env)).all (fun x => !x.1) && (backToKw cpos (keywordEach [] X.env)).all (fun x => x.1.isSome) && decide ((e :: es).length + ([] : List Keyword).length + (if ([] : List Keyword).isEmpty then 0 else 1) < 30)) = true := by rfl)
    (p9 : (apos.endLine == cpos.line) = true := by rfl) (p10 : starEach (e :: es) X.env = (false, eval e X.env) :: starEach es X.env := by rfl) (p11 : (backTo cpos (starEach es X.env)).any (·.1) = false := by rfl) : PE X (.Call (.Attribute o name apos) (e :: es) [] cpos) (tBM K T r to_ t) := by
  subst h
  exact pe_bm p1 p2 p3 p4 p5 p6 p7 p8 p9 p10 p11
theorem kMtIndex {X : Cx} {K : PySem.W.Frag} (h : X.K = K) : MtR X "list.index" (rIndex K) := by subst h; exact mt_index
end G
namespace G
open PySem PySem.Spec PyProof.Rows L2 Evl
/-! ## own classes of errors -/
def HasX (P : Program) (w : World) (K : PySem.W.Frag) (mg : Str → Option Value) (base : Heap) (k : Nat) (x : Str) (ps : List Str) (sp : Sp) : Prop :=
  ∃ (f : Addr) (fd : FuncData), FnOk P w K mg base (L2.CX P w) k f fd ps sp ∧ mg x = some (.ref f) ∧ PySem.W.keepIn K (.ref f) = true ∧ Binds K fd ps []
theorem passX0 {X : Cx} {P : Program} {w : World} : Passes (L2.CX P w) X (fun _ _ _ => False) := fun _ _ _ _ _ _ _ h => by
  obtain ⟨_, _, _, _, _, _, _, _, _, _, _, _, h⟩ := h
  exact h.elim
/-- an own class over ValueError without __init__, at C -/
structure ExcT (K : PySem.W.Frag) (mg : Str → Option Value) (x : Str) (C : Addr) : Prop where
  gC : mg x = some (.ref C)
  xP : PySem.W.excIn K C [.type "ValueError", .type "Exception", .type "BaseException", .type "object"] "ValueError.__new__" = true
  kC : PySem.W.keepIn K (.ref C) = true
  bC : PySem.W.subIn K (.ref C) (.type "BaseException") = some true
  tC : PySem.W.typeIn K (.ref C) = some (.type "type")
/-- what an except clause asks of the class that it names -/
structure ExcH (K : PySem.W.Frag) (mg : Str → Option Value) (x : Str) (C : Addr) : Prop where
  u : ExcT K mg x C
  dict : PySem.W.hasDictIn K C = true
  self : PySem.W.subIn K (.ref C) (.ref C) = some true
theorem ExcH.hit {K : PySem.W.Frag} {mg : Str → Option Value} {x : Str} {C : Addr} (U : ExcH K mg x C) : PySem.W.exmOne K (.ref C) (.ref C) = some true := PySem.W.exm_ref U.u.bC U.dict U.u.tC U.self
end G
namespace G
open PySem PySem.Spec PyProof.Rows L2 Evl
/-! ## own errors: caught by name or by a class above, asked for their class -/
structure ExcI (K : PySem.W.Frag) (mg : Str → Option Value) (x : Str) (C : Addr) : Prop where
  u : ExcT K mg x C
  dict : PySem.W.hasDictIn K C = true
  self : PySem.W.subIn K (.ref C) (.ref C) = some true
  isc : ExcC K C
def IsK (K : PySem.W.Frag) (mg : Str → Option Value) (C : Addr) (d : Str) (b : Bool) : Prop := ∃ D : Addr, mg d = some (.ref D) ∧ PySem.W.kitOne K (.ref C) (.ref D) = some b
def CatchK (K : PySem.W.Frag) (mg : Str → Option Value) (C : Addr) (s : Str) : Prop := ∃ D : Addr, mg s = some (.ref D) ∧ PySem.W.exmOne K (.ref C) (.ref D) = some true
theorem ExcI.hit {K : PySem.W.Frag} {mg : Str → Option Value} {x : Str} {C : Addr} (U : ExcI K mg x C) : PySem.W.exmOne K (.ref C) (.ref C) = some true := PySem.W.exm_ref U.u.bC U.dict U.u.tC U.self
theorem IsK.at_ {K : PySem.W.Frag} {mg : Str → Option Value} {C D : Addr} {d : Str} {b : Bool} (h : IsK K mg C d b) (g : mg d = some (.ref D)) : PySem.W.kitOne K (.ref C) (.ref D) = some b := by
  obtain ⟨D', g', k⟩ := h
  rw [g] at g'
  cases g'; exact k
theorem CatchK.at_ {K : PySem.W.Frag} {mg : Str → Option Value} {C D : Addr} {s : Str} (h : CatchK K mg C s) (g : mg s = some (.ref D)) : PySem.W.exmOne K (.ref C) (.ref D) = some true := by
  obtain ⟨D', g', k⟩ := h
  rw [g] at g'
  cases g'; exact k
theorem pe_ex {X : Cx} {e : Expr} {α : Type} {p : α → Prop} {t : α → TE} (h : ∀ x, p x → PE X e (t x)) : PE X e (fun σ H Q => ∃ x, p x ∧ t x σ H Q) := by
  refine ⟨fun ps s σ H Q I z => ?_⟩
  obtain ⟨x, px, hx⟩ := z
  exact (h x px).run ps s σ H Q I hx
/-- isinstance of the error that the suite holds: whichever own error it is -/
theorem pe_isE {X : Cx} {a : Addr} {oe : Obj} {pn : List (Addr × Obj)} {cls : Value} {dd : Option Addr} {e : Expr} {t : Addr → TE} (hz : Zc cls dd oe) (hf : ∃ vs, oe.data = .fields vs)
    (h : ∀ D : Addr, Zc (.ref D) none oe → ExcC X.K D → PE (X.suite a ((a, oe) :: pn)) e (t D)) : PE (X.suite a ((a, oe) :: pn)) e (fun σ H Q => ∃ D : Addr, (cls = .ref D ∧ dd = none ∧ ExcC X.K D) ∧ t D σ H Q) :=
  pe_ex (p := fun D => cls = .ref D ∧ dd = none ∧ ExcC X.K D) fun D z => by
    obtain ⟨rfl, rfl, ic⟩ := z
    exact h D hz ic
/-! ## methods and classes called where what is raised is taken at the slots -/
section
variable {X : Cx} {CX : CXT} {k : Nat} {f C : Addr} {fd : FuncData} {ps : List Str} {sp : Sp} {dvs : List V} {ds : List Value} {E : L2.St → XK} {x m : Str} {p pos apos : Pos} {e o : Expr} {es : List Expr} {to_ : TE} {t : TA}
def tMethX (C : Addr) (m : Str) (sp : Sp) (dvs : List V) (E : L2.St → XK) (to_ : TE) (t : TA) : TE := fun σ H Q => to_ σ H fun x H1 => ∃ a dx fs, x = .ref a ∧ H1 a = some (.ins C dx fs) ∧ fs.lookup m = none ∧ t σ H1 fun vs H2 => sp (x :: (vs ++ dvs)) H2 Q (E σ)
def tMakeX (C : Addr) (sp : Sp) (dvs : List V) (E : L2.St → XK) (t : TA) : TE := fun σ H Q => t σ H fun vs H1 => ∀ x dx, H1 x = none → H1 dx = none → dx ≠ x → sp (.ref x :: (vs ++ dvs)) (upd (upd H1 dx (.own x)) x (.ins C dx [])) (fun v H2 => v = .non ∧ Q (.ref x) H2) (E σ)
theorem pe_methX {pl : Sem Bool} (ho : PE X o to_) (cc : Cls X.K C) (mm : Meth X.K C m f) (Fk : FnOk X.prog X.w X.K X.mg X.base CX k f fd ps sp) (rm : Room k X.A) (bd : Binds X.K fd ps ds) (dv : Vals dvs ds)
    (px : ∀ σ, PassesAt CX X σ (E σ)) (pa : PA X (e :: es) t) (s1 : starEach (e :: es) X.env = (false, eval e X.env) :: starEach es X.env := by rfl) (s2 : (backTo pos (starEach es X.env)).any (·.1) = false := by rfl)
    (s3 : eval (.Call (.Attribute o m apos) (e :: es) [] pos) X.env = (do let ov ← eval o X.env; standAt apos.atName; let (f, first) ← holding [ov] (getMethod ov m pl); callWith pos f first (backTo pos (starEach (e :: es) X.env)) (backToKw pos (keywordEach [] X.env))) := by rfl) :
    PE X (.Call (.Attribute o m apos) (e :: es) [] pos) (tMethX C m sp dvs E to_ t) := by
  refine ⟨fun pins st σ H Q I z => PySem.W.methodCall_KW (pl := pl) (thn (ho.run pins st σ H _ I z) fun q0 st1 ⟨y, H1, I1, ry, b, dx, fl, ey, eb, lk, z1⟩ => ?_) s3⟩
  subst ey
  cases (show q0 = Value.ref b from ry)
  exact getmeth_ok I1 eb cc mm lk (PySem.W.callWith_K (first := [.ref b]) (h₀ := X.base) I.ok.mod.kin mm.kp (thn (pa.run pos pins st1 σ H1 _ I1 z1) fun ws st2 ⟨vs, H2, I2, rs, z2⟩ => ⟨I2.kIn, run_fnSD (us := .ref b :: ws) (vs := .ref b :: vs) Fk rm bd dv (px σ) I2 (.cons rfl rs) z2⟩) s1 s2)
theorem run_makeX {pins : List (Addr × Obj)} {σ : L2.St} {H : Hp} {st : Shared} {Q : VK} {us : List Value} {vs : List V} (M : Mk X.K C f) (Fk : FnOk X.prog X.w X.K X.mg X.base CX k f fd ps sp) (rm : Room (k + 1) X.A) (bd : Binds X.K fd ps ds) (dv : Vals dvs ds)
    (px : PassesAt CX X σ (E σ)) (I : Inv X pins σ H st) (rs : Vals vs us)
    (z : ∀ x dx, H x = none → H dx = none → dx ≠ x → sp (.ref x :: (vs ++ dvs)) (upd (upd H dx (.own x)) x (.ins C dx [])) (fun v H2 => v = .non ∧ Q (.ref x) H2) (E σ)) :
    wpAny (model X.prog X.w) X.A (call (.ref C) us) (EP X pins σ Q) X.xe st := by
  have z1 := z (st.heap.objs.size + 1) st.heap.objs.size (I.hok.fresh (Nat.le_succ _)) (I.hok.fresh (Nat.le_refl _)) (Nat.ne_of_lt (Nat.lt_succ_self _))
  have J := Inv.made (C := C) I
  have rr : Vals (V.ref (st.heap.objs.size + 1) :: (vs ++ dvs)) (Value.ref (st.heap.objs.size + 1) :: (us ++ ds)) := .cons rfl (rs.append dv)
  have len : (Value.ref (st.heap.objs.size + 1) :: us ++ ds).length = ps.length := (rr.length.symm.trans (Fk.len _ _ _ _ z1))
  refine wpAny_call (make_map (f := f) I.kIn M.makes M.init (beq_iff_eq.mp M.fn) (codeAny_mono (Fk.run _ X.stack _ _ ⟨Value.ref (st.heap.objs.size + 1) :: us, []⟩ (Value.ref (st.heap.objs.size + 1) :: (us ++ ds)) _ _ (E σ) (rm.make C us []) (J.env0.make C us []) (bd _ (Value.ref (st.heap.objs.size + 1) :: us) J.kIn len) rr z1) fun r st' h => ?_))
  match r, h with
  | .error er, h => exact px pins _ _ er st' J h
  | .ok (.ret u), h =>
    obtain ⟨v, H', I3, rv, ev, q3⟩ := J.after h
    subst ev
    exact ⟨rv, ⟨V.ref (st.heap.objs.size + 1), H', I3, rfl, q3⟩⟩
  | .ok .next, h => exact h.elim
  | .ok .brk, h => exact h.elim
  | .ok .cont, h => exact h.elim
theorem pe_makeX (M : Mk X.K C f) (Fk : FnOk X.prog X.w X.K X.mg X.base CX k f fd ps sp) (rm : Room (k + 1) X.A) (gl : Gl X x) (gm : X.mg x = some (.ref C)) (bd : Binds X.K fd ps ds) (dv : Vals dvs ds) (px : ∀ σ, PassesAt CX X σ (E σ)) (pa : PA X (e :: es) t)
    (s0 : (x == ("__debug__" : Str)) = false := by decide) (s1 : starEach (e :: es) X.env = (false, eval e X.env) :: starEach es X.env := by rfl) (s2 : (backTo pos (starEach es X.env)).any (·.1) = false := by rfl) : PE X (.Call (.Name x p) (e :: es) [] pos) (tMakeX C sp dvs E t) :=
  ⟨fun pins st σ H Q I z => wpAny_Call_Name_kw (ld_glob I gl gm (PySem.W.callWith_K (h₀ := X.base) I.ok.mod.kin M.kp (thn (pa.run pos pins st σ H _ I z) fun us st1 ⟨vs, H1, I1, r, q⟩ => ⟨I1.kIn, run_makeX M Fk rm bd dv (px σ) I1 r q⟩) s1 s2) s0)⟩
end
end G
namespace G
open PySem PySem.Spec PyProof.Rows L2 Evl
/-! ## own classes: len, methods with keywords -/
/-- statements that are never reached -/
theorem pss_false {X : Cx} {ss : List Stmt} : PSs X ss (fun _ _ _ => False) := ⟨fun _ _ _ _ _ _ h => h.elim⟩
def rLenOwn (C : Addr) (sp : Sp) (E : XK) : List V → Hp → VK → Prop := fun vs H Q => ∃ (a dx : Addr) (fs : List (Str × V)), vs = [.ref a] ∧ H a = some (.ins C dx fs) ∧ sp [.ref a] H (fun v H' => ∃ n : Nat, v = .int n ∧ n < 2 ^ 62 ∧ Q (.int n) H') E
theorem call_lenOwn {X : Cx} {CX : CXT} {C f : Addr} {fd : FuncData} {k : Nat} {sp : Sp} {E : XK} (h1 : PySem.W.findIn X.K (.ref C) "__len__" = some (some (.ref f))) (h2 : PySem.W.isFn X.K (.ref f) = true) (Fk : FnOk X.prog X.w X.K X.mg X.base CX k f fd ["self"] sp) (rm : Room (k + 1) X.A) (bd : Binds X.K fd ["self"] []) (px : Passes CX X.nox E) : CallR X (.builtin "len") (rLenOwn C sp E) := by
  intro pins s σ H vs us Q I r h
  obtain ⟨a, dx, fs, rfl, ea, hq⟩ := h
  obtain _ | ⟨r1, _ | _⟩ := r
  cases r1
  obtain ⟨mA, O, _⟩ := ins_get I.hok ea
  obtain ⟨od, J, _⟩ := O.look
  refine Calls.call_function_entry PySem.kind_len PySem.plain_len PySem.entry_len (PySem.args_len1 _) (by
    unfold Builtin.«len»
    refine wpAny_bind (m := oneArg "len" _) (wpAny_pure (wpAny_bind (m := callSpecial? (.ref a) (Str.ofString "__len__")) (PySem.W.special_fn I.kIn J h1 (beq_iff_eq.mp h2) (wpAny_call (codeAny_mono (Fk.run X.A.in1 X.stack s H ⟨[.ref a], []⟩ [.ref a] [.ref a] _ E rm.in1 I.env0.in1 (bd s [.ref a] I.kIn rfl) (.cons rfl .nil) hq) fun r s' hr => ?_)))))
    match r, hr with
    | .error er, hr => exact False.elim (px pins σ H s er s' (I.wish _) hr)
    | .ok .next, hr => exact hr.elim
    | .ok .brk, hr => exact hr.elim
    | .ok .cont, hr => exact hr.elim
    | .ok (.ret u), hr =>
      obtain ⟨v, H', I3, rv, n, rfl, hn, q3⟩ := I.after hr
      obtain ⟨t, rfl⟩ := rv
      refine wpAny_bind (wpAny_holding (wpAny_pure (wpAny_bind (wpAny_letGo ?_))))
      show wpAny _ _ (if ((n : Nat) : Int) < 0 then _ else _) _ _ _
      rw [if_neg (by omega)]
      show wpAny _ _ (if ((n : Nat) : Int) ≥ 2 ^ 63 then _ else _) _ _ _
      rw [if_neg (by omega)]
      exact wpAny_bind (wpAny_mkInt (wpAny_pure ⟨_, rfl, ⟨.int n, H', I3.tok _, ⟨_, rfl⟩, q3⟩⟩)))
section
variable {X : Cx} {CX : CXT} {k n : Nat} {f C : Addr} {fd : FuncData} {ps ks : List Str} {sp : Sp} {E : L2.St → XK} {m : Str} {pos apos : Pos} {e o : Expr} {es : List Expr} {kws : List Keyword} {to_ : TE} {t tk : TA} {g : List Value → List Value → List Value} {gV : List V → List V → List V}
/-- o.m(e, .., k = v): n arguments besides the object -/
def tMethK (C : Addr) (m : Str) (n q : Nat) (sp : Sp) (gV : List V → List V → List V) (E : L2.St → XK) (to_ : TE) (t tk : TA) : TE := fun σ H Q => to_ σ H fun x H1 => ∃ a dx fs, x = .ref a ∧ H1 a = some (.ins C dx fs) ∧ fs.lookup m = none ∧ t σ H1 fun vs H2 => tk σ H2 fun zs H3 => vs.length = n ∧ zs.length = q ∧ sp (gV (x :: vs) zs) H3 Q (E σ)
theorem pe_methK {pl : Sem Bool} (ho : PE X o to_) (cc : Cls X.K C) (mm : Meth X.K C m f) (Fk : FnOk X.prog X.w X.K X.mg X.base CX k f fd ps sp) (rm : Room k X.A) (kb : KBn X.K fd ps (n + 1) ks g gV)
    (px : ∀ σ, PassesAt CX X σ (E σ)) (pa : PA X (e :: es) t) (pk : PK X kws tk) (s0 : (backToKw pos (keywordEach kws X.env)).all (·.1.isSome) = true := by rfl) (s4 : (backToKw pos (keywordEach kws X.env)).filterMap (·.1) = ks := by rfl)
    (s1 : starEach (e :: es) X.env = (false, eval e X.env) :: starEach es X.env := by rfl) (s2 : ((backTo pos (starEach (e :: es) X.env)).any (·.1) || (backToKw pos (keywordEach kws X.env)).any (·.1.isNone)) = false := by rfl)
    (s3 : eval (.Call (.Attribute o m apos) (e :: es) kws pos) X.env = (do let ov ← eval o X.env; standAt apos.atName; let (f, first) ← holding [ov] (getMethod ov m pl); callWith pos f first (backTo pos (starEach (e :: es) X.env)) (backToKw pos (keywordEach kws X.env))) := by rfl) :
    PE X (.Call (.Attribute o m apos) (e :: es) kws pos) (tMethK C m n ks.length sp gV E to_ t tk) := by
  refine ⟨fun pins st σ H Q I z => PySem.W.methodCall_KW (pl := pl) (thn (ho.run pins st σ H _ I z) fun q0 st1 ⟨y, H1, I1, ry, b, dx, fl, ey, eb, lk, z1⟩ => ?_) s3⟩
  subst ey
  cases (show q0 = Value.ref b from ry)
  refine getmeth_ok I1 eb cc mm lk (PySem.W.callWith_KW (first := [.ref b]) (h₀ := X.base) I.ok.mod.kin mm.kp s0 (thn (pa.run pos pins st1 σ H1 _ I1 z1) fun ws st2 ⟨vs, H2, I2, rs, z2⟩ => thn (pk.run pos pins st2 σ H2 _ I2 z2) fun us st3 ⟨zs, H3, I3, rz, l1, l2, z3⟩ => ⟨I3.kIn, ?_⟩) s2 s1)
  rw [s4]
  have rr : Vals (V.ref b :: vs) (Value.ref b :: ws) := .cons rfl rs
  refine wpAny_call (codeAny_mono (Fk.run X.A X.stack st3 H3 ⟨Value.ref b :: ws, ks.zip us⟩ (g (Value.ref b :: ws) us) (gV (V.ref b :: vs) zs) Q (E σ) rm I3.env0 (kb.to st3 (Value.ref b :: ws) us I3.kIn (by rw [List.length_cons, ← rs.length, l1]) (rz.length.symm.trans l2)) (kb.rel rr rz) z3) fun r st' h => ?_)
  match r, h with
  | .error er, h => exact px σ pins H3 st3 er st' I3 h
  | .ok (.ret u), h => exact I3.after h
  | .ok .next, h => exact h.elim
  | .ok .brk, h => exact h.elim
  | .ok .cont, h => exact h.elim
/-- a keyword-only parameter, given -/
theorem Fun.kbn1 {K : PySem.W.Frag} {x qual y : Str} {st : Stmt} {f : Addr} {fd : FuncData} {ps : List Str} {n : Nat} (F : Fun K x qual st f fd)
    (h : ∀ (kV doc pm : Value) (an : Option Addr) (cdv ct w : Value) (us : List Value), us.length = n → bindArgs (PySem.W.fnOf x qual (defArgs st) (defBody st) (defScope st) .none kV doc pm an cdv ct) ⟨us, [(y, w)]⟩ = pure (ps.zip (us ++ [w]))) : KBn K fd ps n [y] (fun us ws => us ++ ws) (fun vs zs => vs ++ zs) := by
  obtain ⟨oc, od, kV, doc, pm, an, cdv, ct, osl, rfl, lk, hcd⟩ := F.ex
  refine ⟨fun s us ws _ l1 l2 => ?_, fun r1 r2 => r1.append r2⟩
  match ws, l2 with
  | [w], _ => exact .of_eq (h kV doc pm an cdv ct w us l1)
theorem passAt0 {X : Cx} {P : Program} {w : World} {σ : L2.St} : PassesAt (L2.CX P w) X σ (fun _ _ _ => False) := fun pins H s e s' I h => passX0 (X := X) pins σ H s e s' I h
end
end G
namespace G
open PySem PySem.Spec PyProof.Rows L2 Evl TL
def rTupOf (K : PySem.W.Frag) : List V → Hp → VK → Prop := fun xs H Q => ∃ p ys, xs = [.ref p] ∧ ((SqL K H p ys ∧ ∀ l, H l = none → Q (.ref l) (upd H l (.tup ys))) ∨ (SqT K H p ys ∧ Q (.ref p) H))
theorem kTupOf {X : Cx} {K : PySem.W.Frag} (h : X.K = K) : CallR X (.type "tuple") (rTupOf K) := by subst h; exact call_tuple_of
end G
namespace G
open PySem PySem.Spec PyProof.Rows L2 Evl TL
/-! ## circuits with other ranges -/
def RowAt (H : Hp) (a : Addr) (r : List (Int × Int)) : Prop := ∃ pl : List Addr, (H a = some (.lst (pl.map V.ref)) ∨ H a = some (.tup (pl.map V.ref))) ∧ All2 (IntsAt H) pl r
def withD (gs : List GateD) (R : List (List (Int × Int))) : List GateD := List.zipWith (fun g r => { g with rng := r }) gs R
theorem withD_snoc {gs : List GateD} {R : List (List (Int × Int))} {j : Nat} {g : GateD} {r : List (Int × Int)} (hg : gs[j]? = some g) (hr : R[j]? = some r) : withD (gs.take (j + 1)) (R.take (j + 1)) = withD (gs.take j) (R.take j) ++ [{ g with rng := r }] := by
  have h1 := (List.getElem?_eq_some_iff.mp hg).1
  have h2 := (List.getElem?_eq_some_iff.mp hr).1
  unfold withD
  rw [take_snoc1 hg, take_snoc1 hr, List.zipWith_append (by rw [List.length_take, List.length_take]; omega)]
  rfl
structure TxtA (mg : Str → Option Value) : Prop where
  zip : mg "zip" = none
  tuple : mg "tuple" = none
section
variable {P : Program} {w : World} {K : PySem.W.Frag} {mg : Str → Option Value} {base : Heap}
def spWith : Sp := fun vs H Q _ => ∃ (c l : Addr) (d : CircD) (R : List (List (Int × Int))) (rl : List Addr) (it gt rt ot : Addr) (ga ra oa : List Addr), vs = [.ref c, .ref l] ∧ CircAt H c d it gt rt ot ga ra oa ∧ H l = some (.lst (rl.map V.ref)) ∧ All2 (RowAt H) rl R ∧ R.length = d.gates.length ∧ d.gates.length ≤ 1000 ∧
  ∀ (c' gt' : Addr) (ga' : List Addr) (H' : Hp), Ex H H' → H c' = none → CircAt H' c' { d with gates := withD d.gates R } it gt' rt ot ga' ra oa → Q (.ref c') H'
theorem sc_with_ranges : FnScope ["circuit", "rows", "inputs", "gates", "regs", "outputs", "changed", "row", "name", "table", "nets", "_"] ["circuit", "rows"] (defScope s_with_ranges) := ⟨rfl, rfl, rfl, by decide +kernel, rfl, by decide +kernel, by decide +kernel⟩
theorem ok_with_ranges (D : Dfd K mg "with_ranges" s_with_ranges ["circuit", "rows"]) (T : TxtA mg) : Has P w K mg base 1 "with_ranges" ["circuit", "rows"] spWith := by
  refine D.has fun f fd F => F.ok sc_with_ranges (fun vs H Q E h => ?_) (fun cdv A outer s H vs Q E hr h => ?_)
  · obtain ⟨c, l, d, R, rl, it, gt, rt, ot, ga, ra, oa, rfl, _⟩ := h
    rfl
  · obtain ⟨c, l, d, R, rl, it, gt, rt, ot, ga, ra, oa, rfl, hc, hl, hR, hRl, hn, q⟩ := h
    refine ⟨_, (pss_cons (ps_asg (pv 0) (pg_tup rfl (pgs_cons (pg_name (i := 2) sc_with_ranges.nd rfl (.inl rfl)) (pgs_cons (pg_name (i := 3) sc_with_ranges.nd rfl (.inl rfl)) (pgs_cons (pg_name (i := 4) sc_with_ranges.nd rfl (.inl rfl)) (pgs_cons (pg_name (i := 5) sc_with_ranges.nd rfl (.inl rfl)) pgs_nil))))))
    (pss_cons (ps_setLc (i := 6) (own := [("row", 7), ("name", 8), ("table", 9), ("nets", 10), ("_", 11)]) (g := gTup K 2 (gCons (gTup K 4 (gCons (gName 8) (gCons (gName 9) (gCons (gName 10) (gCons (gName 11) gNil))))) (gCons (gName 7) gNil))) (tt := tYes) rfl sc_with_ranges.nd rfl rfl (sw_true rfl rfl rfl (by decide +kernel)) (pi_zipM true false (by rfl) T.zip (pa_cons (pv 3) (pa_cons (pv 1) pa_nil))) (blkOk_by (N := ["circuit", "rows", "inputs", "gates", "regs", "outputs", "changed", "row", "name", "table", "nets", "_"]) (sc := defScope s_with_ranges) (own := [("row", 7), ("name", 8), ("table", 9), ("nets", 10), ("_", 11)]) (by decide +kernel)) (fun _ _ _ _ _ => (pg_tup rfl (pgs_cons (pg_tup rfl (pgs_cons (pg_name (i := 8) sc_with_ranges.nd rfl (.inl rfl)) (pgs_cons (pg_name (i := 9) sc_with_ranges.nd rfl (.inl rfl)) (pgs_cons (pg_name (i := 10) sc_with_ranges.nd rfl (.inl rfl)) (pgs_cons (pg_name (i := 11) sc_with_ranges.nd rfl (.inl rfl)) pgs_nil))))) (pgs_cons (pg_name (i := 7) sc_with_ranges.nd rfl (.inl rfl)) pgs_nil)))) (fun _ _ _ _ _ => pts_nil) (fun _ _ _ _ _ => (pe_tup (pa_cons (pv 8) (pa_cons (pv 9) (pa_cons (pv 10) (pa_cons (pe_callTy (kTupOf (K := K) rfl) (by rfl) T.tuple (by decide +kernel) (pa_cons (pv 7) pa_nil)) pa_nil)))))))
    (pss_one (ps_ret (pe_tup (pa_cons (pv 2) (pa_cons (pe_callTy call_tuple_of (by rfl) T.tuple (by decide +kernel) (pa_cons (pv 6) pa_nil)) (pa_cons (pv 4) (pa_cons (pv 5) pa_nil))))))))), ?_⟩
    refine ⟨_, rfl, c, _, rfl, SqT.of hc.top, rfl, _, _, rfl, _, _, rfl, _, _, rfl, _, _, rfl, rfl, ?_⟩
    have hgl := hc.gates.1
    refine ⟨_, rfl, _, rfl, gt, l, ga.map V.ref, rl.map V.ref, rfl, SqT.of hc.gts, SqL.of hl, fun L nL => wk_it (walk_zipM (n := d.gates.length) (by rw [List.length_map]; exact hgl) (by rw [List.length_map, hR.1, hRl]))
      (fun j H' => Ex H H' ∧ ∃ as : List Addr, H' L = some (.lst (as.map V.ref)) ∧ All2 (GateAt (hid L H')) as (withD (d.gates.take j) (R.take j))) ⟨Ex.new nL, [], upd_same, by rw [List.take_zero, List.take_zero]; exact .nil⟩ (fun j H' _ g => ⟨SqT.of (g.1 _ _ hc.gts), SqL.of (g.1 _ _ hl)⟩) ?_ ?_⟩
    · rintro j x H3 H4 hj ⟨E3, as, hL, hA⟩ ⟨T1, x0, y0, rfl, nT, rfl, hx, hy⟩
      obtain ⟨b, hb, rfl⟩ := refs_get hx
      obtain ⟨p, hp, rfl⟩ := refs_get hy
      obtain ⟨g, hg, t, pt, rgt, rga, hg1, hg2, hg3, hg4, hg5⟩ := hc.gates.at_ hb
      obtain ⟨r, hr, pl, hp1, hp2⟩ := hR.at_ hp
      have E4 : Ex H3 (upd H3 T1 (.tup [.ref b, .ref p])) := Ex.new nT
      have e34 := E3.trans E4
      refine ⟨T1, _, rfl, SqT.of upd_same, rfl, _, _, rfl, b, _, rfl, SqT.of (e34 _ _ hg1), rfl, _, _, rfl, _, _, rfl, _, _, rfl, _, _, rfl, rfl, _, _, rfl, rfl, (by rw [wipe_set (by decide), wipe_set (by decide), wipe_set (by decide), wipe_set (by decide), wipe_set (by decide), wipe_wipe]), tYes_in ?_⟩
      generalize upd H3 T1 (.tup [.ref b, .ref p]) = H4 at *
      simp only [wipe, _root_.L2.start, List.map_cons, List.map_nil, List.length_cons, List.length_nil, Nat.reduceAdd, Nat.reduceSub, List.replicate_succ, List.replicate_zero, List.cons_append, List.nil_append, List.set_cons_zero, List.set_cons_succ]
      have nLH3 : ∀ {c : Addr}, H4 c = none → L ≠ c := fun {c} z => ne_of_none (E4 _ _ hL) z
      have fin : ∀ (rt' : Addr) (H5 : Hp), Ex H4 H5 → H5 rt' = some (.tup (pl.map V.ref)) → ∀ c, H5 c = none → ∃ acc, upd H5 c (.tup [.str g.name, .ref t, .ref pt, .ref rt']) L = some (.lst acc) ∧ acc.length < sizeLine ∧
          Ex H (upd (upd H5 c (.tup [.str g.name, .ref t, .ref pt, .ref rt'])) L (.lst (acc ++ [.ref c]))) ∧ ∃ as : List Addr, upd (upd H5 c (.tup [.str g.name, .ref t, .ref pt, .ref rt'])) L (.lst (acc ++ [.ref c])) L = some (.lst (as.map V.ref)) ∧ All2 (GateAt (hid L (upd (upd H5 c (.tup [.str g.name, .ref t, .ref pt, .ref rt'])) L (.lst (acc ++ [.ref c]))))) as (withD (d.gates.take (j + 1)) (R.take (j + 1))) := fun rt' H5 E5 hrt c nc => by
        have E6 : Ex H5 (upd H5 c (.tup [.str g.name, .ref t, .ref pt, .ref rt'])) := Ex.new nc
        have e46 := E5.trans E6
        have hc6 : upd H5 c (.tup [.str g.name, .ref t, .ref pt, .ref rt']) c = some (.tup [.str g.name, .ref t, .ref pt, .ref rt']) := upd_same
        have nLc : L ≠ c := ne_of_none ((E4.trans E5) _ _ hL) nc
        have hrt6 := E6 _ _ hrt
        generalize upd H5 c (.tup [.str g.name, .ref t, .ref pt, .ref rt']) = H6 at *
        have hL6 := (E4.trans e46) _ _ hL
        have e06 := e34.trans e46
        have tl : ∀ {q : Addr} {xs : List V}, H6 q = some (.tup xs) → hid L H6 q = some (.tup xs) := fun {q xs} z => by rw [hid_ne (ne_of z hL6 (by intro y; cases y))]; exact z
        refine ⟨_, hL6, sz_lt (by rw [List.length_map, hA.1]; unfold withD; rw [List.length_zipWith, List.length_take, List.length_take]; omega), e06.mut nL, as ++ [c], by rw [upd_same, List.map_append]; rfl, ?_⟩
        rw [hid_upd, withD_snoc hg hr]
        refine (hA.imp fun _ _ z => z.te fun q xs hq => ?_).snoc ⟨t, pt, rt', pl, tl hc6, tl (e06 _ _ hg2), tl (e06 _ _ hg3), tl hrt6, hp2.imp fun _ _ z => tl (e06 _ _ z)⟩
        exact tl ((E4.trans e46) _ _ (hid_get hq))
      refine ⟨_, rfl, _, rfl, _, rfl, _, rfl, p, pl.map V.ref, rfl, ?_⟩
      rcases hp1 with h1 | h1
      · refine .inl ⟨SqL.of (e34 _ _ h1), fun rt' nrt => ⟨(by show 4 ≤ sizeLine; decide), fun c nc => ?_⟩⟩
        exact fin rt' _ (Ex.new nrt) upd_same c nc
      · exact .inr ⟨SqT.of (e34 _ _ h1), (by show 4 ≤ sizeLine; decide), fun c nc => fin p H4 (.refl _) (e34 _ _ h1) c nc⟩
    · rintro H3 ⟨E3, as, hL, hA⟩
      rw [List.take_length, show R.take d.gates.length = R by rw [← hRl, List.take_length]] at hA
      refine ⟨_, rfl, _, rfl, L, _, rfl, .inl ⟨SqL.of hL, fun gt' ngt => ?_⟩⟩
      have E4 : Ex H3 (upd H3 gt' (.tup (as.map V.ref))) := Ex.new ngt
      have hg4 : upd H3 gt' (.tup (as.map V.ref)) gt' = some (.tup (as.map V.ref)) := upd_same
      generalize upd H3 gt' (.tup (as.map V.ref)) = H4 at *
      refine ⟨_, rfl, _, rfl, (by show 4 ≤ sizeLine; decide), fun c' nc => ?_⟩
      have E5 : Ex H4 (upd H4 c' (.tup [.ref it, .ref gt', .ref rt, .ref ot])) := Ex.new nc
      have e35 := E4.trans E5
      have e05 := E3.trans e35
      have hcx := hc.te (.of e05)
      exact q c' gt' as _ e05 (fresh_back (E3.trans E4) nc) ⟨upd_same, hcx.ins, E5 _ _ hg4, hcx.rgs, hcx.ots, hA.imp fun _ _ z => z.te (.of (hid_ex.trans e35)), hcx.regs, hcx.outs⟩
end
end G
namespace G
open PySem PySem.Spec PyProof.Rows L2 Evl TL
/-! ## what a drawn circuit is -/
theorem nm_tx : ∀ c ∈ (["i", "r", "g", "p"] : List Str), ∀ k, k < 20 → PyData.strOk (nm c k) = true := by decide +kernel
theorem nms_tx {c : Str} {n : Nat} {x : Str} (hc : c ∈ (["i", "r", "g", "p"] : List Str)) (hn : n ≤ 20) (h : x ∈ (List.range n).map (nm c)) : PyData.strOk x = true := by
  obtain ⟨k, hk, rfl⟩ := List.mem_map.mp h
  exact nm_tx c hc k (by have := List.mem_range.mp hk; omega)
section
variable {most : Nat} {d : CircD} {Gs : List GateD}
theorem CircWf.net_tx (W : CircWf most d Gs) (hm : most ≤ 15) {k : Nat} (hk : k ≤ Gs.length) {x : Str} (h : x ∈ d.ins ++ d.regs.map (·.name) ++ (List.range k).map (nm "g")) : PyData.strOk x = true := by
  have := W.few
  rcases List.mem_append.mp h with z | z
  · rcases List.mem_append.mp z with z | z
    · obtain ⟨n, _, h2, e⟩ := W.ins
      rw [e] at z
      exact nms_tx nmi_str (by omega) z
    · obtain ⟨n, h2, e⟩ := W.regs
      rw [e] at z
      exact nms_tx nmr_str (by omega) z
  · exact nms_tx nmg_str (by omega) z
theorem CircWf.gate (W : CircWf most d Gs) {g : GateD} (h : g ∈ d.gates) : ∃ k, k < Gs.length ∧ GateWf (d.ins ++ d.regs.map (·.name) ++ (List.range k).map (nm "g")) k g := by
  obtain ⟨k, hk, e⟩ := List.getElem_of_mem (W.perm.mem_iff.mp h)
  exact ⟨k, hk, W.gates k g (List.getElem?_eq_some_iff.mpr ⟨hk, e⟩)⟩
theorem CircWf.glen (W : CircWf most d Gs) : d.gates.length ≤ most := by rw [W.perm.length_eq]; exact W.few
structure GateSm (g : GateD) : Prop where
  few : g.pins.length ≤ 3
  tab : g.tab.length = 2 ^ g.pins.length
  many : g.rng.length = g.pins.length
  rng : ∀ r ∈ g.rng, 0 ≤ r.1 ∧ r.1 ≤ 4 ∧ r.1 + 2 ≤ r.2 ∧ r.2 ≤ r.1 + 6
theorem CircWf.gsm (W : CircWf most d Gs) {g : GateD} (h : g ∈ d.gates) : GateSm g := by
  obtain ⟨k, _, w⟩ := W.gate h
  exact ⟨w.few, w.tab, w.many, w.rng⟩
theorem CircWf.rlen (W : CircWf most d Gs) : d.regs.length ≤ 3 := by
  obtain ⟨n, hn, e⟩ := W.regs
  have := congrArg List.length e
  rw [List.length_map, List.length_map, List.length_range] at this
  omega
theorem CircWf.ilen (W : CircWf most d Gs) : d.ins.length ≤ 3 := by
  obtain ⟨n, _, hn, e⟩ := W.ins
  rw [e, List.length_map, List.length_range]; exact hn
theorem CircWf.olen (W : CircWf most d Gs) : d.outs.length ≤ 3 := by
  obtain ⟨n, hn, e⟩ := W.outs
  have := congrArg List.length e
  rw [List.length_map, List.length_map, List.length_range] at this
  omega
end
/-! ## a circuit as data for _law_same -/
def strsD (l : List Str) : D := .tup (l.map .str)
def pairD (p : Int × Int) : D := .tup [.int p.1, .int p.2]
def gateD (g : GateD) : D := .tup [.str g.name, .tup (g.tab.map .bl), strsD g.pins, .tup (g.rng.map pairD)]
def regD (r : RegD) : D := .tup [.str r.name, .str r.net, pairD r.edge, pairD r.out, .int r.setup, .int r.hold, .bl r.start]
def outD (o : Str × Str) : D := .tup [.str o.1, .str o.2]
def circD (d : CircD) : D := .tup [strsD d.ins, .tup (d.gates.map gateD), .tup (d.regs.map regD), .tup (d.outs.map outD)]
section
variable {H : Hp}
theorem rep_fix {a : Addr} {xs : List V} {ds : List D} (h : H a = some (.tup xs)) (z : All2 (Rep H) xs ds) : Rep H (.ref a) (.tup ds) := .tup h z.1 z.2
theorem rep_all2 {β : Type} {R : Addr → β → Prop} {f : β → D} {a : Addr} {as : List Addr} {bs : List β} (h : H a = some (.tup (as.map V.ref))) (z : All2 R as bs) (r : ∀ a b, R a b → Rep H (.ref a) (f b)) : Rep H (.ref a) (.tup (bs.map f)) := by
  refine .tup h (by rw [List.length_map, List.length_map]; exact z.1) fun i x d hx hd => ?_
  obtain ⟨b, hb, rfl⟩ := refs_get hx
  rw [List.getElem?_map] at hd
  cases e : bs[i]? with
  | none => rw [e] at hd; cases hd
  | some y => rw [e] at hd; cases hd; exact r b y (z.2 i b y hb e)
theorem rep_strsT {a : Addr} {l : List Str} (h : H a = some (.tup (l.map V.str))) : Rep H (.ref a) (strsD l) :=
  let r := rep_map (H := H) (f := V.str) (g := D.str) (l := l) fun i => .str i
  .tup h r.1 r.2
theorem rep_pair {a : Addr} {p : Int × Int} (h : IntsAt H a p) : Rep H (.ref a) (pairD p) := rep_fix h (.cons (.int _) (.cons (.int _) .nil))
theorem rep_gate {a : Addr} {g : GateD} (h : GateAt H a g) : Rep H (.ref a) (gateD g) := by
  obtain ⟨t, pt, rt, ra, h1, h2, h3, h4, h5⟩ := h
  exact rep_fix h1 (.cons (.str _) (.cons (rep_bls h2) (.cons (rep_strsT h3) (.cons (rep_all2 h4 h5 fun _ _ z => rep_pair z) .nil))))
theorem rep_reg {a : Addr} {r : RegD} (h : RegAt H a r) : Rep H (.ref a) (regD r) := by
  obtain ⟨ea, oa, h1, h2, h3⟩ := h
  exact rep_fix h1 (.cons (.str _) (.cons (.str _) (.cons (rep_pair h2) (.cons (rep_pair h3) (.cons (.int _) (.cons (.int _) (.cons (.bl _) .nil)))))))
theorem rep_circ {c it gt rt ot : Addr} {ga ra oa : List Addr} {d : CircD} (h : CircAt H c d it gt rt ot ga ra oa) : Rep H (.ref c) (circD d) :=
  rep_fix h.top (.cons (rep_strsT h.ins) (.cons (rep_all2 h.gts h.gates fun _ _ z => rep_gate z) (.cons (rep_all2 h.rgs h.regs fun _ _ z => rep_reg z) (.cons (rep_all2 h.ots h.outs fun _ _ z => rep_fix z (.cons (.str _) (.cons (.str _) .nil))) .nil))))
end
theorem okD_tup {n : Nat} {l : List D} (hl : l.length < 2 ^ 61) (h : ∀ x ∈ l, okD n x) : okD (n + 1) (.tup l) := ⟨hl, h⟩
theorem okD_map {α : Type} {n : Nat} {l : List α} {f : α → D} (hl : l.length < 2 ^ 61) (h : ∀ x ∈ l, okD n (f x)) : okD (n + 1) (.tup (l.map f)) :=
  ⟨by rw [List.length_map]; exact hl, fun d hd => by obtain ⟨x, hx, rfl⟩ := List.mem_map.mp hd; exact h x hx⟩
theorem ok_fix2 {n : Nat} {a b : D} (h1 : okD n a) (h2 : okD n b) : okD (n + 1) (.tup [a, b]) := okD_tup (by show 2 < _; decide) fun x hx => by
  rcases List.mem_cons.mp hx with rfl | hx
  · exact h1
  · rw [List.mem_singleton.mp hx]; exact h2
theorem ok_int {n : Nat} (i : Int) : okD n (.int i) := by cases n <;> trivial
theorem ok_str {n : Nat} (i : Str) : okD n (.str i) := by cases n <;> trivial
theorem ok_bl {n : Nat} (i : Bool) : okD n (.bl i) := by cases n <;> trivial
theorem ok_pairD (p : Int × Int) : okD 1 (pairD p) := ok_fix2 (ok_int _) (ok_int _)
/-- few enough items everywhere -/
structure CircFew (d : CircD) : Prop where
  ins : d.ins.length ≤ 1000
  gates : d.gates.length ≤ 1000
  gate : ∀ g ∈ d.gates, g.tab.length ≤ 1000 ∧ g.pins.length ≤ 1000 ∧ g.rng.length ≤ 1000
  regs : d.regs.length ≤ 1000
  outs : d.outs.length ≤ 1000
theorem ok_circD {d : CircD} (h : CircFew d) : okD 5 (circD d) := by
  have big : ∀ {n : Nat}, n ≤ 1000 → n < 2 ^ 61 := fun h => by omega
  refine okD_tup (by show 4 < _; decide) fun x hx => ?_
  simp only [List.mem_cons, List.not_mem_nil, or_false] at hx
  rcases hx with rfl | rfl | rfl | rfl
  · exact okD.mono (n := 1) (by decide) (okD_map (big h.ins) fun _ _ => ok_str _)
  · refine okD_map (big h.gates) fun g hg => ?_
    obtain ⟨h1, h2, h3⟩ := h.gate g hg
    refine okD_tup (by show 4 < _; decide) fun x hx => ?_
    simp only [List.mem_cons, List.not_mem_nil, or_false] at hx
    rcases hx with rfl | rfl | rfl | rfl
    · exact ok_str _
    · exact okD.mono (n := 1) (by decide) (okD_map (big h1) fun _ _ => ok_bl _)
    · exact okD.mono (n := 1) (by decide) (okD_map (big h2) fun _ _ => ok_str _)
    · exact okD_map (big h3) fun _ _ => ok_pairD _
  · refine okD.mono (n := 3) (by decide) (okD_map (big h.regs) fun r hr => okD_tup (by show 7 < _; decide) fun x hx => ?_)
    simp only [List.mem_cons, List.not_mem_nil, or_false] at hx
    rcases hx with rfl | rfl | rfl | rfl | rfl | rfl | rfl
    · exact ok_str _
    · exact ok_str _
    · exact ok_pairD _
    · exact ok_pairD _
    · exact ok_int _
    · exact ok_int _
    · exact ok_bl _
  · exact okD.mono (n := 2) (by decide) (okD_map (big h.outs) fun o ho => ok_fix2 (ok_str _) (ok_str _))
theorem CircWf.circFew {most : Nat} {d : CircD} {Gs : List GateD} (W : CircWf most d Gs) (hm : most ≤ 15) : CircFew d := by
  have := W.glen
  have := W.rlen
  have := W.ilen
  have := W.olen
  refine ⟨by omega, by omega, fun g hg => ?_, by omega, by omega⟩
  have w := W.gsm hg
  have h1 := w.few
  have h2 : 2 ^ g.pins.length ≤ 64 := pow_le64 (by omega)
  have h3 := w.tab
  have h4 := w.many
  omega
end G
namespace G
open PySem PySem.Spec PyProof.Rows L2
structure Cl_WireTree (K : PySem.W.Frag) (mg : Str → Option Value) (C : Addr) : Prop where
  gC : mg "WireTree" = some (.ref C)
  cl : Cls K C
  m_init : ∃ (f : Addr) (fd : FuncData), Mk K C f ∧ Fun K "__init__" "WireTree.__init__" s_WireTree_init f fd ∧ Binds K fd ["self", "segments"] []
  m_path : ∃ (f : Addr) (fd : FuncData), Meth K C "path" f ∧ Fun K "path" "WireTree.path" s_WireTree_path f fd ∧ Binds K fd ["self", "node"] []
  m_delay : ∃ (f : Addr) (fd : FuncData), Meth K C "delay" f ∧ Fun K "delay" "WireTree.delay" s_WireTree_delay f fd ∧ Binds K fd ["self", "node", "resistances", "capacitances"] []
  m_delay_range : ∃ (f : Addr) (fd : FuncData), Meth K C "delay_range" f ∧ Fun K "delay_range" "WireTree.delay_range" s_WireTree_delay_range f fd ∧ KBn K fd ["self", "node", "unit"] 2 ["unit"] (fun us ws => us ++ ws) (fun vs zs => vs ++ zs) ∧ ∃ ds, Vals [V.int 1] ds ∧ Binds K fd ["self", "node", "unit"] ds
  m_check_node : ∃ (f : Addr) (fd : FuncData), Meth K C "_check_node" f ∧ Fun K "_check_node" "WireTree._check_node" s_WireTree_check_node f fd ∧ Binds K fd ["self", "node"] []
  n_parents : NoAttr K C "_parents"
  n_resistances : NoAttr K C "_resistances"
  n_capacitances : NoAttr K C "_capacitances"
end G
namespace G
open PySem PySem.Spec PyProof.Rows L2 Evl TL
/-! ## what a class's __init__ keeps: all but the new object -/
def ExBut (x : Addr) (H H' : Hp) : Prop := ∀ b o, H b = some o → b ≠ x → H' b = some o
theorem ExBut.of {x : Addr} {H H' : Hp} (e : Ex H H') : ExBut x H H' := fun b o h _ => e b o h
theorem ExBut.trans {x : Addr} {H H1 H2 : Hp} (a : ExBut x H H1) (b : ExBut x H1 H2) : ExBut x H H2 := fun c o h n => b c o (a c o h n) n
theorem ExBut.put {x : Addr} {H : Hp} {o : HO} : ExBut x H (upd H x o) := fun b q h n => by rw [upd_ne n]; exact h
theorem ExBut.made {x dx : Addr} {H H' : Hp} {o1 o2 : HO} (nx : H x = none) (nd : H dx = none) (e : ExBut x (upd (upd H dx o1) x o2) H') : Ex H H' := fun b o h => by
  have h1 : b ≠ x := ne_of_none h nx
  have h2 : b ≠ dx := ne_of_none h nd
  exact e b o (by rw [upd_ne h1, upd_ne h2]; exact h) h1
theorem made_free {x dx L : Addr} {H : Hp} {o1 o2 : HO} (h : upd (upd H dx o1) x o2 L = none) : H L = none := by
  have h1 : L ≠ x := fun z => by rw [z, upd_same] at h; cases h
  rw [upd_ne h1] at h
  have h2 : L ≠ dx := fun z => by rw [z, upd_same] at h; cases h
  rw [upd_ne h2] at h; exact h
theorem made_old {x dx b : Addr} {H : Hp} {o1 o2 o : HO} (nx : H x = none) (nd : H dx = none) (h : H b = some o) : upd (upd H dx o1) x o2 b = some o := by
  rw [upd_ne (ne_of_none h nx), upd_ne (ne_of_none h nd)]; exact h
/-! ## trees of wires -/
structure SegD where
  above : Int
  res : Int × Int
  cap : Int × Int
def PrAt (H : Hp) (a : Addr) (p : Int × Int) : Prop := H a = some (.tup [.int p.1, .int p.2])
def SegAt (H : Hp) (a : Addr) (s : SegD) : Prop := ∃ ra ca : Addr, H a = some (.tup [.int s.above, .ref ra, .ref ca]) ∧ PrAt H ra s.res ∧ PrAt H ca s.cap
theorem SegAt.ex {H H' : Hp} {a : Addr} {s : SegD} (e : Ex H H') (h : SegAt H a s) : SegAt H' a s := by
  obtain ⟨ra, ca, h1, h2, h3⟩ := h
  exact ⟨ra, ca, e _ _ h1, e _ _ h2, e _ _ h3⟩
theorem rne1 : ¬ (("_parents" : Str) = "_capacitances") := by decide +kernel
theorem rne2 : ¬ (("_parents" : Str) = "_resistances") := by decide +kernel
theorem rne3 : ¬ (("_resistances" : Str) = "_capacitances") := by decide +kernel
def tfl (p r c : Addr) : List (Str × V) := putF "_capacitances" (.ref c) (putF "_resistances" (.ref r) (putF "_parents" (.ref p) []))
theorem tfl_p (p r c : Addr) : (tfl p r c).lookup ("_parents" : Str) = some (.ref p) := by unfold tfl; rw [lookup_putF, if_neg rne1, lookup_putF, if_neg rne2, lookup_putF, if_pos rfl]
theorem tfl_r (p r c : Addr) : (tfl p r c).lookup ("_resistances" : Str) = some (.ref r) := by unfold tfl; rw [lookup_putF, if_neg rne3, lookup_putF, if_pos rfl]
theorem tfl_c (p r c : Addr) : (tfl p r c).lookup ("_capacitances" : Str) = some (.ref c) := by unfold tfl; rw [lookup_putF, if_pos rfl]
theorem tfl_no (p r c : Addr) {m : Str} (h1 : ¬ m = "_capacitances") (h2 : ¬ m = "_resistances") (h3 : ¬ m = "_parents") : (tfl p r c).lookup m = none := by
  unfold tfl; rw [lookup_putF, if_neg h1, lookup_putF, if_neg h2, lookup_putF, if_neg h3]; rfl
def parL (segs : List SegD) : List Int := -1 :: segs.map (·.above)
structure TreeAt (C : Addr) (H : Hp) (x p r c : Addr) (segs : List SegD) : Prop where
  ob : ∃ dx, H x = some (.ins C dx (tfl p r c))
  pa : H p = some (.lst ((parL segs).map V.int))
  re : ∃ rl : List Addr, H r = some (.lst (rl.map V.ref)) ∧ All2 (PrAt H) rl (segs.map (·.res))
  ca : ∃ cl : List Addr, H c = some (.lst (cl.map V.ref)) ∧ All2 (PrAt H) cl (segs.map (·.cap))
theorem TreeAt.ex {C : Addr} {H H' : Hp} {x p r c : Addr} {segs : List SegD} (e : Ex H H') (h : TreeAt C H x p r c segs) : TreeAt C H' x p r c segs := by
  obtain ⟨⟨dx, h1⟩, h2, ⟨rl, h3, h4⟩, ⟨cl, h5, h6⟩⟩ := h
  exact ⟨⟨dx, e _ _ h1⟩, e _ _ h2, ⟨rl, e _ _ h3, h4.imp fun _ _ z => e _ _ z⟩, ⟨cl, e _ _ h5, h6.imp fun _ _ z => e _ _ z⟩⟩
def ParOk (segs : List SegD) : Prop := ∀ (k : Nat) (s : SegD), segs[k]? = some s → 0 ≤ s.above ∧ s.above ≤ k
def okQ (r : Int × Int) : Prop := 0 ≤ r.1 ∧ r.1 ≤ r.2
def RngS (segs : List SegD) : Prop := ∀ s ∈ segs, okQ s.res ∧ okQ s.cap
structure TxtT (mg : Str → Option Value) : Prop where
  len : mg "len" = none
  list : mg "list" = none
  tuple : mg "tuple" = none
  range : mg "range" = none
  enumerate : mg "enumerate" = none
theorem fsk {k : Nat} (h : k ≤ 1000) : ((k : Int) + 1).natAbs.log2 < 1920 := by
  have : ((k : Int) + 1).natAbs < 2 ^ 11 := by omega
  have := PySem.Flt.log2_lt_of (by decide : 0 < 11) this
  omega
theorem tkn_small : ∀ k : Nat, k < 1001 → (Str.ofString (toString ((k : Int) + 1))).length ≤ 100 := by decide +kernel
theorem fsn {a b : Str} {k : Nat} (ha : a.length ≤ 100) (hb : b.length ≤ 100) (hk : k ≤ 1000) : (Str.empty ++ a).length ≤ sizeLine ∧ ((Str.empty ++ a) ++ Str.ofString (toString ((k : Int) + 1))).length ≤ sizeLine ∧ (((Str.empty ++ a) ++ Str.ofString (toString ((k : Int) + 1))) ++ b).length ≤ sizeLine := by
  have e : ∀ x y : Str, (x ++ y).length = x.length + y.length := fun x y => by rw [len_tl, tl_append, List.length_append, ← len_tl, ← len_tl]
  have e0 : Str.empty.length = 0 := rfl
  have h1 := tkn_small k (by omega)
  refine ⟨sz_of ?_, sz_of ?_, sz_of ?_⟩
  · rw [e, e0]; omega
  · rw [e, e, e0]; omega
  · rw [e, e, e, e0]; omega
section
variable {P : Program} {w : World} {K : PySem.W.Frag} {mg : Str → Option Value} {base : Heap}
def rTupOfW (K : PySem.W.Frag) : List V → Hp → VK → Prop := fun xs H Q => ∃ p ys, xs = [.ref p] ∧ ((SqL K H p ys ∧ ∀ l, H l = none → Q (.ref l) (upd H l (.tup ys))) ∨ (SqT K H p ys ∧ Q (.ref p) H))
theorem kTupOfW {X : Cx} {K : PySem.W.Frag} (h : X.K = K) : CallR X (.type "tuple") (rTupOfW K) := by subst h; exact call_tuple_of
def spTInit (C B R : Addr) : Sp := fun vs H Q E => ∃ (x dx l : Addr) (as : List Addr) (segs : List SegD), vs = [.ref x, .ref l] ∧ H x = some (.ins C dx []) ∧ H l = some (.lst (as.map V.ref)) ∧ All2 (SegAt H) as segs ∧ segs.length ≤ 100 ∧
  (ParOk segs → RngS segs → ∀ (p r c : Addr) (H' : Hp), H p = none → H r = none → H c = none → ExBut x H H' → TreeAt C H' x p r c segs → Q .non H') ∧ (¬ ParOk segs → ∀ H', ExBut x H H' → E (.ref B) none H') ∧ (ParOk segs → ¬ RngS segs → ∀ H', ExBut x H H' → E (.ref R) none H')
theorem sc_WireTree_init : FnScope ["self", "segments", "rows", "k", "above", "_", "resistance", "capacitance", "low", "high", "pair"] ["self", "segments"] (defScope s_WireTree_init) := ⟨rfl, rfl, rfl, by decide +kernel, rfl, by decide +kernel, by decide +kernel⟩
theorem ok_WireTree_init {C B R : Addr} {f : Addr} {fd : FuncData} (F : Fun K "__init__" "WireTree.__init__" s_WireTree_init f fd) (W : Cl_WireTree K mg C) (T : TxtT mg) (UB : ExcT K mg "BadArgument" B) (UR : ExcT K mg "BadRange" R) : FnOk P w K mg base (L2.CX P w) 1 f fd ["self", "segments"] (spTInit C B R) := by
  refine F.okX sc_WireTree_init (fun vs H Q E h => ?_) (fun cdv A outer s H vs Q E hr h => ?_)
  · obtain ⟨x, dx, l, as, segs, rfl, _⟩ := h
    rfl
  · obtain ⟨x, dx, l, as, segs, rfl, hx, hl, hA, hn, q, qB, qR⟩ := h
    refine ⟨_, (pss_cons (ps_set (i := 2) sc_WireTree_init.nd rfl (.inl rfl) (pe_callTy call_list_of (by rfl) T.list (by decide +kernel) (pa_cons (pv 1) pa_nil)))
    (pss_cons (ps_for (passes_of rfl) rfl (pi_enum (by rfl) T.enumerate (pa_cons (pv 2) pa_nil)) (pg_tup rfl (pgs_cons (pg_name (i := 3) sc_WireTree_init.nd rfl (.inl rfl)) (pgs_cons (pg_tup rfl (pgs_cons (pg_name (i := 4) sc_WireTree_init.nd rfl (.inl rfl)) (pgs_cons (pg_name (i := 5) sc_WireTree_init.nd rfl (.inl rfl)) (pgs_cons (pg_name (i := 5) sc_WireTree_init.nd rfl (.inl rfl)) pgs_nil)))) pgs_nil)))
      (pss_one (ps_if (PW.pt (pw_or (pt_cmpR op_lt (pv 4) pe_int (nomark _)) (pw_or1 (pt_cmpR op_gt (pv 4) (pv 3) (nomark _)))))
        (pss_one (ps_raise rfl (takes_of rfl rfl rfl rfl) (pmk_ownA PySem.F.excBase_ValueError UB.xP UB.gC UB.kC (raises_own UB.bC UB.tC) rfl (pa_cons (pe_joined (.cons pe_str (.cons (pe_fmt (pe_op op_add (pv 3) pe_int)) (.cons pe_str .nil)))) pa_nil))))
        pss_nil)))
    (pss_cons (ps_for (passes_of rfl) rfl (pi_list (pv 2)) (pg_tup rfl (pgs_cons (pg_name (i := 5) sc_WireTree_init.nd rfl (.inl rfl)) (pgs_cons (pg_name (i := 6) sc_WireTree_init.nd rfl (.inl rfl)) (pgs_cons (pg_name (i := 7) sc_WireTree_init.nd rfl (.inl rfl)) pgs_nil))))
      (pss_one (ps_for (passes_of rfl) rfl (pi_tup (pe_tup (pa_cons (pv 6) (pa_cons (pv 7) pa_nil)))) (pg_tup rfl (pgs_cons (pg_name (i := 8) sc_WireTree_init.nd rfl (.inl rfl)) (pgs_cons (pg_name (i := 9) sc_WireTree_init.nd rfl (.inl rfl)) pgs_nil)))
        (pss_one (ps_if (PW.pt (pw_or (pt_cmpR op_lt (pv 8) pe_int (nomark _)) (pw_or1 (pt_cmpR op_gt (pv 8) (pv 9) (nomark _)))))
          (pss_one (ps_raise rfl (takes_of rfl rfl rfl rfl) (pmk_ownA PySem.F.excBase_ValueError UR.xP UR.gC UR.kC (raises_own UR.bC UR.tC) rfl (pa_cons pe_str pa_nil))))
          pss_nil)))))
    (pss_cons (ps_fld (pv 0) (pe_op op_cat (pe_lst (pa_cons (pe_un un_neg pe_int) pa_nil)) (pe_lc (own := [("above", 4), ("_", 5)]) (g := gTup K 3 (gCons (gName 4) (gCons (gName 5) (gCons (gName 5) gNil)))) (tt := tYes) rfl sc_WireTree_init.nd (pi_list (pv 2)) (blkOk_by (N := ["self", "segments", "rows", "k", "above", "_", "resistance", "capacitance", "low", "high", "pair"]) (sc := defScope s_WireTree_init) (own := [("above", 4), ("_", 5)]) (by decide +kernel)) (fun _ _ _ _ _ => (pg_tup rfl (pgs_cons (pg_name (i := 4) sc_WireTree_init.nd rfl (.inl rfl)) (pgs_cons (pg_name (i := 5) sc_WireTree_init.nd rfl (.inl rfl)) (pgs_cons (pg_name (i := 5) sc_WireTree_init.nd rfl (.inl rfl)) pgs_nil))))) (fun _ _ _ _ _ => pts_nil) (fun _ _ _ _ _ => (pv 4)))) rfl)
    (pss_cons (ps_fld (pv 0) (pe_lc (own := [("_", 5), ("pair", 10)]) (g := gTup K 3 (gCons (gName 5) (gCons (gName 10) (gCons (gName 5) gNil)))) (tt := tYes) rfl sc_WireTree_init.nd (pi_list (pv 2)) (blkOk_by (N := ["self", "segments", "rows", "k", "above", "_", "resistance", "capacitance", "low", "high", "pair"]) (sc := defScope s_WireTree_init) (own := [("_", 5), ("pair", 10)]) (by decide +kernel)) (fun _ _ _ _ _ => (pg_tup rfl (pgs_cons (pg_name (i := 5) sc_WireTree_init.nd rfl (.inl rfl)) (pgs_cons (pg_name (i := 10) sc_WireTree_init.nd rfl (.inl rfl)) (pgs_cons (pg_name (i := 5) sc_WireTree_init.nd rfl (.inl rfl)) pgs_nil))))) (fun _ _ _ _ _ => pts_nil) (fun _ _ _ _ _ => (pe_callTy (kTupOfW (K := K) rfl) (by rfl) T.tuple (by decide +kernel) (pa_cons (pv 10) pa_nil)))) rfl)
    (pss_one (ps_fld (pv 0) (pe_lc (own := [("_", 5), ("pair", 10)]) (g := gTup K 3 (gCons (gName 5) (gCons (gName 5) (gCons (gName 10) gNil)))) (tt := tYes) rfl sc_WireTree_init.nd (pi_list (pv 2)) (blkOk_by (N := ["self", "segments", "rows", "k", "above", "_", "resistance", "capacitance", "low", "high", "pair"]) (sc := defScope s_WireTree_init) (own := [("_", 5), ("pair", 10)]) (by decide +kernel)) (fun _ _ _ _ _ => (pg_tup rfl (pgs_cons (pg_name (i := 5) sc_WireTree_init.nd rfl (.inl rfl)) (pgs_cons (pg_name (i := 5) sc_WireTree_init.nd rfl (.inl rfl)) (pgs_cons (pg_name (i := 10) sc_WireTree_init.nd rfl (.inl rfl)) pgs_nil))))) (fun _ _ _ _ _ => pts_nil) (fun _ _ _ _ _ => (pe_callTy (kTupOfW (K := K) rfl) (by rfl) T.tuple (by decide +kernel) (pa_cons (pv 10) pa_nil)))) rfl))))))), ?_⟩
    refine ⟨_, rfl, _, _, rfl, .inl (SqL.of hl), fun lf nlf => ?_⟩
    have E1 : Ex H (upd H lf (.lst (as.map V.ref))) := Ex.new nlf
    have h1 : upd H lf (.lst (as.map V.ref)) lf = some (.lst (as.map V.ref)) := upd_same
    generalize upd H lf (.lst (as.map V.ref)) = H1 at *
    have lA := hA.1
    refine ⟨_, rfl, lf, _, rfl, SqL.of h1, for_it walk_enum
      (fun i σ H' => Ex H1 H' ∧ (∀ (k : Nat) (s : SegD), k < i → segs[k]? = some s → 0 ≤ s.above ∧ s.above ≤ k) ∧ ∃ x3 x4 x5 : Option V, σ = [some (.ref x), some (.ref l), some (.ref lf), x3, x4, x5, none, none, none, none, none])
      ⟨.refl _, (fun k _ h => absurd h (Nat.not_lt_zero _)), _, _, _, rfl⟩ (fun i σ H' _ g => SqL.of (g.1 _ _ h1)) ?_ ?_⟩
    · rintro i y σ H2 H3 hi ⟨E2, ok, x3, x4, x5, rfl⟩ ⟨T1, x0, y0, rfl, nT, rfl, hx0, hy0⟩
      cases hx0
      obtain ⟨b, hb, rfl⟩ := refs_get hy0
      obtain ⟨sg, hsg, ra, ca, s1, s2, s3⟩ := hA.at_ hb
      have hi2 : i < segs.length := (List.getElem?_eq_some_iff.mp hsg).1
      have E3 : Ex H2 (upd H2 T1 (.tup [.int (i : Nat), .ref b])) := Ex.new nT
      have e03 := E1.trans (E2.trans E3)
      refine ⟨T1, _, rfl, SqT.of upd_same, rfl, _, _, rfl, _, _, rfl, b, _, rfl, SqT.of (e03 _ _ s1), rfl, _, _, rfl, _, _, rfl, _, _, rfl, rfl, rfl, ?_⟩
      generalize upd H2 T1 (.tup [.int (i : Nat), .ref b]) = H3 at *
      simp only [wipe, _root_.L2.start, List.map_cons, List.map_nil, List.length_cons, List.length_nil, Nat.reduceAdd, Nat.reduceSub, List.replicate_succ, List.replicate_zero, List.cons_append, List.nil_append, List.set_cons_zero, List.set_cons_succ]
      have bad : ¬ (0 ≤ sg.above ∧ sg.above ≤ i) → E (.ref B) none H3 := fun z => qB (fun y => z (y i sg hsg)) H3 (.of e03)
      obtain ⟨z1, z2, z3⟩ := fsn (a := "the parent of node ") (b := " is not an earlier node") (k := i) (by decide +kernel) (by decide +kernel) (by omega)
      refine ⟨_, rfl, _, _, rfl, rfl, _, rfl, ite2 (fun c1 => ?_) (fun c1 => ⟨_, rfl, _, rfl, _, _, rfl, rfl, _, rfl, ite2 (fun c2 => ?_) (fun c2 => ?_)⟩)⟩
      · exact iteT ⟨_, rfl, z1, _, rfl, _, _, rfl, rfl, .inr ⟨_, rfl, fsk (by omega), _, rfl, z2, _, rfl, z3, (by show 1 ≤ sizeLine; decide), bad fun z => by have := of_decide_eq_true c1; omega⟩⟩
      · exact ⟨_, rfl, z1, _, rfl, _, _, rfl, rfl, .inr ⟨_, rfl, fsk (by omega), _, rfl, z2, _, rfl, z3, (by show 1 ≤ sizeLine; decide), bad fun z => by have := of_decide_eq_true c2; omega⟩⟩
      · have k1 : ¬ sg.above < 0 := fun z => c1 (decide_eq_true z)
        have k2 : ¬ sg.above > (i : Int) := fun z => c2 (decide_eq_true z)
        refine ⟨E2.trans E3, fun k s' hk h => ?_, _, _, _, rfl⟩
        rcases Nat.lt_succ_iff_lt_or_eq.mp hk with z | z
        · exact ok k s' z h
        · subst z
          rw [hsg] at h
          cases h
          omega
    · rintro σ H2 ⟨E2, ok, x3, x4, x5, rfl⟩
      have hPar : ParOk segs := fun k s' h => ok k s' (by rw [List.length_map, lA]; exact (List.getElem?_eq_some_iff.mp h).1) h
      have e02 := E1.trans E2
      refine ⟨_, rfl, lf, rfl, ⟨_, SqL.of (E2 _ _ h1)⟩, for_list (K := K) (a := lf) (xs := as.map V.ref)
        (fun i σ H' => Ex H2 H' ∧ (∀ s' ∈ segs.take i, okQ s'.res ∧ okQ s'.cap) ∧ ∃ y5 y6 y7 y8 y9 : Option V, σ = [some (.ref x), some (.ref l), some (.ref lf), x3, x4, y5, y6, y7, y8, y9, none])
        ⟨.refl _, (by rw [List.take_zero]; exact fun _ h => nomatch h), _, _, _, _, _, rfl⟩ (fun i σ H' _ g => SqL.of (g.1 _ _ (E2 _ _ h1))) ?_ ?_⟩
      · rintro i y σ H3 hy ⟨E3, okr, y5, y6, y7, y8, y9, rfl⟩
        obtain ⟨b, hb, rfl⟩ := refs_get hy
        obtain ⟨sg, hsg, ra, ca, s1, s2, s3⟩ := hA.at_ hb
        have e03 := e02.trans E3
        refine ⟨b, _, rfl, SqT.of (e03 _ _ s1), rfl, _, _, rfl, _, _, rfl, _, _, rfl, rfl, ?_⟩
        simp only [wipe, _root_.L2.start, List.map_cons, List.map_nil, List.length_cons, List.length_nil, Nat.reduceAdd, Nat.reduceSub, List.replicate_succ, List.replicate_zero, List.cons_append, List.nil_append, List.set_cons_zero, List.set_cons_succ]
        refine ⟨_, rfl, _, rfl, (by show 2 ≤ sizeLine; decide), fun tt ntt => ?_⟩
        have E4 : Ex H3 (upd H3 tt (.tup [.ref ra, .ref ca])) := Ex.new ntt
        have h4 : upd H3 tt (.tup [.ref ra, .ref ca]) tt = some (.tup ([ra, ca].map V.ref)) := upd_same
        generalize upd H3 tt (.tup [.ref ra, .ref ca]) = H4 at *
        have e04 := e03.trans E4
        have hpr : All2 (PrAt H4) [ra, ca] [sg.res, sg.cap] := .cons (e04 _ _ s2) (.cons (e04 _ _ s3) .nil)
        refine ⟨tt, rfl, ⟨_, SqT.of h4⟩, for_tup (K := K) (a := tt) (xs := [ra, ca].map V.ref)
          (fun j σ H' => Ex H4 H' ∧ (∀ r ∈ [sg.res, sg.cap].take j, okQ r) ∧ ∃ w8 w9 : Option V, σ = [some (.ref x), some (.ref l), some (.ref lf), x3, x4, some (.int sg.above), some (.ref ra), some (.ref ca), w8, w9, none])
          ⟨.refl _, (by rw [List.take_zero]; exact fun _ h => nomatch h), _, _, rfl⟩ (fun i σ H' _ g => SqT.of (g.1 _ _ h4)) ?_ ?_⟩
        · rintro j y σ H5 hy ⟨E5, okj, w8, w9, rfl⟩
          obtain ⟨u, hu, rfl⟩ := refs_get hy
          obtain ⟨r, hr2, hra⟩ := hpr.at_ hu
          have hra5 := E5 _ _ hra
          refine ⟨u, _, rfl, SqT.of hra5, rfl, _, _, rfl, _, _, rfl, rfl, ?_⟩
          simp only [wipe, _root_.L2.start, List.map_cons, List.map_nil, List.length_cons, List.length_nil, Nat.reduceAdd, Nat.reduceSub, List.replicate_succ, List.replicate_zero, List.cons_append, List.nil_append, List.set_cons_zero, List.set_cons_succ]
          have bad : ¬ okQ r → E (.ref R) none H5 := fun z => qR hPar (fun y => z (by
            have hm := y sg (List.mem_of_getElem? hsg)
            have hmem := List.mem_of_getElem? hr2
            simp only [List.mem_cons, List.not_mem_nil, or_false] at hmem
            rcases hmem with e | e <;> rw [e]
            · exact hm.1
            · exact hm.2)) H5 (.of (e04.trans E5))
          refine ⟨_, rfl, _, _, rfl, rfl, _, rfl, ite2 (fun c1 => ?_) (fun c1 => ⟨_, rfl, _, rfl, _, _, rfl, rfl, _, rfl, ite2 (fun c2 => ?_) (fun c2 => ?_)⟩)⟩
          · exact iteT ⟨(by show 1 ≤ sizeLine; decide), bad fun z => by have := of_decide_eq_true c1; have := z.1; omega⟩
          · exact ⟨(by show 1 ≤ sizeLine; decide), bad fun z => by have := of_decide_eq_true c2; have := z.2; omega⟩
          · have k1 : ¬ r.1 < 0 := fun z => c1 (decide_eq_true z)
            have k2 : ¬ r.1 > r.2 := fun z => c2 (decide_eq_true z)
            refine ⟨E5, fun r' hr' => ?_, _, _, rfl⟩
            rw [take_snoc1 hr2] at hr'
            rcases List.mem_append.mp hr' with h | h
            · exact okj r' h
            · rw [List.mem_singleton.mp h]; exact ⟨by omega, by omega⟩
        · rintro σ H5 ⟨E5, okj, w8, w9, rfl⟩
          refine ⟨E3.trans (E4.trans E5), fun s' hs' => ?_, _, _, _, _, _, rfl⟩
          rw [take_snoc1 hsg] at hs'
          rcases List.mem_append.mp hs' with h | h
          · exact okr s' h
          · rw [List.mem_singleton.mp h]; exact ⟨okj _ (by simp), okj _ (by simp)⟩
      · rintro σ H3 ⟨E3, okr, y5, y6, y7, y8, y9, rfl⟩
        rw [List.length_map, lA, List.take_length] at okr
        have e03 := e02.trans E3
        have hlf3 := (E2.trans E3) _ _ h1
        -- _parents
        refine ⟨_, rfl, (by show 1 ≤ sizeLine; decide), fun m1 nm1 => ?_⟩
        have E4 : Ex H3 (upd H3 m1 (.lst [.int (-1)])) := Ex.new nm1
        have h4 : upd H3 m1 (.lst [.int (-1)]) m1 = some (.lst [.int (-1)]) := upd_same
        generalize upd H3 m1 (.lst [.int (-1)]) = H4 at *
        refine ⟨_, rfl, lf, rfl, ⟨_, SqL.of (E4 _ _ hlf3)⟩, fun L1 nL1 => wk_list (K := K) (a := lf) (xs := as.map V.ref) (fun j H' => Ex H4 H' ∧ H' L1 = some (.lst (((segs.take j).map (·.above)).map V.int))) ⟨Ex.new nL1, upd_same⟩ (fun j H' _ z => SqL.of (z.1 _ _ (E4 _ _ hlf3))) ?_ ?_⟩
        · rintro j y H5 hy ⟨E5, hL⟩
          obtain ⟨b, hb, rfl⟩ := refs_get hy
          obtain ⟨sg, hsg, ra, ca, s1, s2, s3⟩ := hA.at_ hb
          have e05 := e03.trans (E4.trans E5)
          refine ⟨b, _, rfl, SqT.of (e05 _ _ s1), rfl, _, _, rfl, _, _, rfl, _, _, rfl, rfl, rfl, tYes_in ?_⟩
          simp only [wipe, _root_.L2.start, List.map_cons, List.map_nil, List.length_cons, List.length_nil, Nat.reduceAdd, Nat.reduceSub, List.replicate_succ, List.replicate_zero, List.cons_append, List.nil_append, List.set_cons_zero, List.set_cons_succ]
          refine ⟨_, rfl, _, hL, sz_lt (by rw [List.length_map, List.length_map, List.length_take]; omega), E5.mut nL1, ?_⟩
          rw [upd_same, take_snoc1 hsg, List.map_append, List.map_append]; rfl
        · rintro H5 ⟨E5, hL⟩
          rw [List.length_map, lA, List.take_length] at hL
          refine ⟨m1, L1, _, _, rfl, rfl, E5 _ _ h4, hL, sz_of (by rw [List.length_map, List.length_map]; show 1 + _ ≤ _; omega), fun pl npl => ?_⟩
          have e45 := E4.trans E5
          have E6 : Ex H5 (upd H5 pl (.lst ([.int (-1)] ++ (segs.map (·.above)).map V.int))) := Ex.new npl
          have hpl6 : upd H5 pl (.lst ([.int (-1)] ++ (segs.map (·.above)).map V.int)) pl = some (.lst ((parL segs).map V.int)) := upd_same
          have npl0 : H pl = none := fresh_back (e03.trans e45) npl
          generalize upd H5 pl (.lst ([.int (-1)] ++ (segs.map (·.above)).map V.int)) = H6 at *
          have e06 := e03.trans (e45.trans E6)
          have hx6 := e06 _ _ hx
          have nplx : pl ≠ x := (ne_of_none hx npl0).symm
          have hlfx : lf ≠ x := (ne_of_none hx nlf).symm
          have segx : ∀ {H' : Hp} {b : Addr} {sg : SegD}, ExBut x H H' → SegAt H b sg → SegAt H' b sg := fun {H' b sg} eb z => by
            obtain ⟨ra, ca, a1, a2, a3⟩ := z
            exact ⟨ra, ca, eb _ _ a1 (ne_of a1 hx (by intro y; cases y)), eb _ _ a2 (ne_of a2 hx (by intro y; cases y)), eb _ _ a3 (ne_of a3 hx (by intro y; cases y))⟩
          refine ⟨_, rfl, x, C, dx, [], rfl, hx6, W.cl, W.n_parents, (by show 0 < 1000; decide), ?_⟩
          have B7 : ExBut x H (upd H6 x (.ins C dx (putF "_parents" (.ref pl) []))) := (ExBut.of e06).trans ExBut.put
          have hx7 : upd H6 x (.ins C dx (putF "_parents" (.ref pl) [])) x = some (.ins C dx (putF "_parents" (.ref pl) [])) := upd_same
          have hlf7 : upd H6 x (.ins C dx (putF "_parents" (.ref pl) [])) lf = some (.lst (as.map V.ref)) := by rw [upd_ne hlfx]; exact (e45.trans E6) _ _ hlf3
          have hpl7 : upd H6 x (.ins C dx (putF "_parents" (.ref pl) [])) pl = some (.lst ((parL segs).map V.int)) := by rw [upd_ne nplx]; exact hpl6
          generalize upd H6 x (.ins C dx (putF "_parents" (.ref pl) [])) = H7 at *
          have hA7 := hA.imp fun _ _ z => segx B7 z
          -- _resistances
          refine ⟨_, rfl, lf, rfl, ⟨_, SqL.of hlf7⟩, fun L2 nL2 => wk_list (K := K) (a := lf) (xs := as.map V.ref) (fun j H' => Ex H7 H' ∧ ∃ rl : List Addr, H' L2 = some (.lst (rl.map V.ref)) ∧ All2 (PrAt H7) rl ((segs.take j).map (·.res))) ⟨Ex.new nL2, [], upd_same, .nil⟩ (fun j H' _ z => SqL.of (z.1 _ _ hlf7)) ?_ ?_⟩
          · rintro j y H8 hy ⟨E8, rl, hL2, hrl⟩
            obtain ⟨b, hb, rfl⟩ := refs_get hy
            obtain ⟨sg, hsg, ra, ca, s1, s2, s3⟩ := hA7.at_ hb
            have hj : j < segs.length := (List.getElem?_eq_some_iff.mp hsg).1
            refine ⟨b, _, rfl, SqT.of (E8 _ _ s1), rfl, _, _, rfl, _, _, rfl, _, _, rfl, rfl, rfl, tYes_in ?_⟩
            simp only [wipe, _root_.L2.start, List.map_cons, List.map_nil, List.length_cons, List.length_nil, Nat.reduceAdd, Nat.reduceSub, List.replicate_succ, List.replicate_zero, List.cons_append, List.nil_append, List.set_cons_zero, List.set_cons_succ]
            refine ⟨_, rfl, ra, _, rfl, .inr ⟨SqT.of (E8 _ _ s2), _, hL2, sz_lt (by rw [List.length_map, hrl.1, List.length_map, List.length_take]; omega), E8.mut nL2, rl ++ [ra], by rw [upd_same, List.map_append]; rfl, ?_⟩⟩
            rw [take_snoc1 hsg, List.map_append]
            exact hrl.snoc s2
          rintro H8 ⟨E8, rl, hL2, hrl⟩
          rw [List.length_map, lA, List.take_length] at hrl
          have nL20 : H L2 = none := by
            cases e : H L2 with
            | none => rfl
            | some o =>
              by_cases z : L2 = x
              · rw [z, hx7] at nL2; cases nL2
              · have := B7 _ _ e z
                rw [nL2] at this; cases this
          have nL2x : L2 ≠ x := (ne_of_none hx nL20).symm
          refine ⟨_, rfl, x, C, dx, _, rfl, E8 _ _ hx7, W.cl, W.n_resistances, (by show 1 < 1000; decide), ?_⟩
          have B9 : ExBut x H7 (upd H8 x (.ins C dx (putF "_resistances" (.ref L2) (putF "_parents" (.ref pl) [])))) := (ExBut.of E8).trans ExBut.put
          have hx9 : upd H8 x (.ins C dx (putF "_resistances" (.ref L2) (putF "_parents" (.ref pl) []))) x = some (.ins C dx (putF "_resistances" (.ref L2) (putF "_parents" (.ref pl) []))) := upd_same
          have hL29 : upd H8 x (.ins C dx (putF "_resistances" (.ref L2) (putF "_parents" (.ref pl) []))) L2 = some (.lst (rl.map V.ref)) := by rw [upd_ne nL2x]; exact hL2
          generalize upd H8 x (.ins C dx (putF "_resistances" (.ref L2) (putF "_parents" (.ref pl) []))) = H9 at *
          have hlf9 := B9 _ _ hlf7 hlfx
          have hpl9 := B9 _ _ hpl7 nplx
          have B09 := B7.trans B9
          have hA9 := hA.imp fun _ _ z => segx B09 z
          have hrl9 : All2 (PrAt H9) rl (segs.map (·.res)) := hrl.imp fun _ _ z => B9 _ _ z (ne_of z hx7 (by intro y; cases y))
          -- _capacitances
          refine ⟨_, rfl, lf, rfl, ⟨_, SqL.of hlf9⟩, fun L3 nL3 => wk_list (K := K) (a := lf) (xs := as.map V.ref) (fun j H' => Ex H9 H' ∧ ∃ cl : List Addr, H' L3 = some (.lst (cl.map V.ref)) ∧ All2 (PrAt H9) cl ((segs.take j).map (·.cap))) ⟨Ex.new nL3, [], upd_same, .nil⟩ (fun j H' _ z => SqL.of (z.1 _ _ hlf9)) ?_ ?_⟩
          · rintro j y H10 hy ⟨E10, cl, hL3, hcl⟩
            obtain ⟨b, hb, rfl⟩ := refs_get hy
            obtain ⟨sg, hsg, ra, ca, s1, s2, s3⟩ := hA9.at_ hb
            have hj : j < segs.length := (List.getElem?_eq_some_iff.mp hsg).1
            refine ⟨b, _, rfl, SqT.of (E10 _ _ s1), rfl, _, _, rfl, _, _, rfl, _, _, rfl, rfl, rfl, tYes_in ?_⟩
            simp only [wipe, _root_.L2.start, List.map_cons, List.map_nil, List.length_cons, List.length_nil, Nat.reduceAdd, Nat.reduceSub, List.replicate_succ, List.replicate_zero, List.cons_append, List.nil_append, List.set_cons_zero, List.set_cons_succ]
            refine ⟨_, rfl, ca, _, rfl, .inr ⟨SqT.of (E10 _ _ s3), _, hL3, sz_lt (by rw [List.length_map, hcl.1, List.length_map, List.length_take]; omega), E10.mut nL3, cl ++ [ca], by rw [upd_same, List.map_append]; rfl, ?_⟩⟩
            rw [take_snoc1 hsg, List.map_append]
            exact hcl.snoc s3
          rintro H10 ⟨E10, cl, hL3, hcl⟩
          rw [List.length_map, lA, List.take_length] at hcl
          have nL30 : H L3 = none := by
            cases e : H L3 with
            | none => rfl
            | some o =>
              by_cases z : L3 = x
              · rw [z, hx9] at nL3; cases nL3
              · have := B09 _ _ e z
                rw [nL3] at this; cases this
          have nL3x : L3 ≠ x := (ne_of_none hx nL30).symm
          refine ⟨_, rfl, x, C, dx, _, rfl, E10 _ _ hx9, W.cl, W.n_capacitances, (by show 2 < 1000; decide), ?_⟩
          have B11 : ExBut x H9 (upd H10 x (.ins C dx (tfl pl L2 L3))) := (ExBut.of E10).trans ExBut.put
          exact q hPar okr pl L2 L3 _ npl0 nL20 nL30 (B09.trans B11) ⟨⟨dx, upd_same⟩, B11 _ _ hpl9 nplx, ⟨rl, B11 _ _ hL29 nL2x, hrl9.imp fun _ _ z => B11 _ _ z (ne_of z hx9 (by intro y; cases y))⟩, ⟨cl, by rw [upd_ne nL3x]; exact hL3, hcl.imp fun _ _ z => B11 _ _ z (ne_of z hx9 (by intro y; cases y))⟩⟩
end
end G
namespace G
open PySem PySem.Spec PyProof.Rows L2 Evl TL
/-! ## the way from a node to the root -/
def parN (segs : List SegD) (n : Nat) : Nat := ((segs.map (·.above)).getD (n - 1) 0).toNat
def ancF (segs : List SegD) : Nat → Nat → List Nat
  | 0, n => [n]
  | f + 1, n => if n = 0 then [0] else n :: ancF segs f (parN segs n)
def anc (segs : List SegD) (n : Nat) : List Nat := ancF segs n n
theorem par_lt {segs : List SegD} (h : ParOk segs) {n : Nat} (h0 : n ≠ 0) (h1 : n ≤ segs.length) : parN segs n < n := by
  have hs : segs[n - 1]? = some (segs[n - 1]'(by omega)) := List.getElem?_eq_getElem (by omega)
  have := h (n - 1) _ hs
  unfold parN
  rw [List.getD_eq_getElem?_getD, List.getElem?_map, hs]
  show (segs[n - 1]'(by omega)).above.toNat < n
  omega
theorem par_at {segs : List SegD} (h : ParOk segs) {n : Nat} (h0 : n ≠ 0) (h1 : n ≤ segs.length) : (parL segs)[n]? = some ((parN segs n : Nat) : Int) := by
  have hs : segs[n - 1]? = some (segs[n - 1]'(by omega)) := List.getElem?_eq_getElem (by omega)
  have := h (n - 1) _ hs
  obtain ⟨m, rfl⟩ : ∃ m, n = m + 1 := ⟨n - 1, by omega⟩
  have hs' : segs[m]? = some (segs[m]'(by omega)) := List.getElem?_eq_getElem (by omega)
  have h2 := h m _ hs'
  have e : (segs.map fun s : SegD => s.above)[m]? = some (segs[m]'(by omega)).above := by rw [List.getElem?_map, hs']; rfl
  unfold parL parN
  show (segs.map fun s : SegD => s.above)[m]? = some ((((segs.map fun s : SegD => s.above).getD m 0).toNat : Nat) : Int)
  rw [List.getD_eq_getElem?_getD, e]
  show some _ = some ((((segs[m]'(by omega)).above).toNat : Nat) : Int)
  rw [Int.toNat_of_nonneg h2.1]
theorem ancF_enough {segs : List SegD} (h : ParOk segs) : ∀ (n f : Nat), n ≤ segs.length → n ≤ f → ancF segs f n = anc segs n := by
  intro n
  induction n using Nat.strongRecOn with
  | _ n ih =>
    intro f hn hf
    unfold anc
    by_cases h0 : n = 0
    · subst h0
      cases f with
      | zero => rfl
      | succ f => rfl
    · have hp := par_lt h h0 hn
      obtain ⟨m, rfl⟩ : ∃ m, n = m + 1 := ⟨n - 1, by omega⟩
      obtain ⟨g, rfl⟩ : ∃ g, f = g + 1 := ⟨f - 1, by omega⟩
      show (if m + 1 = 0 then [0] else (m + 1) :: ancF segs g (parN segs (m + 1))) = (if m + 1 = 0 then [0] else (m + 1) :: ancF segs m (parN segs (m + 1)))
      rw [if_neg h0, if_neg h0, ih _ hp g (by omega) (by omega), ih _ hp m (by omega) (by omega)]
theorem anc_zero (segs : List SegD) : anc segs 0 = [0] := rfl
theorem anc_step {segs : List SegD} (h : ParOk segs) {n : Nat} (h0 : n ≠ 0) (hn : n ≤ segs.length) : anc segs n = n :: anc segs (parN segs n) := by
  have hp := par_lt h h0 hn
  obtain ⟨m, rfl⟩ : ∃ m, n = m + 1 := ⟨n - 1, by omega⟩
  show (if m + 1 = 0 then [0] else (m + 1) :: ancF segs m (parN segs (m + 1))) = _
  rw [if_neg h0, ancF_enough h _ m (by omega) (by omega)]
theorem anc_le {segs : List SegD} (h : ParOk segs) : ∀ n, n ≤ segs.length → ∀ k ∈ anc segs n, k ≤ n := by
  intro n
  induction n using Nat.strongRecOn with
  | _ n ih =>
    intro hn k hk
    by_cases h0 : n = 0
    · subst h0
      rw [anc_zero] at hk
      rw [List.mem_singleton.mp hk]; exact Nat.le_refl _
    · rw [anc_step h h0 hn] at hk
      have hp := par_lt h h0 hn
      rcases List.mem_cons.mp hk with z | z
      · omega
      · have := ih _ hp (by omega) k z; omega
theorem anc_self {segs : List SegD} (h : ParOk segs) {n : Nat} (hn : n ≤ segs.length) : n ∈ anc segs n := by
  by_cases h0 : n = 0
  · subst h0; rw [anc_zero]; exact List.mem_singleton.mpr rfl
  · rw [anc_step h h0 hn]; exact List.mem_cons_self ..
theorem anc_len {segs : List SegD} (h : ParOk segs) : ∀ n, n ≤ segs.length → (anc segs n).length ≤ n + 1 := by
  intro n
  induction n using Nat.strongRecOn with
  | _ n ih =>
    intro hn
    by_cases h0 : n = 0
    · subst h0; exact Nat.le_refl _
    · have hp := par_lt h h0 hn
      rw [anc_step h h0 hn, List.length_cons]
      have := ih _ hp (by omega); omega
def natsV (l : List Nat) : List V := l.map fun n : Nat => V.int (n : Int)
section
variable {P : Program} {w : World} {K : PySem.W.Frag} {mg : Str → Option Value} {base : Heap}
def spCheck (C B : Addr) : Sp := fun vs H Q E => ∃ (x p r c : Addr) (segs : List SegD) (n : Int), vs = [.ref x, .int n] ∧ TreeAt C H x p r c segs ∧ ((0 ≤ n ∧ n ≤ segs.length) → Q .non H) ∧ (¬ (0 ≤ n ∧ n ≤ segs.length) → ∀ H', Ex H H' → E (.ref B) none H')
theorem sc_WireTree_check_node : FnScope ["self", "node"] ["self", "node"] (defScope s_WireTree_check_node) := ⟨rfl, rfl, rfl, by decide +kernel, rfl, by decide +kernel, by decide +kernel⟩
theorem ok_WireTree_check_node {C B : Addr} {f : Addr} {fd : FuncData} (F : Fun K "_check_node" "WireTree._check_node" s_WireTree_check_node f fd) (W : Cl_WireTree K mg C) (T : TxtT mg) (UB : ExcT K mg "BadArgument" B) : FnOk P w K mg base (L2.CX P w) 1 f fd ["self", "node"] (spCheck C B) := by
  refine F.okX sc_WireTree_check_node (fun vs H Q E h => ?_) (fun cdv A outer s H vs Q E hr h => ?_)
  · obtain ⟨x, p, r, c, segs, n, rfl, _⟩ := h
    rfl
  · obtain ⟨x, p, r, c, segs, n, rfl, ⟨⟨dx, h1⟩, h2, _, _⟩, q1, q2⟩ := h
    refine ⟨_, (pss_one (ps_if (PW.pt (pw_or (pt_cmpR op_lt (pv 1) pe_int (nomark _)) (pw_or1 (pt_cmpR op_ge (pv 1) (pe_callB call_len_seq (by rfl) T.len (by decide +kernel) (pa_cons (pe_fld (pv 0) rfl) pa_nil)) (nomark _)))))
      (pss_one (ps_raise rfl (takes_of rfl rfl rfl rfl) (pmk_ownA PySem.F.excBase_ValueError UB.xP UB.gC UB.kC (raises_own UB.bC UB.tC) rfl (pa_cons pe_str pa_nil))))
      pss_nil)), ?_⟩
    have hlen : ((parL segs).map V.int).length = segs.length + 1 := by rw [List.length_map]; unfold parL; rw [List.length_cons, List.length_map]
    refine ⟨_, rfl, _, _, rfl, rfl, _, rfl, ite2 (fun c1 => ?_) (fun c1 => ⟨_, rfl, _, rfl, x, C, dx, _, _, rfl, h1, W.cl, W.n_parents, tfl_p _ _ _, _, _, rfl, .inl (SqL.of h2), _, _, rfl, rfl, _, rfl, ?_⟩)⟩
    · exact iteT ⟨(by show 1 ≤ sizeLine; decide), q2 (fun z => by have := of_decide_eq_true c1; omega) H (Ex.refl _)⟩
    · rw [hlen]
      refine ite2 (fun c2 => ?_) (fun c2 => ?_)
      · exact ⟨(by show 1 ≤ sizeLine; decide), q2 (fun z => by have := of_decide_eq_true c2; omega) H (Ex.refl _)⟩
      · have k1 : ¬ n < 0 := fun z => c1 (decide_eq_true z)
        have k2 : ¬ n ≥ ((segs.length + 1 : Nat) : Int) := fun z => c2 (decide_eq_true z)
        exact q1 (by omega)
def spPath (C B : Addr) : Sp := fun vs H Q E => ∃ (x p r c : Addr) (segs : List SegD) (n : Int), vs = [.ref x, .int n] ∧ TreeAt C H x p r c segs ∧ ParOk segs ∧ segs.length ≤ 100 ∧ (∀ (m : Nat), n = (m : Int) → m ≤ segs.length → ∀ (l : Addr) (H' : Hp), Ex H H' → H l = none → H' l = some (.lst (natsV (anc segs m).reverse)) → Q (.ref l) H') ∧ (¬ (0 ≤ n ∧ n ≤ segs.length) → ∀ H', Ex H H' → E (.ref B) none H')
theorem sc_WireTree_path : FnScope ["self", "node", "found"] ["self", "node"] (defScope s_WireTree_path) := ⟨rfl, rfl, rfl, by decide +kernel, rfl, by decide +kernel, by decide +kernel⟩
theorem ok_WireTree_path {C B f0 : Addr} {d0 : FuncData} {f : Addr} {fd : FuncData} (F : Fun K "path" "WireTree.path" s_WireTree_path f fd) (W : Cl_WireTree K mg C)
    (M_WireTree_check_node : Meth K C "_check_node" f0) (G_WireTree_check_node : FnOk P w K mg base (L2.CX P w) 1 f0 d0 ["self", "node"] (spCheck C B)) (b_WireTree_check_node : Binds K d0 ["self", "node"] []) : FnOk P w K mg base (L2.CX P w) 2 f fd ["self", "node"] (spPath C B) := by
  have c_WireTree := W.cl
  refine F.okX sc_WireTree_path (fun vs H Q E h => ?_) (fun cdv A outer s H vs Q E hr h => ?_)
  · obtain ⟨x, p, r, c, segs, n, rfl, _⟩ := h
    rfl
  · obtain ⟨x, p, r, c, segs, n, rfl, hT, hPar, hsl, q1, q2⟩ := h
    obtain ⟨⟨dx, h1⟩, h2, _, _⟩ := id hT
    refine ⟨_, (pss_cons (ps_expr (pe_meth (pv 0) c_WireTree M_WireTree_check_node G_WireTree_check_node (hr.mono (by omega)) b_WireTree_check_node .nil (passes_call (takes_of rfl rfl rfl rfl) fun _ _ _ _ h => h) (pa_cons (pv 1) pa_nil)))
    (pss_cons (ps_set (i := 2) sc_WireTree_path.nd rfl (.inl rfl) (pe_lst pa_nil))
    (pss_cons (ps_while (passes_of rfl) (pt_cmpR op_ge (pv 1) pe_int (nomark _))
      (pss_cons (ps_expr (pe_bm PySem.F.plainAttrs_list PySem.F.slot_list_append PySem.F.type_list_append mt_append (pv 2) (pa_cons (pv 1) pa_nil)))
      (pss_one (ps_set (i := 1) sc_WireTree_path.nd rfl (.inl rfl) (pe_ix ix_list (pe_fld (pv 0) rfl) (pv 1) (fun _ _ => rfl))))))
    (pss_one (ps_ret (pe_revL (pv 2))))))), ?_⟩
    refine ⟨_, rfl, x, dx, _, rfl, h1, tfl_no _ _ _ (by decide +kernel) (by decide +kernel) (by decide +kernel), _, rfl, x, p, r, c, segs, n, rfl, hT, fun hn => ?_, q2⟩
    obtain ⟨m0, rfl⟩ : ∃ m0 : Nat, n = (m0 : Int) := ⟨n.toNat, by omega⟩
    have hm0 : m0 ≤ segs.length := by omega
    refine ⟨Nat.zero_le _, fun l nl => ?_⟩
    have E1 : Ex H (upd H l (.lst [])) := Ex.new nl
    refine ⟨fun μ σ H' => Ex H H' ∧ ∃ (pre : List Nat) (z : Int), H' l = some (.lst (natsV pre)) ∧ pre.length ≤ 200 ∧ σ = [some (.ref x), some (.int z), some (.ref l)] ∧ ((z = -1 ∧ pre = anc segs m0 ∧ μ = 0) ∨ ∃ m : Nat, z = (m : Int) ∧ m ≤ segs.length ∧ pre ++ anc segs m = anc segs m0 ∧ μ = m + 1),
      ⟨_, E1, [], (m0 : Int), upd_same, Nat.zero_le _, rfl, .inr ⟨m0, rfl, hm0, rfl, rfl⟩⟩, ?_⟩
    rintro μ σ H1 ⟨E1, pre, z, hl, hpl, rfl, hz⟩
    refine ⟨_, rfl, _, _, rfl, rfl, _, rfl, ite2 (fun c1 => ?_) (fun c1 => ?_)⟩
    · obtain ⟨m, rfl, hm, hpre, rfl⟩ : ∃ m : Nat, z = (m : Int) ∧ m ≤ segs.length ∧ pre ++ anc segs m = anc segs m0 ∧ μ = m + 1 := by
        rcases hz with ⟨z1, _⟩ | z1
        · have := of_decide_eq_true c1; omega
        · exact z1
      have hpl2 : pre.length ≤ 100 := by
        have h3 := congrArg List.length hpre
        have h4 := anc_len hPar m0 hm0
        have h5 : 0 < (anc segs m).length := List.length_pos_of_mem (anc_self hPar hm)
        rw [List.length_append] at h3
        omega
      refine ⟨fun σ' H' => Ex H H' ∧ ∃ (pre' : List Nat) (z' : Int), H' l = some (.lst (natsV pre')) ∧ pre'.length ≤ 200 ∧ σ' = [some (.ref x), some (.int z'), some (.ref l)] ∧ ((z' = -1 ∧ pre' = anc segs m0) ∨ ∃ m' : Nat, m' < m ∧ z' = (m' : Int) ∧ m' ≤ segs.length ∧ pre' ++ anc segs m' = anc segs m0), ?_, ?_⟩
      · rintro σ' H' ⟨E', pre', z', a1, a2, rfl, a3⟩
        rcases a3 with ⟨b1, b2⟩ | ⟨m', b1, b2, b3, b4⟩
        · exact ⟨0, by omega, E', pre', z', a1, a2, rfl, .inl ⟨b1, b2, rfl⟩⟩
        · exact ⟨m' + 1, by omega, E', pre', z', a1, a2, rfl, .inr ⟨m', b2, b3, b4, rfl⟩⟩
      · refine ⟨_, rfl, .inl ⟨rfl, _, SqL.of hl⟩, _, rfl, l, _, .int (m : Int), rfl, rfl, hl, sz_lt (by unfold natsV; rw [List.length_map]; omega), ?_⟩
        have E2 : Ex H (upd H1 l (.lst (natsV pre ++ [.int (m : Int)]))) := E1.mut nl
        have hl2 : upd H1 l (.lst (natsV pre ++ [.int (m : Int)])) l = some (.lst (natsV (pre ++ [m]))) := by rw [upd_same]; unfold natsV; rw [List.map_append]; rfl
        generalize upd H1 l (.lst (natsV pre ++ [.int (m : Int)])) = H2 at *
        have hl20 : (pre ++ [m]).length ≤ 200 := by rw [List.length_append]; show _ + 1 ≤ _; omega
        by_cases h0 : m = 0
        · subst h0
          refine ⟨_, rfl, x, C, dx, _, _, rfl, E2 _ _ h1, W.cl, W.n_parents, tfl_p _ _ _, _, rfl, _, _, _, _, rfl, rfl, SqL.of (E2 _ _ h2), atI_nat (j := 0) rfl, E2, pre ++ [0], -1, hl2, hl20, rfl, .inl ⟨rfl, ?_⟩⟩
          rw [← hpre, anc_zero]
        · have hg := par_at hPar h0 hm
          have hlt := par_lt hPar h0 hm
          refine ⟨_, rfl, x, C, dx, _, _, rfl, E2 _ _ h1, W.cl, W.n_parents, tfl_p _ _ _, _, rfl, _, _, _, _, rfl, rfl, SqL.of (E2 _ _ h2), atI_nat (j := m) (by rw [List.getElem?_map, hg]; rfl), E2, pre ++ [m], _, hl2, hl20, rfl, .inr ⟨parN segs m, hlt, rfl, by omega, ?_⟩⟩
          rw [← hpre, anc_step hPar h0 hm, List.append_assoc]; rfl
    · have hfin : pre = anc segs m0 := by
        rcases hz with ⟨_, z1, _⟩ | ⟨m, rfl, _⟩
        · exact z1
        · exact absurd (decide_eq_true (by omega : (m : Int) ≥ 0)) c1
      subst hfin
      refine ⟨_, rfl, l, _, rfl, SqL.of hl, fun q nq => q1 m0 rfl hm0 q _ (E1.trans (Ex.new nq)) (fresh_back E1 nq) ?_⟩
      rw [upd_same]; unfold natsV; rw [List.map_reverse]
end
end G
namespace G
open PySem PySem.Spec PyProof.Rows L2
/-! ## loads and delays of a tree: sums over the nodes at and below -/
def sumN : Nat → (Nat → Int) → Int
  | 0, _ => 0
  | n + 1, f => sumN n f + f n
theorem sumN_congr {f g : Nat → Int} : ∀ {n : Nat}, (∀ k, k < n → f k = g k) → sumN n f = sumN n g
  | 0, _ => rfl
  | n + 1, h => by
    show sumN n f + f n = sumN n g + g n
    rw [sumN_congr (fun k hk => h k (by omega)), h n (by omega)]
theorem sumN_le {f g : Nat → Int} : ∀ {n : Nat}, (∀ k, k < n → f k ≤ g k) → sumN n f ≤ sumN n g
  | 0, _ => Int.le_refl _
  | n + 1, h => by
    have h1 := sumN_le (n := n) (fun k hk => h k (by omega))
    have h2 := h n (by omega)
    show sumN n f + f n ≤ sumN n g + g n
    omega
theorem sumN_zero : ∀ {n : Nat} {f : Nat → Int}, (∀ k, k < n → f k = 0) → sumN n f = 0
  | 0, _, _ => rfl
  | n + 1, f, h => by
    show sumN n f + f n = 0
    rw [sumN_zero (fun k hk => h k (by omega)), h n (by omega)]; rfl
theorem sumN_put {f g : Nat → Int} {p : Nat} {c : Int} : ∀ {n : Nat}, p < n → (∀ k, k < n → g k = if k = p then f k + c else f k) → sumN n g = sumN n f + c
  | n + 1, hp, h => by
    show sumN n g + g n = sumN n f + f n + c
    by_cases e : n = p
    · subst e
      rw [h n (by omega), if_pos rfl, sumN_congr (f := g) (g := f) fun k hk => by rw [h k (by omega), if_neg (by omega)]]
      omega
    · rw [sumN_put (n := n) (by omega) (fun k hk => h k (by omega)), h n (by omega), if_neg e]
      omega
def loadV (segs : List SegD) (cs : List Int) (i : Nat) : Int := sumN (segs.length + 1) fun k => if i ∈ anc segs k then (0 :: cs).getD k 0 else 0
def delayV (segs : List SegD) (fs cs : List Int) (n : Nat) : Int := (((anc segs n).reverse.drop 1).map fun k => fs.getD (k - 1) 0 * loadV segs cs k).sum
structure LInv (segs : List SegD) (cs : List Int) (j : Nat) (ls : List Int) : Prop where
  len : ls.length = segs.length + 1
  low : ∀ i, i ≤ j → sumN (j + 1) (fun k => if i ∈ anc segs k then ls.getD k 0 else 0) = loadV segs cs i
  high : ∀ i, j < i → i ≤ segs.length → ls.getD i 0 = loadV segs cs i
theorem LInv.start {segs : List SegD} {cs : List Int} (h : cs.length = segs.length) : LInv segs cs segs.length (0 :: cs) :=
  ⟨by rw [List.length_cons, h], fun i hi => rfl, fun i h1 h2 => by omega⟩
theorem getD_set {l : List Int} {p k : Nat} {v : Int} (hp : p < l.length) : (l.set p v).getD k 0 = if k = p then v else l.getD k 0 := by
  rw [List.getD_eq_getElem?_getD, List.getD_eq_getElem?_getD, List.getElem?_set]
  by_cases e : p = k
  · subst e
    rw [if_pos rfl, if_pos hp, if_pos rfl]; rfl
  · rw [if_neg e, if_neg (Ne.symm e)]
theorem LInv.self {segs : List SegD} {cs ls : List Int} {j : Nat} (hP : ParOk segs) (L : LInv segs cs j ls) (h : j ≤ segs.length) : ls.getD j 0 = loadV segs cs j := by
  rw [← L.low j (Nat.le_refl _)]
  show _ = sumN j _ + (if j ∈ anc segs j then ls.getD j 0 else 0)
  rw [if_pos (anc_self hP h), sumN_zero fun k hk => if_neg fun z => by have := anc_le hP k (by omega) j z; omega]
  omega
theorem LInv.step {segs : List SegD} {cs ls : List Int} {j : Nat} (hP : ParOk segs) (L : LInv segs cs (j + 1) ls) (h : j + 1 ≤ segs.length) : LInv segs cs j (ls.set (parN segs (j + 1)) (ls.getD (parN segs (j + 1)) 0 + ls.getD (j + 1) 0)) := by
  have hp : parN segs (j + 1) < j + 1 := par_lt hP (Nat.succ_ne_zero j) h
  have hpl : parN segs (j + 1) < ls.length := by rw [L.len]; omega
  refine ⟨by rw [List.length_set]; exact L.len, fun i hi => ?_, fun i h1 h2 => ?_⟩
  · rw [← L.low i (by omega)]
    show _ = sumN (j + 1) _ + (if i ∈ anc segs (j + 1) then ls.getD (j + 1) 0 else 0)
    refine sumN_put (p := parN segs (j + 1)) hp fun k hk => ?_
    rw [getD_set hpl]
    have e : i ∈ anc segs (j + 1) ↔ i ∈ anc segs (parN segs (j + 1)) := by
      rw [anc_step hP (Nat.succ_ne_zero j) h, List.mem_cons]
      exact ⟨fun z => z.resolve_left (by omega), .inr⟩
    by_cases hk' : k = parN segs (j + 1)
    · subst hk'
      rw [if_pos rfl, if_pos rfl]
      by_cases z : i ∈ anc segs (parN segs (j + 1))
      · rw [if_pos z, if_pos z, if_pos (e.mpr z)]
      · rw [if_neg z, if_neg z, if_neg fun y => z (e.mp y)]; rfl
    · rw [if_neg hk', if_neg hk']
  · rw [getD_set hpl, if_neg (by omega)]
    rcases Nat.lt_or_eq_of_le (show j + 1 ≤ i from h1) with z | z
    · exact L.high i z h2
    · subst z; exact L.self hP h
theorem LInv.done {segs : List SegD} {cs ls : List Int} (hP : ParOk segs) (L : LInv segs cs 0 ls) {i : Nat} (h : i ≤ segs.length) : ls.getD i 0 = loadV segs cs i := by
  rcases Nat.eq_zero_or_pos i with z | z
  · subst z; exact L.self hP h
  · exact L.high i z h
theorem anc_tail {segs : List SegD} (h : ParOk segs) : ∀ n, n ≤ segs.length → ∃ pre : List Nat, anc segs n = pre ++ [0] ∧ ∀ k ∈ pre, k ≠ 0 := by
  intro n
  induction n using Nat.strongRecOn with
  | _ n ih =>
    intro hn
    by_cases h0 : n = 0
    · subst h0; exact ⟨[], rfl, fun _ z => nomatch z⟩
    · obtain ⟨pre, e, hz⟩ := ih _ (par_lt h h0 hn) (by have := par_lt h h0 hn; omega)
      refine ⟨n :: pre, by rw [anc_step h h0 hn, e]; rfl, fun k hk => ?_⟩
      rcases List.mem_cons.mp hk with z | z
      · omega
      · exact hz k z
theorem anc_way {segs : List SegD} (h : ParOk segs) {n k : Nat} (hn : n ≤ segs.length) (hk : k ∈ (anc segs n).reverse.drop 1) : 1 ≤ k ∧ k ≤ segs.length := by
  obtain ⟨pre, e, hz⟩ := anc_tail h n hn
  rw [e, List.reverse_append] at hk
  have hk' : k ∈ pre.reverse := hk
  have h1 := hz k (List.mem_reverse.mp hk')
  have h2 := anc_le h n hn k (by rw [e]; exact List.mem_append_left _ (List.mem_reverse.mp hk'))
  omega
theorem loadV_nn {segs : List SegD} {cs : List Int} {i : Nat} (h : ∀ k, 0 ≤ cs.getD k 0) : 0 ≤ loadV segs cs i := by
  have e : sumN (segs.length + 1) (fun _ => 0) = 0 := sumN_zero fun _ _ => rfl
  rw [← e]
  refine sumN_le fun k _ => ?_
  show 0 ≤ if i ∈ anc segs k then (0 :: cs).getD k 0 else 0
  by_cases z : i ∈ anc segs k
  · rw [if_pos z]
    cases k with
    | zero => exact Int.le_refl _
    | succ k => exact h k
  · rw [if_neg z]; exact Int.le_refl _
theorem loadV_le {segs : List SegD} {cs ds : List Int} {i : Nat} (h : ∀ k, cs.getD k 0 ≤ ds.getD k 0) : loadV segs cs i ≤ loadV segs ds i := by
  refine sumN_le fun k _ => ?_
  show (if i ∈ anc segs k then (0 :: cs).getD k 0 else 0) ≤ if i ∈ anc segs k then (0 :: ds).getD k 0 else 0
  by_cases z : i ∈ anc segs k
  · rw [if_pos z, if_pos z]
    cases k with
    | zero => exact Int.le_refl _
    | succ k => exact h k
  · rw [if_neg z, if_neg z]; exact Int.le_refl _
theorem sum_map_le {l : List Nat} {f g : Nat → Int} (h : ∀ k, f k ≤ g k) : (l.map f).sum ≤ (l.map g).sum := by
  induction l with
  | nil => exact Int.le_refl _
  | cons x l ih =>
    rw [List.map_cons, List.map_cons, List.sum_cons, List.sum_cons]
    have := h x
    omega
theorem delayV_le {segs : List SegD} {fs gs cs ds : List Int} {n : Nat} (f0 : ∀ k, 0 ≤ fs.getD k 0) (c0 : ∀ k, 0 ≤ cs.getD k 0) (h1 : ∀ k, fs.getD k 0 ≤ gs.getD k 0) (h2 : ∀ k, cs.getD k 0 ≤ ds.getD k 0) : delayV segs fs cs n ≤ delayV segs gs ds n := by
  refine sum_map_le fun k => ?_
  have a0 := loadV_nn (segs := segs) (i := k) c0
  have a1 := loadV_le (segs := segs) (i := k) h2
  have b0 := f0 (k - 1)
  have b1 := h1 (k - 1)
  exact Int.mul_le_mul b1 a1 a0 (Int.le_trans b0 b1)
theorem ceil_eq {x u : Int} (hu : 0 < u) : (x + u - 1) / u = -((-x) / u) := by
  have e := Int.emod_add_mul_ediv (-x) u
  have h1 := Int.emod_nonneg (-x) (show u ≠ 0 by omega)
  have h2 := Int.emod_lt_of_pos (-x) hu
  have e2 : x + u - 1 = (u - 1 - (-x) % u) + u * (-((-x) / u)) := by
    rw [Int.mul_neg]; omega
  rw [e2, Int.add_mul_ediv_left _ _ (by omega), Int.ediv_eq_zero_of_lt (by omega) (by omega)]
  omega
theorem floor_le {x u : Int} (hu : 0 < u) : u * (x / u) ≤ x := by
  have e := Int.emod_add_mul_ediv x u
  have h1 := Int.emod_nonneg x (show u ≠ 0 by omega)
  omega
theorem ceil_ge {x u : Int} (hu : 0 < u) : x ≤ u * (-((-x) / u)) := by
  have := floor_le (x := -x) hu
  rw [Int.mul_neg]; omega
end G
namespace G
open PySem PySem.Spec PyProof.Rows L2 Evl TL
/-! ## xs[i] += v; a keyword-only default -/
theorem get_list {X : Cx} : PGet X (rIxL X.K) := by
  intro pins s σ H o i v u Q I ro ri h
  obtain ⟨p, xs, i, z, rfl, rfl, hq, he, q⟩ := h
  cases ro
  obtain ⟨t, rfl⟩ := ri
  obtain ⟨its, r, pl, hz⟩ := I.list hq
  obtain ⟨j, h1, h2, h3, h4, h5⟩ := atI_get he
  obtain ⟨w, ew, rw'⟩ := r.get h2
  have hl := r.length
  have hn := line63
  have fin : EP X pins σ Q w s := ⟨z, H, I, rw', q⟩
  by_cases h0 : 0 ≤ i
  · have hj : i.toNat = j := by
      rw [seqIndex_of h0 h5] at h1
      exact Option.some.inj h1
    exact wpAny_getItem_list pl.isList h0 (by omega) (by rw [hj]; simpa using ew) fin
  · have hj : (i + (its.toArray.size : Int)).toNat = j := by
      rw [seqIndex_neg (by omega) h4] at h1
      rw [List.size_toArray, ← hl]
      exact Option.some.inj h1
    exact wpAny_getItem_list_neg pl.isList (by omega) (by rw [List.size_toArray] <;> omega) (by omega) (by rw [hj]; simpa using ew) fin
theorem kFld {X : Cx} {K : PySem.W.Frag} {e : Expr} {f : Str} {pos : Pos} {ta : TE} (h : X.K = K) (he : PE X e ta) (hb : attributeBase e f X.env (eval e X.env) = eval e X.env) : PE X (.Attribute e f pos) (tFld K ta f) := by subst h; exact pe_fld he hb
theorem kwd1 {K : PySem.W.Frag} {x qual y : Str} {st : Stmt} {f D : Addr} {n : Nat} {ps : List Str} {v : V} {oc doc pm cdv ct : Value} {od an : Option Addr} {osl : Array (Option Value)}
    (lk : K.lookup f = some ⟨oc, od, .func (PySem.W.fnOf x qual (defArgs st) (defBody st) (defScope st) .none (.ref D) doc pm an cdv ct), osl⟩) (hcd : PySem.W.codeIn K cdv qual = true) (kp : PySem.W.keepIn K (.ref f) = true) (hq : ∃ u, PySem.W.nsIn K D y = some (some u) ∧ RelV v u)
    (h : ∀ (D : Addr) (doc pm : Value) (an : Option Addr) (cdv ct : Value) (us ks : List Value), us.length = n → ks.length = 1 →
      KwChain D ([y].zip ks) (bindArgs (PySem.W.fnOf x qual (defArgs st) (defBody st) (defScope st) .none (.ref D) doc pm an cdv ct) ⟨us, []⟩) (ps.zip (us ++ ks))) (hn : n + 1 = ps.length := by rfl) :
    ∃ ds, Vals [v] ds ∧ Binds K (PySem.W.fnOf x qual (defArgs st) (defBody st) (defScope st) .none (.ref D) doc pm an cdv ct) ps ds :=
  FunD.binds0 (kws := [(y, v)]) (f := f) ⟨⟨oc, od, .none, .ref D, doc, pm, an, cdv, ct, osl, rfl, lk, hcd, .inl ⟨rfl, rfl⟩, .inr ⟨D, rfl, fun q hq' => by
    rw [List.mem_singleton.mp hq']; exact hq⟩⟩, kp⟩ n (by intro z; cases z) hn h
section
variable {P : Program} {w : World} {K : PySem.W.Frag} {mg : Str → Option Value} {base : Heap}
structure TxtD (mg : Str → Option Value) : Prop where
  len : mg "len" = none
  range : mg "range" = none
  sum : mg "sum" = none
theorem at_int {l : List Int} {k : Int} {j : Nat} (h : k = (j : Int)) (hj : j < l.length) : atI (l.map V.int) k = some (.int (l.getD j 0)) := by
  subst h
  refine atI_nat ?_
  rw [List.getElem?_map, List.getD_eq_getElem?_getD, List.getElem?_eq_getElem hj]; rfl
def spDelay (C B WC : Addr) : Sp := fun vs H Q E => ∃ (x p r c : Addr) (segs : List SegD) (n : Nat) (fa sa : Addr) (fs cs : List Int), vs = [.ref x, .int n, .ref fa, .ref sa] ∧ TreeAt C H x p r c segs ∧ ParOk segs ∧ segs.length ≤ 100 ∧ n ≤ segs.length ∧
  H fa = some (.lst (fs.map V.int)) ∧ H sa = some (.lst (cs.map V.int)) ∧ (∀ x ∈ fs, -(2 ^ 64) < x ∧ x < 2 ^ 64) ∧ fs.length ≤ 1000 ∧ cs.length ≤ 1000 ∧
  (fs.length = segs.length → cs.length = segs.length → ∀ H', Ex H H' → Q (.int (delayV segs fs cs n)) H') ∧ (¬ (fs.length = segs.length ∧ cs.length = segs.length) → ∀ H', Ex H H' → E (.ref WC) none H')
theorem sc_WireTree_delay : FnScope ["self", "node", "resistances", "capacitances", "many", "loads", "k"] ["self", "node", "resistances", "capacitances"] (defScope s_WireTree_delay) := ⟨rfl, rfl, rfl, by decide +kernel, rfl, by decide +kernel, by decide +kernel⟩
theorem ok_WireTree_delay {C B WC f0 f1 : Addr} {d0 d1 : FuncData} {f : Addr} {fd : FuncData} (F : Fun K "delay" "WireTree.delay" s_WireTree_delay f fd) (W : Cl_WireTree K mg C) (T : TxtD mg) (UW : ExcT K mg "WrongCount" WC)
    (M_WireTree_check_node : Meth K C "_check_node" f0) (G_WireTree_check_node : FnOk P w K mg base (L2.CX P w) 1 f0 d0 ["self", "node"] (spCheck C B)) (b_WireTree_check_node : Binds K d0 ["self", "node"] [])
    (M_WireTree_path : Meth K C "path" f1) (G_WireTree_path : FnOk P w K mg base (L2.CX P w) 2 f1 d1 ["self", "node"] (spPath C B)) (b_WireTree_path : Binds K d1 ["self", "node"] []) : FnOk P w K mg base (L2.CX P w) 3 f fd ["self", "node", "resistances", "capacitances"] (spDelay C B WC) := by
  have c_WireTree := W.cl
  refine F.okX sc_WireTree_delay (fun vs H Q E h => ?_) (fun cdv A outer s H vs Q E hr h => ?_)
  · obtain ⟨x, p, r, c, segs, n, fa, sa, fs, cs, rfl, _⟩ := h
    rfl
  · obtain ⟨x, p, r, c, segs, n, fa, sa, fs, cs, rfl, hT, hPar, hsl, hn, hfa, hsa, hfb, hf1, hc1, q1, q2⟩ := h
    obtain ⟨⟨dx, h1⟩, h2, _, _⟩ := id hT
    have hlen : ((parL segs).map V.int).length = segs.length + 1 := by rw [List.length_map]; unfold parL; rw [List.length_cons, List.length_map]
    have eM : ((segs.length + 1 : Nat) : Int) - 1 = (segs.length : Int) := by omega
    have no : ∀ m : Str, ¬ m = "_capacitances" → ¬ m = "_resistances" → ¬ m = "_parents" → (tfl p r c).lookup m = none := fun m a b d => tfl_no _ _ _ a b d
    refine ⟨_, (pss_cons (ps_expr (pe_meth (pv 0) c_WireTree M_WireTree_check_node G_WireTree_check_node (hr.mono (by omega)) b_WireTree_check_node .nil (passes_call (takes_of rfl rfl rfl rfl) fun _ _ _ _ h => h) (pa_cons (pv 1) pa_nil)))
    (pss_cons (ps_set (i := 4) sc_WireTree_delay.nd rfl (.inl rfl) (pe_op op_sub (pe_callB call_len_seq (by rfl) T.len (by decide +kernel) (pa_cons (pe_fld (pv 0) rfl) pa_nil)) pe_int))
    (pss_cut (ps_if (PW.pt (pw_or (pt_cmpR op_ne (pe_callB call_len_seq (by rfl) T.len (by decide +kernel) (pa_cons (pv 2) pa_nil)) (pv 4) (nomark _)) (pw_or1 (pt_cmpR op_ne (pe_callB call_len_seq (by rfl) T.len (by decide +kernel) (pa_cons (pv 3) pa_nil)) (pv 4) (nomark _)))))
      (pss_one (ps_raise rfl (takes_of rfl rfl rfl rfl) (pmk_ownA PySem.F.excBase_ValueError UW.xP UW.gC UW.kC (raises_own UW.bC UW.tC) rfl (pa_cons pe_str pa_nil))))
      pss_nil)
    (pss_cons (ps_set (i := 5) sc_WireTree_delay.nd rfl (.inr rfl) (pe_lst (pa_cons pe_int (_root_.StX.pa_star (pv 3) pa_nil))))
    (pss_cons (ps_for (passes_of rfl) rfl (pi_range3 rfl T.range (pa_cons (pv 4) (pa_cons pe_int (pa_cons (pe_un un_neg pe_int) pa_nil)))) (pg_name (i := 6) sc_WireTree_delay.nd rfl (.inl rfl))
      (pss_one (ps_augS (pv 5) (pe_ix ix_list (pe_fld (pv 0) rfl) (pv 6) (fun _ _ => rfl)) get_list (pe_ix ix_list (pv 5) (pv 6) (fun _ _ => rfl)) ip_add set_list)))
    (pss_one (ps_ret (pe_callB (cr_sum rfl) (by rfl) T.sum (by decide +kernel) (pa_cons (pe_lc (own := [("k", 6)]) (g := gName 6) (tt := tYes) rfl sc_WireTree_delay.nd (pi_list (pe_slice sl_list (pe_meth (pv 0) c_WireTree M_WireTree_path G_WireTree_path (hr.mono (by omega)) b_WireTree_path .nil passX0 (pa_cons (pv 1) pa_nil)) (po_some pe_int) po_none)) (blkOk_by (N := ["self", "node", "resistances", "capacitances", "many", "loads", "k"]) (sc := defScope s_WireTree_delay) (own := [("k", 6)]) (by decide +kernel)) (fun _ _ _ _ _ => (pg_name (i := 6) sc_WireTree_delay.nd rfl (.inl rfl))) (fun _ _ _ _ _ => pts_nil) (fun _ _ _ _ _ => (pe_op op_mul (pe_ix (kIxL (K := K) rfl) (pv 2) (pe_op op_sub (pv 6) pe_int) (fun _ _ => rfl)) (pe_ix (kIxL (K := K) rfl) (pv 5) (pv 6) (fun _ _ => rfl))))) pa_nil))))))))), ?_⟩
    refine ⟨_, rfl, x, dx, _, rfl, h1, no "_check_node" (by decide +kernel) (by decide +kernel) (by decide +kernel), _, rfl, x, p, r, c, segs, (n : Int), rfl, hT, fun _ => ?_, fun z => absurd ⟨by omega, by omega⟩ z⟩
    refine ⟨_, rfl, x, C, dx, _, _, rfl, h1, W.cl, W.n_parents, tfl_p _ _ _, _, _, rfl, .inl (SqL.of h2), _, _, rfl, rfl, ?_⟩
    rw [hlen]
    dsimp only
    rw [eM]
    refine ⟨fun σ H' => H' = H ∧ fs.length = segs.length ∧ cs.length = segs.length ∧ σ = [some (.ref x), some (.int n), some (.ref fa), some (.ref sa), some (.int (segs.length : Int)), none, none], ?_, ?_⟩
    · have bad : ¬ (fs.length = segs.length ∧ cs.length = segs.length) → E (.ref WC) none H := fun z => q2 z H (.refl _)
      refine ⟨_, rfl, _, _, rfl, .inl (SqL.of hfa), _, rfl, rfl, _, rfl, ite2 (fun c1 => ?_) (fun c1 => ⟨_, rfl, _, _, rfl, .inl (SqL.of hsa), _, rfl, rfl, _, rfl, ite2 (fun c2 => ?_) (fun c2 => ?_)⟩)⟩
      · exact iteT ⟨(by show 1 ≤ sizeLine; decide), bad fun z => by
          rw [List.length_map, z.1] at c1
          simp at c1⟩
      · exact ⟨(by show 1 ≤ sizeLine; decide), bad fun z => by
          rw [List.length_map, z.2] at c2
          simp at c2⟩
      · rw [List.length_map] at c1 c2
        refine ⟨rfl, ?_, ?_, rfl⟩
        · have : ¬ ((!decide (V.int (fs.length : Nat) = V.int (segs.length : Nat))) = true) := c1
          simp at this
          omega
        · have : ¬ ((!decide (V.int (cs.length : Nat) = V.int (segs.length : Nat))) = true) := c2
          simp at this
          omega
    · rintro σ H' ⟨rfl, l1, l2, rfl⟩
      refine ⟨_, rfl, sa, _, rfl, .inr (SqL.of hsa), (by show _ ≤ sizeLine; exact sz_of (by rw [List.append_nil, List.length_cons, List.length_map]; omega)), fun L nL => ?_⟩
      have E1 : Ex H' (upd H' L (.lst (.int 0 :: (cs.map V.int ++ [])))) := Ex.new nL
      have hL1 : upd H' L (.lst (.int 0 :: (cs.map V.int ++ []))) L = some (.lst (((0 : Int) :: cs).map V.int)) := by rw [upd_same, List.append_nil]; rfl
      generalize upd H' L (.lst (.int 0 :: (cs.map V.int ++ []))) = H1 at *
      have eT : ((segs.length : Int) - 0).toNat = segs.length := by omega
      refine ⟨_, rfl, _, rfl, _, _, _, _, rfl, RgC.neg (by omega) (by omega) (by decide) (by decide), for_rangeC (n := ((segs.length : Int) - 0).toNat)
        (fun t σ H2 => Ex H' H2 ∧ t ≤ segs.length ∧ ∃ (ls : List Int) (z : Option V), H2 L = some (.lst (ls.map V.int)) ∧ LInv segs cs (segs.length - t) ls ∧ σ = [some (.ref x), some (.int n), some (.ref fa), some (.ref sa), some (.int (segs.length : Int)), some (.ref L), z])
        ⟨E1, Nat.zero_le _, _, _, hL1, LInv.start l2, rfl⟩ ?_ ?_⟩
      · rintro t σ H2 ht ⟨E2, _, ls, z, hL2, I2, rfl⟩
        rw [eT] at ht
        obtain ⟨j, hj⟩ : ∃ j : Nat, segs.length - t = j + 1 := ⟨segs.length - t - 1, by omega⟩
        have ek : (segs.length : Int) + ((t : Nat) : Int) * (-1) = ((j + 1 : Nat) : Int) := by omega
        rw [ek]
        rw [hj] at I2
        have hj1 : j + 1 ≤ segs.length := by omega
        have hp := par_at hPar (Nat.succ_ne_zero j) hj1
        have hpl : parN segs (j + 1) < j + 1 := par_lt hPar (Nat.succ_ne_zero j) hj1
        have hll := I2.len
        refine ⟨_, rfl, _, rfl, x, C, dx, _, _, rfl, E2 _ _ h1, W.cl, W.n_parents, tfl_p _ _ _, _, rfl, _, _, _, _, rfl, rfl, SqL.of (E2 _ _ h2), at_of (j := j + 1) rfl (by rw [List.getElem?_map, hp]; rfl), L, _, _, _, rfl, rfl, SqL.of hL2, at_int (j := parN segs (j + 1)) rfl (by omega), _, rfl, _, rfl, L, _, _, _, rfl, rfl, SqL.of hL2, at_int (j := j + 1) rfl (by omega), _, _, rfl, rfl, L, _, _, parN segs (j + 1), rfl, rfl, hL2, ixN_nat (by rw [List.length_map]; omega), E2.mut nL, by omega, _, _, by rw [upd_same, ← List.map_set], ?_, rfl⟩
        rw [show segs.length - (t + 1) = j by omega]
        exact I2.step hPar hj1
      · rintro σ H2 ⟨E2, _, ls, z, hL2, I2, rfl⟩
        rw [eT, Nat.sub_self] at I2
        have hT2 := hT.ex E2
        refine ⟨_, rfl, x, dx, _, rfl, E2 _ _ h1, no "path" (by decide +kernel) (by decide +kernel) (by decide +kernel), _, rfl, x, p, r, c, segs, (n : Int), rfl, hT2, hPar, hsl, fun m em hm l H3 E3 nl hl => ?_, fun z => absurd ⟨by omega, by omega⟩ z⟩
        obtain rfl : m = n := by omega
        have hpos : 1 ≤ (natsV (anc segs m).reverse).length := by
          have := List.length_pos_of_mem (anc_self hPar hm)
          unfold natsV; rw [List.length_map, List.length_reverse]; exact this
        have ecut : cutV (natsV (anc segs m).reverse) (some 1) none = natsV ((anc segs m).reverse.drop 1) := by
          have : cutV (natsV (anc segs m).reverse) (some ((1 : Nat) : Int)) none = _ := cutV_tail hpos
          rw [show (1 : Int) = ((1 : Nat) : Int) from rfl, this]
          unfold natsV; rw [List.map_drop]
        have hway := fun k hk => anc_way (k := k) hPar hn hk
        have hwl : ((anc segs m).reverse.drop 1).length ≤ 200 := by
          rw [List.length_drop, List.length_reverse]
          have := anc_len hPar m hn
          omega
        refine ⟨_, rfl, l, _, rfl, SqL.of hl, fun q nq => ?_⟩
        rw [ecut]
        unfold delayV at q1
        generalize (anc segs m).reverse.drop 1 = ws at *
        have E4 : Ex H3 (upd H3 q (.lst (natsV ws))) := Ex.new nq
        have hq : upd H3 q (.lst (natsV ws)) q = some (.lst (natsV ws)) := upd_same
        generalize upd H3 q (.lst (natsV ws)) = H4 at *
        have E24 := E3.trans E4
        refine ⟨q, rfl, ⟨_, SqL.of hq⟩, fun R nR => wk_list (K := K) (a := q) (xs := natsV ws) (fun j H' => Ex H4 H' ∧ H' R = some (.lst (((ws.take j).map fun k => fs.getD (k - 1) 0 * loadV segs cs k).map V.int))) ⟨Ex.new nR, upd_same⟩ (fun j H' _ z => SqL.of (z.1 _ _ hq)) ?_ ?_⟩
        · rintro j y H5 hy ⟨E5, hR⟩
          obtain ⟨k, hk, rfl⟩ : ∃ k, ws[j]? = some k ∧ y = .int (k : Int) := by
            unfold natsV at hy
            rw [List.getElem?_map] at hy
            cases e : ws[j]? with
            | none => rw [e] at hy; cases hy
            | some k => rw [e] at hy; cases hy; exact ⟨k, rfl, rfl⟩
          have hk1 := hway k (List.mem_of_getElem? hk)
          have hj : j < ws.length := (List.getElem?_eq_some_iff.mp hk).1
          have E05 := E2.trans (E24.trans E5)
          refine ⟨rfl, tYes_in ?_⟩
          simp only [wipe, _root_.L2.start, List.map_cons, List.map_nil, List.length_cons, List.length_nil, Nat.reduceAdd, Nat.reduceSub, List.replicate_succ, List.replicate_zero, List.cons_append, List.nil_append, List.set_cons_zero, List.set_cons_succ]
          have hfk : k - 1 < fs.length := by omega
          have hfx := hfb _ (List.getElem_mem (h := hfk))
          have efx : fs.getD (k - 1) 0 = fs[k - 1] := by rw [List.getD_eq_getElem?_getD, List.getElem?_eq_getElem hfk]; rfl
          refine ⟨_, rfl, _, rfl, _, _, rfl, rfl, fa, _, _, _, rfl, rfl, SqL.of (E05 _ _ hfa), at_int (j := k - 1) (by omega) hfk, _, rfl, _, rfl, L, _, _, _, rfl, rfl, SqL.of ((E24.trans E5) _ _ hL2), at_int (j := k) rfl (by rw [I2.len]; omega), _, _, rfl, rfl, .inl (by rw [efx]; exact hfx), _, hR, sz_lt (by rw [List.length_map, List.length_map, List.length_take]; omega), E5.mut nR, ?_⟩
          rw [upd_same, I2.done hPar hk1.2, take_snoc1 hk, List.map_append, List.map_append]; rfl
        rintro H5 ⟨E5, hR⟩
        have eL : (natsV ws).length = ws.length := by unfold natsV; rw [List.length_map]
        rw [eL, List.take_length] at hR
        exact ⟨R, _, rfl, SqL.of hR, q1 l1 l2 H5 (E2.trans (E24.trans E5))⟩
def pe_ (r : Int × Int) (j : Nat) : Int := [r.1, r.2].getD j 0
theorem pe_at {r : Int × Int} {j : Nat} (h : j < 2) : atI [V.int r.1, V.int r.2] ((j : Nat) : Int) = some (.int (pe_ r j)) := at_int (l := [r.1, r.2]) rfl h
def endV (segs : List SegD) (n j : Nat) : Int := delayV segs ((segs.map (·.res)).map fun r => pe_ r j) ((segs.map (·.cap)).map fun r => pe_ r j) n
def spRange (C B : Addr) : Sp := fun vs H Q E => ∃ (x p r c : Addr) (segs : List SegD) (n : Nat) (u : Int), vs = [.ref x, .int n, .int u] ∧ TreeAt C H x p r c segs ∧ ParOk segs ∧ segs.length ≤ 100 ∧ n ≤ segs.length ∧ (∀ s ∈ segs, ∀ j, -(2 ^ 64) < pe_ s.res j ∧ pe_ s.res j < 2 ^ 64) ∧ u ≤ 2 ^ 62 ∧
  (1 ≤ u → ∀ (q : Addr) (H' : Hp), Ex H H' → H q = none → H' q = some (.tup [.int (endV segs n 0 / u), .int (-((-endV segs n 1) / u))]) → Q (.ref q) H') ∧ (u < 1 → ∀ H', Ex H H' → E (.ref B) none H')
theorem sc_WireTree_delay_range : FnScope ["self", "node", "unit", "low", "high", "end", "pair"] ["self", "node", "unit"] (defScope s_WireTree_delay_range) := ⟨rfl, rfl, rfl, by decide +kernel, rfl, by decide +kernel, by decide +kernel⟩
theorem ok_WireTree_delay_range {C B WC f0 f1 : Addr} {d0 d1 : FuncData} {f : Addr} {fd : FuncData} (F : Fun K "delay_range" "WireTree.delay_range" s_WireTree_delay_range f fd) (W : Cl_WireTree K mg C) (UB : ExcT K mg "BadArgument" B)
    (M_WireTree_check_node : Meth K C "_check_node" f0) (G_WireTree_check_node : FnOk P w K mg base (L2.CX P w) 1 f0 d0 ["self", "node"] (spCheck C B)) (b_WireTree_check_node : Binds K d0 ["self", "node"] [])
    (M_WireTree_delay : Meth K C "delay" f1) (G_WireTree_delay : FnOk P w K mg base (L2.CX P w) 3 f1 d1 ["self", "node", "resistances", "capacitances"] (spDelay C B WC)) (b_WireTree_delay : Binds K d1 ["self", "node", "resistances", "capacitances"] []) : FnOk P w K mg base (L2.CX P w) 4 f fd ["self", "node", "unit"] (spRange C B) := by
  have c_WireTree := W.cl
  refine F.okX sc_WireTree_delay_range (fun vs H Q E h => ?_) (fun cdv A outer s H vs Q E hr h => ?_)
  · obtain ⟨x, p, r, c, segs, n, u, rfl, _⟩ := h
    rfl
  · obtain ⟨x, p, r, c, segs, n, u, rfl, hT, hPar, hsl, hn, hb, hu, q1, q2⟩ := h
    obtain ⟨⟨dx, h1⟩, h2, ⟨rl, hrl, hra⟩, ⟨cl, hcl, hca⟩⟩ := id hT
    have no : ∀ m : Str, ¬ m = "_capacitances" → ¬ m = "_resistances" → ¬ m = "_parents" → (tfl p r c).lookup m = none := fun m a b d => tfl_no _ _ _ a b d
    refine ⟨_, (pss_cons (ps_expr (pe_meth (pv 0) c_WireTree M_WireTree_check_node G_WireTree_check_node (hr.mono (by omega)) b_WireTree_check_node .nil (passes_call (takes_of rfl rfl rfl rfl) fun _ _ _ _ h => h) (pa_cons (pv 1) pa_nil)))
    (pss_cons (ps_if (pt_cmpR op_lt (pv 2) pe_int (nomark _))
      (pss_one (ps_raise rfl (takes_of rfl rfl rfl rfl) (pmk_ownA PySem.F.excBase_ValueError UB.xP UB.gC UB.kC (raises_own UB.bC UB.tC) rfl (pa_cons pe_str pa_nil))))
      pss_nil)
    (pss_cons (ps_asg (pe_lc (own := [("end", 5)]) (g := gName 5) (tt := tYes) rfl sc_WireTree_delay_range.nd (pi_tup (pe_tup (pa_cons pe_int (pa_cons pe_int pa_nil)))) (blkOk_by (N := ["self", "node", "unit", "low", "high", "end", "pair"]) (sc := defScope s_WireTree_delay_range) (own := [("end", 5)]) (by decide +kernel)) (fun _ _ _ _ _ => (pg_name (i := 5) sc_WireTree_delay_range.nd rfl (.inr rfl))) (fun _ _ _ _ _ => pts_nil) (fun _ _ _ _ _ => (pe_meth (pv 0) c_WireTree M_WireTree_delay G_WireTree_delay (hr.mono (by omega)) b_WireTree_delay .nil passX0 (pa_cons (pv 1) (pa_cons (pe_lc (own := [("pair", 6)]) (g := gName 6) (tt := tYes) rfl sc_WireTree_delay_range.nd (kPiL (K := K) rfl (kFld (K := K) rfl (pv 0) rfl)) (blkOk_by (own := [("pair", 6)]) (by kernel_rfl)) (fun _ _ _ _ _ => (pg_name (i := 6) sc_WireTree_delay_range.nd rfl (.inl rfl))) (fun _ _ _ _ _ => pts_nil) (fun _ _ _ _ _ => (pe_ix (kIxT (K := K) rfl) (pv 6) (pv 5) (fun _ _ => rfl)))) (pa_cons (pe_lc (own := [("pair", 6)]) (g := gName 6) (tt := tYes) rfl sc_WireTree_delay_range.nd (kPiL (K := K) rfl (kFld (K := K) rfl (pv 0) rfl)) (blkOk_by (own := [("pair", 6)]) (by kernel_rfl)) (fun _ _ _ _ _ => (pg_name (i := 6) sc_WireTree_delay_range.nd rfl (.inl rfl))) (fun _ _ _ _ _ => pts_nil) (fun _ _ _ _ _ => (pe_ix (kIxT (K := K) rfl) (pv 6) (pv 5) (fun _ _ => rfl)))) pa_nil)))))) (pg_unl rfl (pgs_cons (pg_name (i := 3) sc_WireTree_delay_range.nd rfl (.inl rfl)) (pgs_cons (pg_name (i := 4) sc_WireTree_delay_range.nd rfl (.inl rfl)) pgs_nil))))
    (pss_one (ps_ret (pe_tup (pa_cons (pe_op op_fdivW (pv 3) (pv 2)) (pa_cons (pe_un un_neg (pe_op op_fdivW (pe_un un_neg (pv 4)) (pv 2))) pa_nil)))))))), ?_⟩
    refine ⟨_, rfl, x, dx, _, rfl, h1, no "_check_node" (by decide +kernel) (by decide +kernel) (by decide +kernel), _, rfl, x, p, r, c, segs, (n : Int), rfl, hT, fun _ => ?_, fun z => absurd ⟨by omega, by omega⟩ z⟩
    refine ⟨_, rfl, _, _, rfl, rfl, _, rfl, ite2 (fun c1 => ⟨(by show 1 ≤ sizeLine; decide), q2 (of_decide_eq_true c1) H (.refl _)⟩) (fun c1 => ?_)⟩
    have hu1 : 1 ≤ u := by
      have : ¬ u < 1 := fun z => c1 (decide_eq_true z)
      omega
    have hdiv : CDivW 0 u := ⟨by omega, log2_small (by omega) (by omega)⟩
    refine ⟨(by show 2 ≤ sizeLine; decide), fun tt ntt => ?_⟩
    have E1 : Ex H (upd H tt (.tup [.int 0, .int 1])) := Ex.new ntt
    have ht1 : upd H tt (.tup [.int 0, .int 1]) tt = some (.tup ([(0 : Int), 1].map V.int)) := upd_same
    generalize upd H tt (.tup [.int 0, .int 1]) = H1 at *
    refine ⟨tt, rfl, ⟨_, SqT.of ht1⟩, fun R nR => wk_tup (K := K) (a := tt) (xs := [(0 : Int), 1].map V.int) (fun j H' => Ex H1 H' ∧ H' R = some (.lst (([endV segs n 0, endV segs n 1].take j).map V.int))) ⟨Ex.new nR, upd_same⟩ (fun j H' _ z => SqT.of (z.1 _ _ ht1)) ?_ ?_⟩
    · rintro j y H2 hy ⟨E2, hR⟩
      have hj : j < 2 := (List.getElem?_eq_some_iff.mp hy).1
      obtain rfl : y = .int ((j : Nat) : Int) := by
        obtain rfl | rfl : j = 0 ∨ j = 1 := by omega
        · cases hy; rfl
        · cases hy; rfl
      have hV : [endV segs n 0, endV segs n 1][j]? = some (endV segs n j) := by
        obtain rfl | rfl : j = 0 ∨ j = 1 := by omega
        · rfl
        · rfl
      have E02 := E1.trans E2
      refine ⟨rfl, tYes_in ?_⟩
      simp only [wipe, _root_.L2.start, List.map_cons, List.map_nil, List.length_cons, List.length_nil, Nat.reduceAdd, Nat.reduceSub, List.replicate_succ, List.replicate_zero, List.cons_append, List.nil_append, List.set_cons_zero, List.set_cons_succ]
      refine ⟨_, rfl, x, dx, _, rfl, E02 _ _ h1, no "delay" (by decide +kernel) (by decide +kernel) (by decide +kernel), _, rfl, _, rfl, x, C, dx, _, _, rfl, E02 _ _ h1, W.cl, W.n_resistances, tfl_r _ _ _, r, rfl, ⟨_, SqL.of (E02 _ _ hrl)⟩, fun R1 nR1 => wk_list (K := K) (a := r) (xs := rl.map V.ref) (fun i H' => Ex H2 H' ∧ H' R1 = some (.lst ((((segs.map (·.res)).take i).map fun r => pe_ r j).map V.int))) ⟨Ex.new nR1, upd_same⟩ (fun i H' _ z => SqL.of ((E02.trans z.1) _ _ hrl)) ?_ ?_⟩
      · rintro i y H3 hy ⟨E3, hR1⟩
        obtain ⟨b, hb', rfl⟩ := refs_get hy
        obtain ⟨g, hg, s1⟩ := hra.at_ hb'
        have hi : i < (segs.map (·.res)).length := (List.getElem?_eq_some_iff.mp hg).1
        rw [List.length_map] at hi
        refine ⟨rfl, tYes_in ?_⟩
        simp only [wipe, _root_.L2.start, List.map_cons, List.map_nil, List.length_cons, List.length_nil, Nat.reduceAdd, Nat.reduceSub, List.replicate_succ, List.replicate_zero, List.cons_append, List.nil_append, List.set_cons_zero, List.set_cons_succ]
        refine ⟨_, rfl, _, rfl, b, _, _, _, rfl, rfl, SqT.of ((E02.trans E3) _ _ s1), pe_at hj, _, hR1, sz_lt (by rw [List.length_map, List.length_map, List.length_take, List.length_map]; omega), E3.mut nR1, ?_⟩
        rw [upd_same, take_snoc1 hg, List.map_append, List.map_append]; rfl
      rintro H3 ⟨E3, hR1⟩
      have erl : (rl.map V.ref).length = (segs.map (·.res)).length := by rw [List.length_map, hra.1]
      rw [erl, List.take_length] at hR1
      have E03 := E02.trans E3
      refine ⟨_, rfl, x, C, dx, _, _, rfl, E03 _ _ h1, W.cl, W.n_capacitances, tfl_c _ _ _, c, rfl, ⟨_, SqL.of (E03 _ _ hcl)⟩, fun R2 nR2 => wk_list (K := K) (a := c) (xs := cl.map V.ref) (fun i H' => Ex H3 H' ∧ H' R2 = some (.lst ((((segs.map (·.cap)).take i).map fun r => pe_ r j).map V.int))) ⟨Ex.new nR2, upd_same⟩ (fun i H' _ z => SqL.of ((E03.trans z.1) _ _ hcl)) ?_ ?_⟩
      · rintro i y H4 hy ⟨E4, hR2⟩
        obtain ⟨b, hb', rfl⟩ := refs_get hy
        obtain ⟨g, hg, s1⟩ := hca.at_ hb'
        have hi : i < (segs.map (·.cap)).length := (List.getElem?_eq_some_iff.mp hg).1
        rw [List.length_map] at hi
        refine ⟨rfl, tYes_in ?_⟩
        simp only [wipe, _root_.L2.start, List.map_cons, List.map_nil, List.length_cons, List.length_nil, Nat.reduceAdd, Nat.reduceSub, List.replicate_succ, List.replicate_zero, List.cons_append, List.nil_append, List.set_cons_zero, List.set_cons_succ]
        refine ⟨_, rfl, _, rfl, b, _, _, _, rfl, rfl, SqT.of ((E03.trans E4) _ _ s1), pe_at hj, _, hR2, sz_lt (by rw [List.length_map, List.length_map, List.length_take, List.length_map]; omega), E4.mut nR2, ?_⟩
        rw [upd_same, take_snoc1 hg, List.map_append, List.map_append]; rfl
      rintro H4 ⟨E4, hR2⟩
      have ecl : (cl.map V.ref).length = (segs.map (·.cap)).length := by rw [List.length_map, hca.1]
      rw [ecl, List.take_length] at hR2
      have E04 := E03.trans E4
      refine ⟨x, p, r, c, segs, n, R1, R2, _, _, rfl, hT.ex E04, hPar, hsl, hn, E4 _ _ hR1, hR2, fun z hz => ?_, by rw [List.length_map, List.length_map]; omega, by rw [List.length_map, List.length_map]; omega, fun _ _ H5 E5 => ?_, fun z => absurd ⟨by rw [List.length_map, List.length_map], by rw [List.length_map, List.length_map]⟩ z⟩
      · obtain ⟨g, hg, rfl⟩ := List.mem_map.mp hz
        obtain ⟨sg, hsg, rfl⟩ := List.mem_map.mp hg
        exact hb sg hsg j
      · have E25 := E3.trans (E4.trans E5)
        refine ⟨_, E25 _ _ hR, sz_lt (by rw [List.length_map, List.length_take]; show min j 2 < _; omega), (E2.trans E25).mut nR, ?_⟩
        rw [upd_same, take_snoc1 hV, List.map_append]; rfl
    rintro H2 ⟨E2, hR⟩
    refine ⟨R, _, rfl, SqL.of hR, rfl, _, _, rfl, _, _, rfl, rfl, ?_⟩
    simp only [wipe, _root_.L2.start, List.map_cons, List.map_nil, List.length_cons, List.length_nil, Nat.reduceAdd, Nat.reduceSub, List.replicate_succ, List.replicate_zero, List.cons_append, List.nil_append, List.set_cons_zero, List.set_cons_succ]
    refine ⟨_, rfl, _, rfl, _, _, rfl, rfl, hdiv, _, rfl, _, rfl, _, rfl, _, _, rfl, rfl, hdiv, _, rfl, (by show 2 ≤ sizeLine; decide), fun q nq => q1 hu1 q _ (E1.trans (E2.trans (Ex.new nq))) (fresh_back (E1.trans E2) nq) upd_same⟩
end
end G
namespace G
open PySem PySem.Spec PyProof.Rows L2 Evl TL
section
variable {P : Program} {w : World} {K : PySem.W.Frag} {mg : Str → Option Value} {base : Heap}
theorem SegAt.te {H H' : Hp} {a : Addr} {s : SegD} (e : ∀ q xs, H q = some (.tup xs) → H' q = some (.tup xs)) (h : SegAt H a s) : SegAt H' a s := by
  obtain ⟨ra, ca, h1, h2, h3⟩ := h
  exact ⟨ra, ca, e _ _ h1, e _ _ h2, e _ _ h3⟩
theorem px_tup {p a : Addr} {H H' : Hp} (x : Px p a H H') : ∀ q xs, H q = some (.tup xs) → H' q = some (.tup xs) := fun q xs h => by
  obtain ⟨_, _, _, _, _, e, _⟩ := x.was
  exact x.at_ (b := q) (o := .tup xs) (by rw [hid_ne (ne_of h e (by intro z; cases z))]; exact h)
theorem mut_tup {H : Hp} {l : Addr} {xs : List V} {o : HO} (h : H l = some (.lst xs)) : ∀ q ys, H q = some (.tup ys) → upd H l o q = some (.tup ys) := fun q ys hq => by
  rw [upd_ne (ne_of hq h (by intro z; cases z))]; exact hq
def spSegs : Sp := fun vs H Q _ => ∃ (p a : Addr) (most : Nat), vs = [.ref p, .int most] ∧ most ≤ 50 ∧ PoolOk p a H ∧ ∀ (l : Addr) (as : List Addr) (segs : List SegD) (H' : Hp), Px p a H H' → H l = none → hid p H' l = some (.lst (as.map V.ref)) → All2 (SegAt H') as segs → segs.length ≤ most → ParOk segs → RngS segs → (∀ s ∈ segs, s.res.2 ≤ 10 ^ 13 ∧ s.cap.2 ≤ 100) → Q (.ref l) H'
theorem sc_law_segments : FnScope ["pool", "most", "segments", "k", "low", "small", "parent"] ["pool", "most"] (defScope s_law_segments) := ⟨rfl, rfl, rfl, by decide +kernel, rfl, by decide +kernel, by decide +kernel⟩
theorem ok_law_segments (D : Dfd K mg "_law_segments" s_law_segments ["pool", "most"]) (T : TxtS mg) (C1 : Has P w K mg base 2 "_law_draw" ["pool", "many"] spDrawX) : Has P w K mg base 3 "_law_segments" ["pool", "most"] spSegs := by
  obtain ⟨f_law_draw, d_law_draw, G_law_draw, g_law_draw, k_law_draw, b_law_draw⟩ := C1
  refine D.has fun f fd F => F.ok sc_law_segments (fun vs H Q E h => ?_) (fun cdv A outer s H vs Q E hr h => ?_)
  · obtain ⟨p, a, most, rfl, _⟩ := h
    rfl
  · obtain ⟨p, a, most, rfl, hm, hp, q⟩ := h
    refine ⟨_, (pss_cons (ps_set (i := 2) sc_law_segments.nd rfl (.inl rfl) (pe_lst pa_nil))
    (pss_cons (ps_for PassesOwn.never rfl (pi_range1 rfl T.range (pa_cons (pe_call G_law_draw (hr.mono (by omega)) (by rfl) g_law_draw k_law_draw b_law_draw .nil pass0 (pa_cons (pv 0) (pa_cons (pe_op op_add (pv 1) pe_int) pa_nil))) pa_nil)) (pg_name (i := 3) sc_law_segments.nd rfl (.inl rfl))
      (pss_cons (ps_set (i := 4) sc_law_segments.nd rfl (.inl rfl) (pe_ix ix_list (pe_lst (pa_cons (pe_call G_law_draw (hr.mono (by omega)) (by rfl) g_law_draw k_law_draw b_law_draw .nil pass0 (pa_cons (pv 0) (pa_cons pe_int pa_nil))) (pa_cons (pe_call G_law_draw (hr.mono (by omega)) (by rfl) g_law_draw k_law_draw b_law_draw .nil pass0 (pa_cons (pv 0) (pa_cons (pe_op op_pow pe_int pe_int) pa_nil))) pa_nil))) (pe_callTy call_int1 (by rfl) T.int (by decide +kernel) (pa_cons (pe_cmpR op_eq (pe_call G_law_draw (hr.mono (by omega)) (by rfl) g_law_draw k_law_draw b_law_draw .nil pass0 (pa_cons (pv 0) (pa_cons pe_int pa_nil))) pe_int (nomark _)) pa_nil)) (fun _ _ => rfl)))
      (pss_cons (ps_set (i := 5) sc_law_segments.nd rfl (.inl rfl) (pe_call G_law_draw (hr.mono (by omega)) (by rfl) g_law_draw k_law_draw b_law_draw .nil pass0 (pa_cons (pv 0) (pa_cons pe_int pa_nil))))
      (pss_cons (ps_set (i := 6) sc_law_segments.nd rfl (.inl rfl) (pe_ix ix_list (pe_lst (pa_cons (pv 3) (pa_cons (pe_call G_law_draw (hr.mono (by omega)) (by rfl) g_law_draw k_law_draw b_law_draw .nil pass0 (pa_cons (pv 0) (pa_cons (pe_op op_add (pv 3) pe_int) pa_nil))) pa_nil))) (pe_call G_law_draw (hr.mono (by omega)) (by rfl) g_law_draw k_law_draw b_law_draw .nil pass0 (pa_cons (pv 0) (pa_cons pe_int pa_nil))) (fun _ _ => rfl)))
      (pss_one (ps_expr (pe_bm PySem.F.plainAttrs_list PySem.F.slot_list_append PySem.F.type_list_append mt_append (pv 2) (pa_cons (pe_tup (pa_cons (pv 6) (pa_cons (pe_tup (pa_cons (pv 4) (pa_cons (pe_op op_add (pv 4) (pe_call G_law_draw (hr.mono (by omega)) (by rfl) g_law_draw k_law_draw b_law_draw .nil pass0 (pa_cons (pv 0) (pa_cons pe_int pa_nil)))) pa_nil))) (pa_cons (pe_tup (pa_cons (pv 5) (pa_cons (pe_op op_add (pv 5) (pe_call G_law_draw (hr.mono (by omega)) (by rfl) g_law_draw k_law_draw b_law_draw .nil pass0 (pa_cons (pv 0) (pa_cons pe_int pa_nil)))) pa_nil))) pa_nil)))) pa_nil))))))))
    (pss_one (ps_ret (pv 2))))), ?_⟩
    refine ⟨Nat.zero_le _, fun l nl => ?_⟩
    have X0 := (Px.refl hp).new (o := .lst []) nl
    have hpl := hp.ne nl
    have hl0 : hid p (upd H l (.lst [])) l = some (.lst []) := by rw [hid_ne hpl]; exact upd_same
    generalize upd H l (.lst []) = H0 at *
    refine ⟨_, rfl, _, rfl, _, _, rfl, rfl, p, a, (most : Int) + 1, rfl, by omega, by omega, X0.pool, fun v2 H2 h2 X2 _ => ⟨v2, rfl, by omega, by omega, for_range (n := ((v2 : Nat) : Int).toNat)
      (fun i σ H' => Px p a H H' ∧ ∃ (as : List Addr) (segs : List SegD) (z3 z4 z5 z6 : Option V), hid p H' l = some (.lst (as.map V.ref)) ∧ All2 (SegAt H') as segs ∧ segs.length = i ∧ ParOk segs ∧ RngS segs ∧ (∀ s ∈ segs, s.res.2 ≤ 10 ^ 13 ∧ s.cap.2 ≤ 100) ∧ σ = [some (.ref p), some (.int most), some (.ref l), z3, z4, z5, z6])
      ⟨X0.trans X2, [], [], _, _, _, _, X2.get hl0, .nil, rfl, (fun _ _ h => nomatch h), (fun _ h => nomatch h), (fun _ h => nomatch h), rfl⟩ ?_ ?_⟩⟩
    · rintro i σ H3 hi ⟨X3, as, segs, z3, z4, z5, z6, hl, hA, hlen, hPar, hRng, hBig, rfl⟩
      rw [Int.toNat_natCast] at hi
      -- low
      refine tif_by (tt := tOp _ _ _) (fun z H' => Px p a H3 H' ∧ ∃ lo : Nat, z = .int (lo : Int) ∧ lo ≤ 10 ^ 12) (fun Q' k => ?_) ?_
      · refine ⟨_, rfl, p, a, 6, rfl, by decide, by decide, X3.pool, fun c1 H4 hc1 X4 _ => ⟨_, rfl, _, _, rfl, rfl, ⟨by decide, by decide, by decide⟩, p, a, 10 ^ 12, rfl, by decide, by decide, X4.pool, fun c2 H5 hc2 X5 _ => ⟨(by show 2 ≤ sizeLine; decide), fun m nm => ⟨_, rfl, p, a, 5, rfl, by decide, by decide, (X5.new nm).pool, fun v H6 hv X6 kp => ⟨rfl, .inr ⟨_, rfl, ?_⟩⟩⟩⟩⟩⟩
        have hm6 : H6 m = some (.lst [.int c1, .int c2]) := by rw [kp _ (X5.pool.ne nm)]; exact upd_same
        have X36 := X4.trans ((X5.new nm).trans X6)
        cases decide (V.int (v : Int) = V.int 4) with
        | true => exact ⟨_, _, _, _, rfl, rfl, SqL.of hm6, at_of (j := 1) rfl rfl, k _ _ ⟨X36, c2, rfl, by omega⟩⟩
        | false => exact ⟨_, _, _, _, rfl, rfl, SqL.of hm6, at_of (j := 0) rfl rfl, k _ _ ⟨X36, c1, rfl, by omega⟩⟩
      rintro _ H4 ⟨X4, lo, rfl, hlo⟩
      -- small
      refine ⟨_, rfl, p, a, 7, rfl, by decide, by decide, X4.pool, fun sm H5 hsm X5 _ => ?_⟩
      have X35 := X4.trans X5
      -- parent
      dsimp only [gName, tSeq, tAsg]
      refine tif_by (tt := tOp _ _ _) (fun z H' => Px p a H3 H' ∧ ∃ pr : Nat, z = .int (pr : Int) ∧ pr ≤ i) (fun Q' k => ?_) ?_
      · refine ⟨_, rfl, _, rfl, _, rfl, _, _, rfl, rfl, p, a, ((i : Nat) : Int) + 1, by rw [Int.zero_add]; rfl, by omega, by omega, X35.pool, fun c2 H6 hc2 X6 _ => ⟨(by show 2 ≤ sizeLine; decide), fun m nm => ⟨_, rfl, p, a, 2, rfl, by decide, by decide, (X6.new nm).pool, fun v H7 hv X7 kp => ?_⟩⟩⟩
        have hm7 : H7 m = some (.lst [.int (0 + (i : Int)), .int c2]) := by rw [kp _ (X6.pool.ne nm)]; exact upd_same
        have X37 := X35.trans ((X6.new nm).trans X7)
        obtain rfl | rfl : v = 0 ∨ v = 1 := by omega
        · exact ⟨_, _, _, _, rfl, rfl, SqL.of hm7, at_of (j := 0) rfl rfl, k _ _ ⟨X37, i, by rw [Int.zero_add], Nat.le_refl _⟩⟩
        · exact ⟨_, _, _, _, rfl, rfl, SqL.of hm7, at_of (j := 1) rfl rfl, k _ _ ⟨X37, c2, rfl, by omega⟩⟩
      rintro _ H6 ⟨X6, pr, rfl, hpr⟩
      have hl6 := X6.get hl
      refine ⟨_, rfl, .inl ⟨rfl, _, SqL.of (hid_get hl6)⟩, _, rfl, _, rfl, _, rfl, _, rfl, p, a, 9, rfl, by decide, by decide, X6.pool, fun d1 H7 hd1 X7 _ => ⟨_, _, rfl, rfl, (by show 2 ≤ sizeLine; decide), fun ra nra => ⟨_, rfl, _, rfl, _, rfl, p, a, 4, rfl, by decide, by decide, (X7.new nra).pool, fun d2 H8 hd2 X8 _ => ⟨_, _, rfl, rfl, (by show 2 ≤ sizeLine; decide), fun ca nca => ⟨(by show 3 ≤ sizeLine; decide), fun sg nsg => ?_⟩⟩⟩⟩⟩
      have X78 := (X7.new (o := .tup [.int lo, .int ((lo : Int) + d1)]) nra).trans X8
      have X9 := (X78.new (o := .tup [.int sm, .int ((sm : Int) + d2)]) nca).new (o := .tup [.int pr, .ref ra, .ref ca]) nsg
      have hra : upd (upd H8 ca (.tup [.int sm, .int ((sm : Int) + d2)])) sg (.tup [.int pr, .ref ra, .ref ca]) ra = some (.tup [.int lo, .int ((lo : Int) + d1)]) := Ex.new nsg _ _ (Ex.new nca _ _ (px_tup X8 _ _ upd_same))
      have hca : upd (upd H8 ca (.tup [.int sm, .int ((sm : Int) + d2)])) sg (.tup [.int pr, .ref ra, .ref ca]) ca = some (.tup [.int sm, .int ((sm : Int) + d2)]) := Ex.new nsg _ _ upd_same
      have hsg : upd (upd H8 ca (.tup [.int sm, .int ((sm : Int) + d2)])) sg (.tup [.int pr, .ref ra, .ref ca]) sg = some (.tup [.int pr, .ref ra, .ref ca]) := upd_same
      generalize upd (upd H8 ca (.tup [.int sm, .int ((sm : Int) + d2)])) sg (.tup [.int pr, .ref ra, .ref ca]) = H9 at *
      have hl9 := X9.get hl6
      have hl9' := hid_get hl9
      refine ⟨l, as.map V.ref, .ref sg, rfl, rfl, hl9', sz_lt (by rw [List.length_map, hA.1]; omega), (X3.trans (X6.trans X9)).mut nl, as ++ [sg], segs ++ [⟨(pr : Int), ((lo : Int), (lo : Int) + d1), ((sm : Int), (sm : Int) + d2)⟩], some (.int (0 + (i : Int))), some (.int (lo : Int)), some (.int (sm : Int)), some (.int (pr : Int)), ?_, ?_, ?_, ?_, ?_, ?_, rfl⟩
      · rw [hid_ne hpl, upd_same, List.map_append]; rfl
      · exact (hA.imp fun _ _ z => (z.te (px_tup (X6.trans X9))).te (mut_tup hl9')).snoc ⟨ra, ca, mut_tup hl9' _ _ hsg, mut_tup hl9' _ _ hra, mut_tup hl9' _ _ hca⟩
      · rw [List.length_append, hlen]; rfl
      · intro k s' h
        by_cases hk : k < segs.length
        · rw [List.getElem?_append_left hk] at h
          exact hPar k s' h
        · have hki : k = segs.length := by
            have := (List.getElem?_eq_some_iff.mp h).1
            rw [List.length_append] at this
            have : k < segs.length + 1 := this
            omega
          rw [List.getElem?_append_right (by omega), hki, Nat.sub_self] at h
          cases h
          exact ⟨by show (0 : Int) ≤ pr; omega, by show (pr : Int) ≤ k; omega⟩
      · intro s' h
        rcases List.mem_append.mp h with z | z
        · exact hRng s' z
        · rw [List.mem_singleton.mp z]
          exact ⟨⟨by show (0 : Int) ≤ lo; omega, by show (lo : Int) ≤ lo + d1; omega⟩, ⟨by show (0 : Int) ≤ sm; omega, by show (sm : Int) ≤ sm + d2; omega⟩⟩
      · intro s' h
        rcases List.mem_append.mp h with z | z
        · exact hBig s' z
        · rw [List.mem_singleton.mp z]
          exact ⟨by show (lo : Int) + d1 ≤ 10 ^ 13; omega, by show (sm : Int) + d2 ≤ 100; omega⟩
    · rintro σ H3 ⟨X3, as, segs, z3, z4, z5, z6, hl, hA, hlen, hPar, hRng, hBig, rfl⟩
      rw [Int.toNat_natCast] at hlen
      exact ⟨_, rfl, q l as segs H3 X3 nl hl hA (by omega) hPar hRng hBig⟩
def spLPath : Sp := fun vs H Q _ => ∃ (l : Addr) (as : List Addr) (segs : List SegD) (m : Nat), vs = [.ref l, .int m] ∧ H l = some (.lst (as.map V.ref)) ∧ All2 (SegAt H) as segs ∧ ParOk segs ∧ segs.length ≤ 100 ∧ m ≤ segs.length ∧ ∀ (q : Addr) (H' : Hp), Ex H H' → H q = none → H' q = some (.lst (natsV (anc segs m).reverse)) → Q (.ref q) H'
theorem sc_law_path : FnScope ["segments", "node", "found", "k"] ["segments", "node"] (defScope s_law_path) := ⟨rfl, rfl, rfl, by decide +kernel, rfl, by decide +kernel, by decide +kernel⟩
theorem ok_law_path (D : Dfd K mg "_law_path" s_law_path ["segments", "node"]) (T : TxtS mg) : Has P w K mg base 1 "_law_path" ["segments", "node"] spLPath := by
  refine D.has fun f fd F => F.ok sc_law_path (fun vs H Q E h => ?_) (fun cdv A outer s H vs Q E hr h => ?_)
  · obtain ⟨l, as, segs, m, rfl, _⟩ := h
    rfl
  · obtain ⟨l, as, segs, m0, rfl, hl, hA, hPar, hsl, hm0, q⟩ := h
    refine ⟨_, (pss_cons (ps_set (i := 2) sc_law_path.nd rfl (.inl rfl) (pe_lst (pa_cons (pv 1) pa_nil)))
    (pss_cons (ps_for PassesOwn.never rfl (pi_range1 rfl T.range (pa_cons (pe_callB call_len_seq (by rfl) T.len (by decide +kernel) (pa_cons (pv 0) pa_nil)) pa_nil)) (pg_name (i := 3) sc_law_path.nd rfl (.inl rfl))
      (pss_one (ps_if (pt_cmpR op_gt (pe_ix ix_list (pv 2) pe_int (fun _ _ => rfl)) pe_int (nomark _))
        (pss_one (ps_set (i := 2) sc_law_path.nd rfl (.inl rfl) (pe_op op_cat (pe_lst (pa_cons (pe_ix ix_tup (pe_ix ix_list (pv 0) (pe_op op_sub (pe_ix ix_list (pv 2) pe_int (fun _ _ => rfl)) pe_int) (fun _ _ => rfl)) pe_int (fun _ _ => rfl)) pa_nil)) (pv 2))))
        pss_nil)))
    (pss_one (ps_ret (pv 2))))), ?_⟩
    have lA := hA.1
    refine ⟨_, rfl, (by show 1 ≤ sizeLine; decide), fun f0 nf0 => ?_⟩
    refine ⟨_, rfl, _, _, rfl, .inl (SqL.of (Ex.new nf0 _ _ hl)), _, rfl, by omega, by rw [List.length_map]; omega, for_range (n := (((as.map V.ref).length : Nat) : Int).toNat)
      (fun i σ H' => Ex H H' ∧ ∃ (fa : Addr) (h : Nat) (rest : List Nat) (z : Option V), H fa = none ∧ H' fa = some (.lst (natsV (h :: rest))) ∧ h ≤ segs.length ∧ (h = 0 ∨ h + i ≤ m0) ∧ (anc segs h).reverse ++ rest = (anc segs m0).reverse ∧ σ = [some (.ref l), some (.int (m0 : Int)), some (.ref fa), z])
      ⟨Ex.new nf0, f0, m0, [], _, nf0, upd_same, hm0, .inr (by omega), List.append_nil _, rfl⟩ ?_ ?_⟩
    · rintro i σ H1 hi ⟨E1, fa, h, rest, z, nfa, hfa, hh, hdec, hch, rfl⟩
      have hrl : rest.length ≤ 200 := by
        have h1 := congrArg List.length hch
        rw [List.length_append, List.length_reverse, List.length_reverse] at h1
        have := anc_len hPar m0 hm0
        omega
      refine ⟨_, rfl, _, _, _, _, rfl, rfl, SqL.of hfa, atI_nat (j := 0) rfl, _, _, rfl, rfl, _, rfl, ite2 (fun c1 => ?_) (fun c1 => ?_)⟩
      · have h0 : h ≠ 0 := by have := of_decide_eq_true c1; omega
        have hs : segs[h - 1]? = some (segs[h - 1]'(by omega)) := List.getElem?_eq_getElem (by omega)
        obtain ⟨b, hb, ra, ca, s1, s2, s3⟩ := hA.of hs
        have hpn : (segs[h - 1]'(by omega)).above = ((parN segs h : Nat) : Int) := by
          have := par_at hPar h0 hh
          obtain ⟨k, rfl⟩ : ∃ k, h = k + 1 := ⟨h - 1, by omega⟩
          have e : (parL segs)[k + 1]? = (segs.map fun s : SegD => s.above)[k]? := rfl
          rw [e, List.getElem?_map] at this
          have hs' : segs[k]? = some (segs[k]'(by omega)) := List.getElem?_eq_getElem (by omega)
          rw [hs'] at this
          exact Option.some.inj this
        refine ⟨_, rfl, _, rfl, _, _, _, _, rfl, rfl, SqL.of hfa, atI_nat (j := 0) rfl, _, _, rfl, rfl, _, _, _, _, rfl, rfl, SqL.of (E1 _ _ hl), at_of (j := h - 1) (by omega) (by rw [List.getElem?_map, hb]; rfl), _, _, _, _, rfl, rfl, SqT.of (E1 _ _ s1), atI_nat (j := 0) rfl, (by show 1 ≤ sizeLine; decide), fun m1 nm1 => ?_⟩
        rw [hpn]
        have E2 : Ex H1 (upd H1 m1 (.lst [.int ((parN segs h : Nat) : Int)])) := Ex.new nm1
        have g2 : upd H1 m1 (.lst [.int ((parN segs h : Nat) : Int)]) m1 = some (.lst [.int ((parN segs h : Nat) : Int)]) := upd_same
        generalize upd H1 m1 (.lst [.int ((parN segs h : Nat) : Int)]) = H2 at *
        have hlt := par_lt hPar h0 hh
        refine ⟨_, rfl, m1, fa, _, _, rfl, rfl, g2, E2 _ _ hfa, sz_of (by unfold natsV; simp only [List.length_map, List.length_cons, List.length_nil]; omega), fun f2 nf2 => ⟨E1.trans (E2.trans (Ex.new nf2)), f2, parN segs h, h :: rest, _, fresh_back (E1.trans E2) nf2, upd_same, by omega, ?_, ?_, rfl⟩⟩
        · rcases hdec with z | z <;> omega
        · rw [← hch, anc_step hPar h0 hh, List.reverse_cons, List.append_assoc]; rfl
      · have h0 : h = 0 := by
          have : ¬ (h : Int) > 0 := fun z => c1 (decide_eq_true z)
          omega
        exact ⟨E1, fa, h, rest, _, nfa, hfa, hh, .inl h0, hch, rfl⟩
    · rintro σ H1 ⟨E1, fa, h, rest, z, nfa, hfa, hh, hdec, hch, rfl⟩
      rw [Int.toNat_natCast, List.length_map, lA] at hdec
      have h0 : h = 0 := by omega
      subst h0
      rw [anc_zero] at hch
      refine ⟨_, rfl, q fa H1 E1 nfa ?_⟩
      rw [← hch]; exact hfa
end
end G
namespace G
open PySem PySem.Spec PyProof.Rows L2 Evl TL
theorem it1 {b : Bool} {A B : Prop} (h : b = true) (a : A) : if b = true then A else B := by rw [if_pos h]; exact a
theorem it0 {b : Bool} {A B : Prop} (h : b = false) (a : B) : if b = true then A else B := by rw [if_neg (by rw [h]; decide)]; exact a
theorem inV_nats {k : Nat} {l : List Nat} : inV (.int (k : Int)) (natsV l) = decide (k ∈ l) := by
  unfold inV natsV
  rw [List.any_map, Bool.eq_iff_iff, List.any_eq_true, decide_eq_true_iff]
  constructor
  · rintro ⟨y, hy, h⟩
    have h' : ((y : Int) == (k : Int)) = true := h
    have := eq_of_beq h'
    have : y = k := by omega
    rw [← this]; exact hy
  · intro h
    exact ⟨k, h, (beq_self_eq_true (k : Int) : ((k : Int) == (k : Int)) = true)⟩
theorem flat_nats (l : List Nat) : (natsV l).all flatV = true := by
  rw [List.all_eq_true]
  intro y hy
  obtain ⟨k, _, rfl⟩ := List.mem_map.mp hy
  rfl
section
variable {P : Program} {w : World} {K : PySem.W.Frag} {mg : Str → Option Value} {base : Heap}
def spLDelay : Sp := fun vs H Q _ => ∃ (l : Addr) (as : List Addr) (segs : List SegD) (m : Nat) (fa sa : Addr) (fs cs : List Int), vs = [.ref l, .int m, .ref fa, .ref sa] ∧ H l = some (.lst (as.map V.ref)) ∧ All2 (SegAt H) as segs ∧ ParOk segs ∧ segs.length ≤ 100 ∧ m ≤ segs.length ∧
  H fa = some (.lst (fs.map V.int)) ∧ H sa = some (.lst (cs.map V.int)) ∧ (∀ x ∈ fs, -(2 ^ 64) < x ∧ x < 2 ^ 64) ∧ fs.length = segs.length ∧ cs.length = segs.length ∧ ∀ H', Ex H H' → Q (.int (delayV segs fs cs m)) H'
theorem sc_law_delay : FnScope ["segments", "node", "resistances", "capacitances", "total", "step", "load", "other"] ["segments", "node", "resistances", "capacitances"] (defScope s_law_delay) := ⟨rfl, rfl, rfl, by decide +kernel, rfl, by decide +kernel, by decide +kernel⟩
theorem ok_law_delay (D : Dfd K mg "_law_delay" s_law_delay ["segments", "node", "resistances", "capacitances"]) (T : TxtS mg) (C1 : Has P w K mg base 1 "_law_path" ["segments", "node"] spLPath) : Has P w K mg base 2 "_law_delay" ["segments", "node", "resistances", "capacitances"] spLDelay := by
  obtain ⟨f_law_path, d_law_path, G_law_path, g_law_path, k_law_path, b_law_path⟩ := C1
  refine D.has fun f fd F => F.ok sc_law_delay (fun vs H Q E h => ?_) (fun cdv A outer s H vs Q E hr h => ?_)
  · obtain ⟨l, as, segs, m, fa, sa, fs, cs, rfl, _⟩ := h
    rfl
  · obtain ⟨l, as, segs, m, fa, sa, fs, cs, rfl, hl, hA, hPar, hsl, hm, hfa, hsa, hfb, l1, l2, q⟩ := h
    refine ⟨_, (pss_cons (ps_set (i := 4) sc_law_delay.nd rfl (.inl rfl) pe_int)
    (pss_cons (ps_for PassesOwn.never rfl (pi_list (pe_slice sl_list (pe_call G_law_path (hr.mono (by omega)) (by rfl) g_law_path k_law_path b_law_path .nil pass0 (pa_cons (pv 0) (pa_cons (pv 1) pa_nil))) (po_some pe_int) po_none)) (pg_name (i := 5) sc_law_delay.nd rfl (.inl rfl))
      (pss_cons (ps_set (i := 6) sc_law_delay.nd rfl (.inl rfl) pe_int)
      (pss_cons (ps_for PassesOwn.never rfl (pi_range2 rfl T.range (pa_cons pe_int (pa_cons (pe_op op_add (pe_callB call_len_seq (by rfl) T.len (by decide +kernel) (pa_cons (pv 0) pa_nil)) pe_int) pa_nil))) (pg_name (i := 7) sc_law_delay.nd rfl (.inl rfl))
        (pss_one (ps_if (pt_cmpR op_in_seq (pv 5) (pe_call G_law_path (hr.mono (by omega)) (by rfl) g_law_path k_law_path b_law_path .nil pass0 (pa_cons (pv 0) (pa_cons (pv 7) pa_nil))) (by rfl))
          (pss_one (ps_set (i := 6) sc_law_delay.nd rfl (.inl rfl) (pe_op op_add (pv 6) (pe_ix ix_list (pv 3) (pe_op op_sub (pv 7) pe_int) (fun _ _ => rfl)))))
          pss_nil)))
      (pss_one (ps_set (i := 4) sc_law_delay.nd rfl (.inl rfl) (pe_op op_add (pv 4) (pe_op op_mul (pe_ix ix_list (pv 2) (pe_op op_sub (pv 5) pe_int) (fun _ _ => rfl)) (pv 6))))))))
    (pss_one (ps_ret (pv 4))))), ?_⟩
    have hpos : 1 ≤ (natsV (anc segs m).reverse).length := by
      have := List.length_pos_of_mem (anc_self hPar hm)
      unfold natsV; rw [List.length_map, List.length_reverse]; exact this
    have ecut : cutV (natsV (anc segs m).reverse) (some 1) none = natsV ((anc segs m).reverse.drop 1) := by
      have : cutV (natsV (anc segs m).reverse) (some ((1 : Nat) : Int)) none = _ := cutV_tail hpos
      rw [show (1 : Int) = ((1 : Nat) : Int) from rfl, this]
      unfold natsV; rw [List.map_drop]
    have hway := fun k hk => anc_way (k := k) hPar hm hk
    refine ⟨_, rfl, _, rfl, l, as, segs, m, rfl, hl, hA, hPar, hsl, hm, fun q0 H1 E1 nq0 hq0 => ⟨_, rfl, q0, _, rfl, SqL.of hq0, fun q1 nq1 => ?_⟩⟩
    rw [ecut]
    unfold delayV at q
    generalize (anc segs m).reverse.drop 1 = ws at *
    have E2 : Ex H1 (upd H1 q1 (.lst (natsV ws))) := Ex.new nq1
    have hq1 : upd H1 q1 (.lst (natsV ws)) q1 = some (.lst (natsV ws)) := upd_same
    generalize upd H1 q1 (.lst (natsV ws)) = H2 at *
    have E02 := E1.trans E2
    refine ⟨q1, rfl, ⟨_, SqL.of hq1⟩, for_list (K := K) (a := q1) (xs := natsV ws)
      (fun i σ H' => Ex H2 H' ∧ ∃ z5 z6 z7 : Option V, σ = [some (.ref l), some (.int (m : Int)), some (.ref fa), some (.ref sa), some (.int ((ws.take i).map fun k => fs.getD (k - 1) 0 * loadV segs cs k).sum), z5, z6, z7])
      ⟨.refl _, none, none, none, rfl⟩ (fun i σ H' _ g => SqL.of (g.1 _ _ hq1)) ?_ ?_⟩
    · rintro i y σ H3 hy ⟨E3, z5, z6, z7, rfl⟩
      obtain ⟨k, hk, rfl⟩ : ∃ k, ws[i]? = some k ∧ y = .int (k : Int) := by
        unfold natsV at hy
        rw [List.getElem?_map] at hy
        cases e : ws[i]? with
        | none => rw [e] at hy; cases hy
        | some k => rw [e] at hy; cases hy; exact ⟨k, rfl, rfl⟩
      have hk1 := hway k (List.mem_of_getElem? hk)
      have E03 := E02.trans E3
      have eN : ((((as.map V.ref).length : Nat) : Int) + 1 - 1).toNat = segs.length := by rw [List.length_map, hA.1]; omega
      have hal : (as.map V.ref).length = segs.length := by rw [List.length_map, hA.1]
      refine ⟨_, rfl, _, _, rfl, .inl (SqL.of (E03 _ _ hl)), _, _, rfl, rfl, _, _, rfl, ⟨by decide, by decide, by omega, by omega⟩, for_range (n := ((((as.map V.ref).length : Nat) : Int) + 1 - 1).toNat)
        (fun j σ H' => Ex H3 H' ∧ ∃ z7 : Option V, σ = [some (.ref l), some (.int (m : Int)), some (.ref fa), some (.ref sa), some (.int ((ws.take i).map fun k => fs.getD (k - 1) 0 * loadV segs cs k).sum), some (.int (k : Int)), some (.int (sumN (j + 1) fun t => if k ∈ anc segs t then ((0 : Int) :: cs).getD t 0 else 0)), z7])
        ⟨.refl _, z7, ?_⟩ ?_ ?_⟩
      · have e0 : sumN (0 + 1) (fun t => if k ∈ anc segs t then ((0 : Int) :: cs).getD t 0 else 0) = 0 := sumN_zero fun t ht => by
          obtain rfl : t = 0 := by omega
          by_cases z : k ∈ anc segs 0
          · rw [if_pos z]; rfl
          · rw [if_neg z]
        rw [e0]; rfl
      · rintro j σ H4 hj ⟨E4, z7, rfl⟩
        rw [eN] at hj
        have E04 := E03.trans E4
        have ej : (1 : Int) + (j : Nat) = ((j + 1 : Nat) : Int) := by omega
        rw [ej]
        refine ⟨_, rfl, _, rfl, _, rfl, l, as, segs, j + 1, rfl, E04 _ _ hl, hA.imp fun _ _ z => z.ex E04, hPar, hsl, by omega, fun q2 H5 E5 nq2 hq2 => ⟨q2, _, rfl, .inl (SqL.of hq2), rfl, flat_nats _, ?_⟩⟩
        have eS : sumN (j + 1 + 1) (fun t => if k ∈ anc segs t then ((0 : Int) :: cs).getD t 0 else 0) = sumN (j + 1) (fun t => if k ∈ anc segs t then ((0 : Int) :: cs).getD t 0 else 0) + (if k ∈ anc segs (j + 1) then cs.getD j 0 else 0) := rfl
        rw [if_neg Bool.false_ne_true, inV_nats]
        refine ⟨_, rfl, ite2 (fun c1 => ?_) (fun c1 => ?_)⟩
        · have hin : k ∈ anc segs (j + 1) := List.mem_reverse.mp (of_decide_eq_true c1)
          refine ⟨_, rfl, _, rfl, _, rfl, _, _, rfl, rfl, sa, _, _, _, rfl, rfl, SqL.of ((E04.trans E5) _ _ hsa), at_int (j := j) (by omega) (by omega), _, _, rfl, rfl, E4.trans E5, some (.int ((j + 1 : Nat) : Int)), ?_⟩
          rw [eS, if_pos hin]; rfl
        · have hin : ¬ k ∈ anc segs (j + 1) := fun z => c1 (decide_eq_true (List.mem_reverse.mpr z))
          refine ⟨E4.trans E5, some (.int ((j + 1 : Nat) : Int)), ?_⟩
          rw [eS, if_neg hin, Int.add_zero]; rfl
      · rintro σ H4 ⟨E4, z7, rfl⟩
        rw [eN]
        have hfk : k - 1 < fs.length := by omega
        have hfx := hfb _ (List.getElem_mem (h := hfk))
        have efx : fs.getD (k - 1) 0 = fs[k - 1] := by rw [List.getD_eq_getElem?_getD, List.getElem?_eq_getElem hfk]; rfl
        refine ⟨_, rfl, _, rfl, _, rfl, _, _, rfl, rfl, fa, _, _, _, rfl, rfl, SqL.of ((E03.trans E4) _ _ hfa), at_int (j := k - 1) (by omega) hfk, _, rfl, _, _, rfl, rfl, .inl (by rw [efx]; exact hfx), _, _, rfl, rfl, E3.trans E4, some (.int (k : Int)), some (.int (loadV segs cs k)), z7, ?_⟩
        have eSum : ((ws.take (i + 1)).map fun k => fs.getD (k - 1) 0 * loadV segs cs k).sum = ((ws.take i).map fun k => fs.getD (k - 1) 0 * loadV segs cs k).sum + fs.getD (k - 1) 0 * loadV segs cs k := by
          rw [take_snoc1 hk, List.map_append, List.sum_append, List.map_singleton, List.sum_singleton]
        rw [eSum]; rfl
    · rintro σ H3 ⟨E3, z5, z6, z7, rfl⟩
      have eL : (natsV ws).length = ws.length := by unfold natsV; rw [List.length_map]
      rw [eL, List.take_length]
      exact ⟨_, rfl, q H3 (E02.trans E3)⟩
end
end G
namespace G
open PySem PySem.Spec PyProof.Rows L2 Evl
/-! ## an exception leaves a loop over a locked dict: the lock is taken off where the function is left -/
/-- H' with the locks that H did not have taken off -/
def unf (H H' : Hp) : Hp := fun b => match H' b with
  | some (.frz od u) => (match H b with
    | some (.frz _ _) => some (.frz od u)
    | _ => some u)
  | x => x
theorem unf_same {H H' : Hp} {b : Addr} {o : HO} (h : H' b = some o) (n : ∀ od u, o ≠ .frz od u) : unf H H' b = some o := by
  unfold unf
  rw [h]
  cases o with
  | frz od u => exact absurd rfl (n od u)
  | _ => rfl
theorem unf_none {H H' : Hp} {b : Addr} (h : H' b = none) : unf H H' b = none := by
  unfold unf
  rw [h]
theorem unf_frz {H H' : Hp} {b : Addr} {od : Obj} {u : HO} (h : H' b = some (.frz od u)) (n : ∀ o' u', H b ≠ some (.frz o' u')) : unf H H' b = some u := by
  unfold unf
  rw [h]
  dsimp only
  split
  · rename_i o' u' e; exact absurd e (n o' u')
  · rfl
theorem unf_keep {H H' : Hp} {b : Addr} {od o' : Obj} {u u' : HO} (h : H' b = some (.frz od u)) (n : H b = some (.frz o' u')) : unf H H' b = some (.frz od u) := by
  unfold unf
  rw [h]
  dsimp only
  rw [n]
section
variable {P : Program} {w : World}
theorem unf_ok {H H' : Hp} {B : Heap} (ok : HOk P w H' B) : HOk P w (unf H H') B := by
  have kp : ∀ c o, H' c = some o → (∀ od u, o ≠ .frz od u) → unf H H' c = some o := fun c o e n => unf_same e n
  intro a o e
  cases h : H' a with
  | none => rw [unf_none h] at e; cases e
  | some x =>
    have st : ∀ {y : HO}, ObjOk P w H' B a y → ObjOk P w (unf H H') B a y := fun {y} q => q.stay (fun c v _ q => q) (fun c q => kp _ _ q (fun _ _ z => nomatch z)) fun c xs q => kp _ _ q (fun _ _ z => nomatch z)
    by_cases hf : ∃ od u, x = .frz od u
    · obtain ⟨od, u, rfl⟩ := hf
      by_cases hH : ∃ o' u', H a = some (.frz o' u')
      · obtain ⟨o', u', hH⟩ := hH
        rw [unf_keep h hH] at e
        cases e
        exact st (ok a _ h)
      · rw [unf_frz h (fun o' u' z => hH ⟨o', u', z⟩)] at e
        cases e
        obtain ⟨_, q⟩ := ok a _ h
        exact st q
    · rw [unf_same h (fun od u z => hf ⟨od, u, z⟩)] at e
      cases e
      exact st (ok a _ h)
theorem CX_unf {outer : List Env} {H : Hp} {s : Shared} {E : XK} {u : Value} {s' : Shared} (c : L2.CX P w outer H s (fun cls d H' => E cls d (unf H H')) u s') : L2.CX P w outer H s E u s' := by
  obtain ⟨a, B, H', cls, d, rfl, fl, hok, ub, na, os, ag, hE⟩ := c
  refine ⟨a, B, unf H H', cls, d, rfl, fl, unf_ok hok, ⟨ub.keep, ub.slot, fun b o e n => unf_none (ub.free b o e n), ub.there, fun b xs e => unf_same (ub.tups b xs e) (fun _ _ z => nomatch z), fun b o xs e => unf_keep (ub.frzs b o xs e) e, fun b ps e => ?_⟩, unf_none na, os, ag, hE⟩
  obtain ⟨m, q⟩ := ub.tbls b ps e
  exact ⟨m, unf_same q (fun _ _ z => nomatch z)⟩
/-- a function whose errors are told with the locks taken off -/
theorem FnOk.unfE {K : PySem.W.Frag} {mg : Str → Option Value} {base : Heap} {k : Nat} {f : Addr} {fd : FuncData} {ps : List Str} {sp : Sp} (F : FnOk P w K mg base (L2.CX P w) k f fd ps sp) :
    FnOk P w K mg base (L2.CX P w) k f fd ps (fun vs H Q E => sp vs H Q fun cls d H' => E cls d (unf H H')) :=
  ⟨fun vs H Q E h => F.len vs H Q _ h, fun A outer s H args us vs Q E hr he hb hv h => codeAny_mono (F.run A outer s H args us vs Q _ hr he hb hv h) fun r s' q => by
    rcases r with e | t
    · exact CX_unf q
    · cases t <;> exact q⟩
/-- all is kept, but that some things are locked -/
def ExF (H H' : Hp) : Prop := ∀ b o, H b = some o → H' b = some o ∨ (Mut (some o) ∧ ∃ od, H' b = some (.frz od o))
theorem ExF.unf {H H' : Hp} (h : ExF H H') : Ex H (G.unf H H') := fun b o e => by
  rcases h b o e with q | ⟨m, od, q⟩
  · by_cases hf : ∃ od u, o = .frz od u
    · obtain ⟨od, u, rfl⟩ := hf
      exact unf_keep q e
    · exact unf_same q fun od u z => hf ⟨od, u, z⟩
  · exact unf_frz q fun o' u' z => by
      rw [e] at z
      cases z
      exact m
end
end G
namespace G
open PySem PySem.W PySem.Calls PyProof.Rows PyProof.V PySem.Spec L2
/-! ## for k, v in d.items() where the keys of d are tuples -/
section
variable {X : Cx} {pins : List (Addr × Obj)} {σ : L2.St} {H : Hp} {s : Shared} {d : Addr} {o : Obj}
theorem frzT2 {kvs : List (List L2.Key × V)} (I : Inv X pins σ H s) (h : H d = some (.frz o (.dT kvs))) :
    (d == sysModules) = false ∧ s.heap.get? d = some o ∧ o.ExactDict ∧ ∃ (es : Array DictEntry) (ep : Nat), o.data = .dict es ep ∧ es.size = kvs.length ∧
      ∀ (i : Nat) (k : List L2.Key) (v : V), kvs[i]? = some (k, v) → ∃ (en : DictEntry) (q : Addr), es[i]? = some en ∧ en.key = .ref q ∧ H q = some (.tup (k.map kV)) ∧ RelV v en.val := by
  obtain ⟨hd, z, hs, xs, pr, o', es, ep, ho, hx, hdt, he, _⟩ := I.hok d _ h
  rw [hd] at ho
  cases ho
  refine ⟨hs, hd, hx, es, ep, hdt, ?_, fun i k v e => ?_⟩
  · have l1 : es.size = xs.length := size_of_entries he
    have l2 : kvs.length = xs.length := Paired.length pr
    omega
  · obtain ⟨b, hb, e1, e2, e3⟩ := paired_get pr e
    have q := entry_at he i
    rw [hb] at q
    exact ⟨_, b.2.1, q, rfl, e2, e3⟩
end
/-- the pairs of the locked dict at d, each a new tuple -/
def Itit (d : Addr) (o : Obj) (kvs : List (List L2.Key × V)) : It :=
  ⟨fun i H => H d = some (.frz o (.dT kvs)) ∧ i < kvs.length, fun i H x H' => ∃ T k v q, kvs[i]? = some (k, v) ∧ x = .ref T ∧ H T = none ∧ H q = some (.tup (k.map kV)) ∧ H' = upd H T (.tup [.ref q, v]), fun i H => H d = some (.frz o (.dT kvs)) ∧ kvs.length ≤ i⟩
section
variable {P : Program} {w : World} {K : PySem.W.Frag} {d : Addr} {o : Obj} {es : Array DictEntry} {ep : Nat}
theorem turn_itemsT {kvs : List (List L2.Key × V)} {elts : List Expr} {kk : Nat} {tpos : Pos} (it : Addr) (hod : o.data = .dict es ep) :
    Turn P w K (.Tuple elts kk tpos) (Itit d o kvs) [it] it (fun i h => ∃ ok ov, IsItemIter h it d i kvs.length ep ok ov) where
  mem := by simp
  obj := fun i h st b hb => by
    have e : b = it := by simpa using hb
    subst e
    obtain ⟨ok, ov, e⟩ := st
    exact ⟨_, e, fun v z => nomatch z⟩
  keep := fun i h h' st k => let ⟨ok, ov, e⟩ := st; ⟨ok, ov, k it (by simp) _ e⟩
  item := by
    intro X hP hw hK hc i pins s σ H E I hf st hg
    subst hP hw hK
    obtain ⟨hd, hi⟩ := hg
    obtain ⟨hs, hgd, hx, es', ep', hdt, hsz, ent⟩ := frzT2 I hd
    obtain ⟨rfl, rfl⟩ := dict_ep hod hdt
    obtain ⟨⟨k, v⟩, hkv⟩ : ∃ p, kvs[i]? = some p := ⟨kvs[i], List.getElem?_eq_getElem hi⟩
    obtain ⟨en, q, hen, hkey, hq, ru⟩ := ent i k v hkv
    obtain ⟨ok, ov, he⟩ := st
    rw [← hsz] at he
    have hlt : it < s.heap.objs.size := Heap.lt_size he
    have hi' : i < es'.size := by omega
    have hen' : es'[i] = en := by
      rw [Array.getElem?_eq_getElem hi'] at hen
      exact Option.some.inj hen
    refine DT.nextI he ⟨o, hgd, hx, hdt⟩ hi' fun h' ho hT hz hk => ?_
    refine ⟨_, rfl, wpAny_letOwnedTupleGo_items (s := { s with heap := h' }) ho fun h'' he' sb => ?_⟩
    have hT2 : h''.get? s.heap.objs.size = some { cls := .type "tuple", data := .seq #[.ref q, en.val] } := by
      rw [(sb.2 _ (Nat.ne_of_gt hlt)).trans hT, hen', hkey]
    have new : ObjOk X.prog X.w (upd H s.heap.objs.size (.tup [.ref q, v])) h'' s.heap.objs.size (.tup [.ref q, v]) :=
      ⟨by show 2 ≤ sizeLine; decide, [.ref q, en.val], .cons rfl (.cons ru .nil), ⟨_, hT2, rfl, _, rfl⟩⟩
    have I1 : Inv X pins σ (upd H s.heap.objs.size (.tup [.ref q, v])) { s with heap := h'' } :=
      I.turnedNew (t' := s.toks) (ch := [it]) (fun b ob hb e => (sb.2 b (by simpa using hb)).trans (hk b ob (by simpa using hb) e)) hf (Nat.le_refl _) new
    refine ⟨.ref s.heap.objs.size, _, I1, rfl, ⟨_, k, v, q, hkv, rfl, I.hok.fresh (Nat.le_refl _), hq, rfl⟩, ⟨es'[i].key, es'[i].val, ?_⟩, fun b hb => ?_⟩
    · rw [← hsz]; exact he'
    · have e : b = it := by simpa using hb
      rw [e, upd_ne (Nat.ne_of_lt hlt)]
      exact (hf it (by simp)).1
  done := by
    intro X hP hw hK hc i pins s σ H E I hf st hg
    subst hP hw hK
    obtain ⟨hd, hi⟩ := hg
    obtain ⟨f0, f1, f2, f3, f4, f5⟩ := hf it (by simp)
    obtain ⟨hs, hgd, hx, es', ep', hdt, hsz, ent⟩ := frzT2 I hd
    obtain ⟨rfl, rfl⟩ := dict_ep hod hdt
    obtain ⟨ok, ov, he⟩ := st
    rw [← hsz] at he
    exact DT.endI (I.ok.hd hc) he ⟨o, hgd, hx, hdt⟩ (by omega) fun h' eb => ⟨rfl, I.turned (t' := s.toks) (fun b ob hb e => eb b ob hb e) f0 f1 f3 f4 f5⟩
  self := fun A i s Q E st h => let ⟨_, _, e⟩ := st; PySem.W.kcp_self e h
end
def iItemsT (td : TE) : TI := fun σ H R => td σ H fun x H1 => ∃ d o kvs, x = .ref d ∧ H1 d = some (.frz o (.dT kvs)) ∧ R (Itit d o kvs) H1
section
variable {X : Cx} {e : Expr} {td : TE} {apos cpos : Pos}
theorem pi_itemsT {elts : List Expr} {kk : Nat} {tpos : Pos} (he : PE X e td) (hbase : attributeBase e "items" X.env (eval e X.env) = eval e X.env := by rfl) (hline : (apos.endLine == cpos.line) = true := by rfl) :
    PI X (.Tuple elts kk tpos) (.Call (.Attribute e "items" apos) [] [] cpos) (iItemsT td) := by
  refine ⟨fun pins s σ H R I h => ?_⟩
  refine wpAny_Call_method (T := "dict") (id := "dict.items") hbase rfl hline F.plainAttrs_dict F.slot_dict_items F.type_dict_items (thn (he.run pins s σ H _ I h) fun u s1 ⟨x, H1, I1, rx, d, o, kvs, ex, hd, q⟩ => ?_)
  subst ex
  obtain rfl : u = Value.ref d := rx
  obtain ⟨hs, hgd, hx, es, ep, hdt, hsz, ent⟩ := frzT2 I1 hd
  have hm : DT.Raw s1.heap d es ep := ⟨o, hgd, hx, hdt⟩
  refine ⟨hm.typeIs, fun b e => ⟨o, by cases e; exact hgd, hx.2.1⟩, ?_⟩
  have I2 : Inv X pins σ H1 { s1 with heap := s1.heap.push { cls := .type "dict_items", data := .fields #[.ref d] } } := I1.kept (t' := s1.toks) fun b ob q => Heap.get?_push_of_some _ q
  have fin : wpAny (model X.prog X.w) X.A (pyIter (.ref s1.heap.objs.size)) (PIE X pins σ (.Tuple elts kk tpos) R) X.xe { s1 with heap := s1.heap.push { cls := .type "dict_items", data := .fields #[.ref d] } } := by
    refine DT.iterI (d := d) (es := es) (ep := ep) ⟨_, Heap.get?_push_size _ rfl, rfl, rfl⟩ (hm.push _) (pi_one (tk := s1.toks) I2 _ (turn_itemsT _ hdt) ⟨.none, .none, ?_⟩ q)
    rw [← hsz]
    exact Heap.get?_push_size _ rfl
  show wpAny _ _ (callWith cpos (.builtin "dict.items") [.ref d] [] []) _ X.xe s1
  exact method_meetsIn F.slot_dict_items F.entry_dict_items rfl (PySem.evalArgs_none ⟨rfl, hm.typeIs, F.args_dict_items_1 _, _, DT.meetsItems (es := es) (ep := ep) hs, hm, fin⟩)
end
theorem walk_itemsT {d : Addr} {o : Obj} {kvs : List (List L2.Key × V)} : Walk (Itit d o kvs) kvs.length (fun H => H d = some (.frz o (.dT kvs)))
    (fun i H x H' => ∃ T k v q, kvs[i]? = some (k, v) ∧ x = .ref T ∧ H T = none ∧ H q = some (.tup (k.map kV)) ∧ H' = upd H T (.tup [.ref q, v])) :=
  ⟨fun _ _ hi q => ⟨q, hi⟩, fun _ q => ⟨q, Nat.le_refl _⟩, fun _ _ _ _ _ _ y => y⟩
end G
namespace G
open PySem PySem.Spec PyProof.Rows L2 Evl TL
def namesD (d : CircD) : List Str := d.ins ++ d.gates.map (·.name) ++ d.regs.map (·.name)
structure TxtN (mg : Str → Option Value) : Prop where
  list : mg "list" = none
section
variable {P : Program} {w : World} {K : PySem.W.Frag} {mg : Str → Option Value} {base : Heap}
theorem gate_name {H : Hp} {a : Addr} {g : GateD} (h : GateAt H a g) : ∃ xs : List V, H a = some (.tup xs) ∧ xs[0]? = some (.str g.name) := by
  obtain ⟨t, pt, rt, ra, h1, _⟩ := h
  exact ⟨_, h1, rfl⟩
theorem reg_name {H : Hp} {a : Addr} {r : RegD} (h : RegAt H a r) : ∃ xs : List V, H a = some (.tup xs) ∧ xs[0]? = some (.str r.name) := by
  obtain ⟨ea, oa, h1, _⟩ := h
  exact ⟨_, h1, rfl⟩
def spNames : Sp := fun vs H Q _ => ∃ (c : Addr) (d : CircD) (it gt rt ot : Addr) (ga ra oa : List Addr), vs = [.ref c] ∧ CircAt H c d it gt rt ot ga ra oa ∧ (namesD d).length ≤ 1000 ∧ ∀ (l : Addr) (H' : Hp), H l = none → Ex H H' → H' l = some (.lst ((namesD d).map V.str)) → Q (.ref l) H'
theorem sc_all_names : FnScope ["circuit", "inputs", "gates", "regs", "_", "reg", "gate"] ["circuit"] (defScope s_all_names) := ⟨rfl, rfl, rfl, by decide +kernel, rfl, by decide +kernel, by decide +kernel⟩
theorem ok_all_names (D : Dfd K mg "_all_names" s_all_names ["circuit"]) (T : TxtN mg) : Has P w K mg base 1 "_all_names" ["circuit"] spNames := by
  refine D.has fun f fd F => F.ok sc_all_names (fun vs H Q E h => ?_) (fun cdv A outer s H vs Q E hr h => ?_)
  · obtain ⟨c, d, it, gt, rt, ot, ga, ra, oa, rfl, _⟩ := h
    rfl
  · obtain ⟨c, d, it, gt, rt, ot, ga, ra, oa, rfl, hc, hn, q⟩ := h
    have hlen : d.ins.length + d.gates.length + d.regs.length ≤ 1000 := by
      unfold namesD at hn
      rw [List.length_append, List.length_append, List.length_map, List.length_map] at hn
      omega
    refine ⟨_, (pss_cons (ps_asg (pv 0) (pg_tup rfl (pgs_cons (pg_name (i := 1) sc_all_names.nd rfl (.inl rfl)) (pgs_cons (pg_name (i := 2) sc_all_names.nd rfl (.inl rfl)) (pgs_cons (pg_name (i := 3) sc_all_names.nd rfl (.inl rfl)) (pgs_cons (pg_name (i := 4) sc_all_names.nd rfl (.inl rfl)) pgs_nil))))))
    (pss_one (ps_ret (pe_op op_cat (pe_op op_cat (pe_callTy call_list_of (by rfl) T.list (by decide +kernel) (pa_cons (pv 1) pa_nil)) (pe_lc (own := [("gate", 6)]) (g := gName 6) (tt := tYes) rfl sc_all_names.nd (pi_tup (pv 2)) (blkOk_by (N := ["circuit", "inputs", "gates", "regs", "_", "reg", "gate"]) (sc := defScope s_all_names) (own := [("gate", 6)]) (by decide +kernel)) (fun _ _ _ _ _ => (pg_name (i := 6) sc_all_names.nd rfl (.inl rfl))) (fun _ _ _ _ _ => pts_nil) (fun _ _ _ _ _ => (pe_ix (kIxT (K := K) rfl) (pv 6) pe_int (fun _ _ => rfl))))) (pe_lc (own := [("reg", 5)]) (g := gName 5) (tt := tYes) rfl sc_all_names.nd (pi_tup (pv 3)) (blkOk_by (N := ["circuit", "inputs", "gates", "regs", "_", "reg", "gate"]) (sc := defScope s_all_names) (own := [("reg", 5)]) (by decide +kernel)) (fun _ _ _ _ _ => (pg_name (i := 5) sc_all_names.nd rfl (.inl rfl))) (fun _ _ _ _ _ => pts_nil) (fun _ _ _ _ _ => (pe_ix (kIxT (K := K) rfl) (pv 5) pe_int (fun _ _ => rfl)))))))), ?_⟩
    refine ⟨_, rfl, c, _, rfl, SqT.of hc.top, rfl, _, _, rfl, _, _, rfl, _, _, rfl, _, _, rfl, rfl, ?_⟩
    refine ⟨_, rfl, _, _, rfl, .inr (SqT.of hc.ins), fun l1 n1 => ?_⟩
    have E1 : Ex H (upd H l1 (.lst (d.ins.map V.str))) := Ex.new n1
    have h1 : upd H l1 (.lst (d.ins.map V.str)) l1 = some (.lst (d.ins.map V.str)) := upd_same
    generalize upd H l1 (.lst (d.ins.map V.str)) = H1 at *
    have hc1 := hc.te (.of E1)
    refine ⟨_, rfl, gt, rfl, ⟨_, SqT.of hc1.gts⟩, fun L2 nL2 => wk_tup (K := K) (a := gt) (xs := ga.map V.ref) (fun j H' => Ex H1 H' ∧ H' L2 = some (.lst (((d.gates.map (·.name)).take j).map V.str))) ⟨Ex.new nL2, by rw [upd_same]; rfl⟩ (fun j H' _ g => SqT.of (g.1 _ _ hc1.gts)) ?_ ?_⟩
    · rintro j x H2 hx ⟨E2, hL⟩
      rw [List.getElem?_map] at hx
      cases e : ga[j]? with
      | none => rw [e] at hx; cases hx
      | some b =>
        rw [e] at hx; cases hx
        obtain ⟨g, hg, hgt⟩ := hc1.gates.at_ e
        obtain ⟨xs, hb, hx0⟩ := gate_name hgt
        have hj : j < d.gates.length := (List.getElem?_eq_some_iff.mp hg).1
        refine ⟨rfl, tYes_in ⟨_, rfl, _, _, _, _, rfl, rfl, SqT.of (E2 _ _ hb), atI_nat (j := 0) hx0, _, hL, sz_lt (by rw [List.length_map, List.length_take]; omega), E2.mut nL2, ?_⟩⟩
        rw [upd_same, List.take_add_one, List.getElem?_map, hg, List.map_append]; rfl
    rintro H2 ⟨E2, hL⟩
    rw [List.length_map, hc1.gates.1, ← List.length_map (f := fun g : GateD => g.name), List.take_length] at hL
    refine ⟨l1, L2, _, _, rfl, rfl, E2 _ _ h1, hL, sz_of (by rw [List.length_map, List.length_map, List.length_map]; omega), fun l3 n3 => ?_⟩
    rw [← List.map_append]
    have E3 : Ex H2 (upd H2 l3 (.lst ((d.ins ++ d.gates.map (·.name)).map V.str))) := Ex.new n3
    have h3 : upd H2 l3 (.lst ((d.ins ++ d.gates.map (·.name)).map V.str)) l3 = some (.lst ((d.ins ++ d.gates.map (·.name)).map V.str)) := upd_same
    generalize upd H2 l3 (.lst ((d.ins ++ d.gates.map (·.name)).map V.str)) = H3 at *
    have hc3 := hc.te (.of (E1.trans (E2.trans E3)))
    refine ⟨_, rfl, rt, rfl, ⟨_, SqT.of hc3.rgs⟩, fun L4 nL4 => wk_tup (K := K) (a := rt) (xs := ra.map V.ref) (fun j H' => Ex H3 H' ∧ H' L4 = some (.lst (((d.regs.map (·.name)).take j).map V.str))) ⟨Ex.new nL4, by rw [upd_same]; rfl⟩ (fun j H' _ g => SqT.of (g.1 _ _ hc3.rgs)) ?_ ?_⟩
    · rintro j x H4 hx ⟨E4, hL4⟩
      rw [List.getElem?_map] at hx
      cases e : ra[j]? with
      | none => rw [e] at hx; cases hx
      | some b =>
        rw [e] at hx; cases hx
        obtain ⟨g, hg, hgt⟩ := hc3.regs.at_ e
        obtain ⟨xs, hb, hx0⟩ := reg_name hgt
        have hj : j < d.regs.length := (List.getElem?_eq_some_iff.mp hg).1
        refine ⟨rfl, tYes_in ⟨_, rfl, _, _, _, _, rfl, rfl, SqT.of (E4 _ _ hb), atI_nat (j := 0) hx0, _, hL4, sz_lt (by rw [List.length_map, List.length_take]; omega), E4.mut nL4, ?_⟩⟩
        rw [upd_same, List.take_add_one, List.getElem?_map, hg, List.map_append]; rfl
    rintro H4 ⟨E4, hL4⟩
    rw [List.length_map, hc3.regs.1, ← List.length_map (f := fun g : RegD => g.name), List.take_length] at hL4
    refine ⟨l3, L4, _, _, rfl, rfl, E4 _ _ h3, hL4, sz_of (by rw [List.length_map, List.length_map, List.length_append, List.length_map, List.length_map]; omega), fun l5 n5 => ?_⟩
    have E5 := E1.trans (E2.trans (E3.trans E4))
    refine q l5 _ (fresh_back E5 n5) (E5.trans (Ex.new n5)) ?_
    rw [upd_same, ← List.map_append]; rfl
def spCheckN (C : Addr) : Sp := fun vs H Q E => ∃ (c l : Addr) (d : CircD) (ns : List Str) (it gt rt ot : Addr) (ga ra oa : List Addr), vs = [.ref c, .ref l] ∧ CircAt H c d it gt rt ot ga ra oa ∧ (namesD d).length ≤ 1000 ∧ H l = some (.lst (ns.map V.str)) ∧ (∀ x ∈ ns, x.length ≤ 1000) ∧
  ((∀ x ∈ ns, x ∈ namesD d) → ∀ H', Ex H H' → Q .non H') ∧ ((∃ x ∈ ns, x ∉ namesD d) → ∀ H', Ex H H' → E (.ref C) none H')
theorem sc_check_nets : FnScope ["circuit", "names", "name", "nets"] ["circuit", "names"] (defScope s_check_nets) := ⟨rfl, rfl, rfl, by decide +kernel, rfl, by decide +kernel, by decide +kernel⟩
theorem ok_check_nets {C : Addr} (D : Dfd K mg "check_nets" s_check_nets ["circuit", "names"]) (U : ExcT K mg "UnknownName" C) (C1 : Has P w K mg base 1 "_all_names" ["circuit"] spNames) : HasX P w K mg base 2 "check_nets" ["circuit", "names"] (spCheckN C) := by
  obtain ⟨f_all_names, d_all_names, G_all_names, g_all_names, k_all_names, b_all_names⟩ := C1
  obtain ⟨f, fd, F, gf, bf⟩ := D
  refine ⟨f, fd, F.okX sc_check_nets (fun vs H Q E h => ?_) (fun cdv A outer s H vs Q E hr h => ?_), gf, F.kp, bf⟩
  · obtain ⟨c, l, d, ns, it, gt, rt, ot, ga, ra, oa, rfl, _⟩ := h
    rfl
  · obtain ⟨c, l, d, ns, it, gt, rt, ot, ga, ra, oa, rfl, hc, hn, hl, hsm, q1, q2⟩ := h
    refine ⟨_, (pss_cons (ps_setDc (i := 3) (own := [("name", 2)]) (g := gName 2) (tt := tYes) rfl sc_check_nets.nd rfl rfl (sw_trueD rfl rfl rfl (by decide +kernel)) (pi_list (pe_call G_all_names (hr.mono (by omega)) (by rfl) g_all_names k_all_names b_all_names .nil pass0 (pa_cons (pv 0) pa_nil))) (blkOk_by (N := ["circuit", "names", "name", "nets"]) (sc := defScope s_check_nets) (own := [("name", 2)]) (by decide +kernel)) (fun _ _ _ _ _ => (pg_name (i := 2) sc_check_nets.nd rfl (.inl rfl))) (fun _ _ _ _ _ => pts_nil) (fun _ _ _ _ _ => (pv 2)) (fun _ _ _ _ _ => pe_bl))
    (pss_one (ps_for (passes_of rfl) rfl (pi_list (pv 1)) (pg_name (i := 2) sc_check_nets.nd rfl (.inl rfl))
      (pss_one (ps_if (pt_cmp (pc_dnotin (hu_of hr) (pv 2) (pv 3)))
        (pss_one (ps_raise rfl (takes_of rfl rfl rfl rfl) (pmk_ownA PySem.F.excBase_ValueError U.xP U.gC U.kC (raises_own U.bC U.tC) rfl (pa_cons (pe_joined (.cons (pe_fmt (pv 2)) (.cons pe_str .nil))) pa_nil))))
        pss_nil))))), ?_⟩
    have hn2 : (namesD d).length ≤ 1000 := hn
    refine ⟨_, rfl, c, d, it, gt, rt, ot, ga, ra, oa, rfl, hc, hn, fun L H1 nL E1 hL => ⟨L, rfl, ⟨_, SqL.of hL⟩, fun Dc nDc => wk_list (K := K) (a := L) (xs := (namesD d).map V.str)
      (fun j H' => Ex H1 H' ∧ ∃ es : List (Key × V), H' Dc = some (.dK es) ∧ es.length ≤ j ∧ ∀ x : Str, (valV es (.inr x)).isSome = decide (x ∈ (namesD d).take j))
      ⟨Ex.new nDc, [], upd_same, Nat.le_refl _, fun x => by rw [List.take_zero]; rfl⟩ (fun j H' _ g => SqL.of (g.1 _ _ hL)) ?_ ?_⟩⟩
    · rintro j x H2 hx ⟨E2, es, hD, hel, hk⟩
      have hj : j < (namesD d).length := by have := (List.getElem?_eq_some_iff.mp hx).1; rw [List.length_map] at this; exact this
      obtain rfl : x = .str (namesD d)[j] := by rw [strV_at hj] at hx; exact (Option.some.inj hx).symm
      refine ⟨rfl, tYes_in ⟨_, rfl, es, .inr (namesD d)[j], rfl, hD, sz_lt (by omega), E2.mut nDc, _, upd_same, Nat.le_trans (length_putK _ _ _) (Nat.succ_le_succ hel), fun x => ?_⟩⟩
      rw [valV_put, List.take_add_one, List.getElem?_eq_getElem hj]
      by_cases e : x = (namesD d)[j]
      · rw [if_pos (by rw [e]), decide_eq_true (by rw [e]; exact List.mem_append.mpr (.inr (List.mem_singleton.mpr rfl)))]; rfl
      · rw [if_neg (fun z => e (Sum.inr.inj z)), hk x, decide_eq_decide]
        exact ⟨fun h => List.mem_append.mpr (.inl h), fun h => (List.mem_append.mp h).elim id fun z => absurd (List.mem_singleton.mp z) e⟩
    rintro H2 ⟨E2, es, hD, hel, hk⟩
    rw [List.length_map, List.take_length] at hk
    have e2 := E1.trans E2
    refine ⟨_, rfl, l, rfl, ⟨_, SqL.of (e2 _ _ hl)⟩, for_list (K := K) (a := l) (xs := ns.map V.str)
      (fun i σ H' => Ex H2 H' ∧ (∀ x ∈ ns.take i, x ∈ namesD d) ∧ ∃ z : Option V, σ = [some (.ref c), some (.ref l), z, some (.ref Dc)]) ⟨.refl _, (by rw [List.take_zero]; exact fun _ h => nomatch h), _, rfl⟩ (fun i σ H' _ g => SqL.of (g.1 _ _ (e2 _ _ hl))) ?_ ?_⟩
    · rintro i x σ H3 hx ⟨E3, hall, z, rfl⟩
      have hi : i < ns.length := by have := (List.getElem?_eq_some_iff.mp hx).1; rw [List.length_map] at this; exact this
      obtain rfl : x = .str ns[i] := by rw [strV_at hi] at hx; exact (Option.some.inj hx).symm
      refine ⟨_, rfl, _, rfl, Dc, _, rfl, DGet.k (k := Sum.inr ns[i]) (E3 _ _ hD), _, rfl, ?_⟩
      rw [hk]
      cases hm : decide (ns[i] ∈ namesD d) with
      | true =>
        refine iteF ⟨E3, fun x hx => ?_, _, rfl⟩
        rw [List.take_add_one, List.getElem?_eq_getElem hi] at hx
        rcases List.mem_append.mp hx with z | z
        · exact hall x z
        · rw [List.mem_singleton.mp z]; exact of_decide_eq_true hm
      | false =>
        have hlen := hsm _ (List.getElem_mem hi)
        have hno := of_decide_eq_false hm
        have e1 : (Str.empty ++ ns[i]).length = ns[i].length := by
          rw [len_tl, tl_append, List.length_append, len_tl ns[i]]
          exact Nat.zero_add _
        refine iteT ⟨_, rfl, .inl ⟨ns[i], rfl, sz_of (by omega), ns[i], rfl, sz_of (by omega), " is not a net", rfl, sz_of ?_, (by show 1 ≤ sizeLine; decide), ?_⟩⟩
        · rw [len_tl, tl_append, List.length_append, ← len_tl (Str.empty ++ ns[i]), e1]
          have : (tl (" is not a net" : Str)).length = 13 := by decide +kernel
          omega
        · exact q2 ⟨ns[i], List.getElem_mem hi, hno⟩ H3 (e2.trans E3)
    · rintro σ H3 ⟨E3, hall, z, rfl⟩
      rw [List.length_map, List.take_length] at hall
      exact q1 hall H3 (e2.trans E3)
end
end G
namespace G
open PySem PySem.Spec PyProof.Rows L2 Evl TL
/-! ## taps -/
/-- the pin of the gate is connected to the net -/
def okTap (d : CircD) (net : Str) (g pin : Int) : Prop := ∃ (gn pn : Nat) (gd : GateD), g = gn ∧ pin = pn ∧ d.gates[gn]? = some gd ∧ gd.pins[pn]? = some net
section
variable {P : Program} {w : World} {K : PySem.W.Frag} {mg : Str → Option Value} {base : Heap}
structure TxtLd (mg : Str → Option Value) : Prop where
  len : mg "len" = none
  list : mg "list" = none
  range : mg "range" = none
  enumerate : mg "enumerate" = none
  tuple : mg "tuple" = none
  isinstance : mg "isinstance" = none
def spConn (B : Addr) : Sp := fun vs H Q E => ∃ (c : Addr) (d : CircD) (net : Str) (g pin : Int) (it gt rt ot : Addr) (ga ra oa : List Addr), vs = [.ref c, .str net, .int g, .int pin] ∧ CircAt H c d it gt rt ot ga ra oa ∧ d.gates.length ≤ 1000 ∧ net.length ≤ 1000 ∧
  (okTap d net g pin → Q .non H) ∧ (¬ okTap d net g pin → ∀ H', Ex H H' → E (.ref B) none H')
theorem sc_check_connected : FnScope ["circuit", "net", "g", "pin", "gates"] ["circuit", "net", "g", "pin"] (defScope s_check_connected) := ⟨rfl, rfl, rfl, by decide +kernel, rfl, by decide +kernel, by decide +kernel⟩
theorem ok_check_connected {B : Addr} (D : Dfd K mg "_check_connected" s_check_connected ["circuit", "net", "g", "pin"]) (UB : ExcT K mg "BadArgument" B) (T : TxtLd mg) : HasX P w K mg base 1 "_check_connected" ["circuit", "net", "g", "pin"] (spConn B) := by
  obtain ⟨f, fd, F, gf, bf⟩ := D
  refine ⟨f, fd, F.okX sc_check_connected (fun vs H Q E h => ?_) (fun cdv A outer s H vs Q E hr h => ?_), gf, F.kp, bf⟩
  · obtain ⟨c, d, net, g, pin, it, gt, rt, ot, ga, ra, oa, rfl, _⟩ := h
    rfl
  · obtain ⟨c, d, net, g, pin, it, gt, rt, ot, ga, ra, oa, rfl, hc, hl, hn, q1, q2⟩ := h
    refine ⟨_, (pss_cons (ps_set (i := 4) sc_check_connected.nd rfl (.inl rfl) (pe_ix ix_tup (pv 0) pe_int (fun _ _ => rfl)))
    (pss_one (ps_if (PW.pt (pw_or (pt_cmpR op_lt (pv 2) pe_int (nomark _)) (pw_or (pt_cmpR op_ge (pv 2) (pe_callB call_len_seq (by rfl) T.len (by decide +kernel) (pa_cons (pv 4) pa_nil)) (nomark _)) (pw_or (pt_cmpR op_lt (pv 3) pe_int (nomark _)) (pw_or (pt_cmpR op_ge (pv 3) (pe_callB call_len_seq (by rfl) T.len (by decide +kernel) (pa_cons (pe_ix ix_tup (pe_ix ix_tup (pv 4) (pv 2) (fun _ _ => rfl)) pe_int (fun _ _ => rfl)) pa_nil)) (nomark _)) (pw_or1 (pt_cmpR op_ne (pe_ix ix_tup (pe_ix ix_tup (pe_ix ix_tup (pv 4) (pv 2) (fun _ _ => rfl)) pe_int (fun _ _ => rfl)) (pv 3) (fun _ _ => rfl)) (pv 1) (nomark _))))))))
      (pss_one (ps_raise rfl (takes_of rfl rfl rfl rfl) (pmk_ownA PySem.F.excBase_ValueError UB.xP UB.gC UB.kC (raises_own UB.bC UB.tC) rfl (pa_cons (pe_joined (.cons pe_str (.cons (pe_fmt (pv 1)) .nil))) pa_nil))))
      pss_nil))), ?_⟩
    have e0 : (tl ("a pin is not connected to " : Str)).length = 26 := by decide +kernel
    have z1 : (Str.empty ++ ("a pin is not connected to " : Str)).length ≤ 100000 := by
      rw [len_tl, tl_append, List.length_append, e0]; decide
    have z2 : net.length ≤ 100000 := by omega
    have z3 : (Str.empty ++ ("a pin is not connected to " : Str) ++ net).length ≤ 100000 := by
      rw [Str.length_append, len_tl (Str.empty ++ _), tl_append, List.length_append, e0]
      show 0 + 26 + _ ≤ _
      omega
    have hgl : (ga.map V.ref).length = d.gates.length := by rw [List.length_map, hc.gates.1]
    refine ⟨_, rfl, _, _, _, _, rfl, rfl, SqT.of hc.top, atI_nat (j := 1) rfl, _, rfl, _, _, rfl, rfl, _, rfl, ite2 (fun e1 => ?_) (fun e1 => ?_)⟩
    · exact ⟨_, rfl, sz_of z1, _, rfl, .inl ⟨net, rfl, sz_of z2, _, rfl, sz_of z3, (by show 1 ≤ sizeLine; decide), q2 (fun ⟨gn, pn, gd, h1, _⟩ => absurd (of_decide_eq_true e1) (by omega)) _ (Ex.refl _)⟩⟩
    have g0 : 0 ≤ g := by
      have : ¬ g < 0 := fun z => e1 (decide_eq_true z)
      omega
    obtain ⟨gn, rfl⟩ : ∃ gn : Nat, g = gn := ⟨g.toNat, by omega⟩
    refine ⟨_, rfl, _, rfl, _, _, rfl, .inr (SqT.of hc.gts), _, _, rfl, rfl, _, rfl, ite2 (fun e2 => ?_) (fun e2 => ?_)⟩
    · rw [hgl] at e2
      exact ⟨_, rfl, sz_of z1, _, rfl, .inl ⟨net, rfl, sz_of z2, _, rfl, sz_of z3, (by show 1 ≤ sizeLine; decide), q2 (fun ⟨gn', pn, gd, h1, _, h2, _⟩ => absurd (List.getElem?_eq_some_iff.mp h2).1 (by have := of_decide_eq_true e2; omega)) _ (Ex.refl _)⟩⟩
    rw [hgl] at e2
    have g1 : gn < d.gates.length := by
      have : ¬ ((d.gates.length : Int) ≤ (gn : Int)) := fun z => e2 (decide_eq_true z)
      omega
    refine ⟨_, rfl, _, _, rfl, rfl, _, rfl, ite2 (fun e3 => ?_) (fun e3 => ?_)⟩
    · exact ⟨_, rfl, sz_of z1, _, rfl, .inl ⟨net, rfl, sz_of z2, _, rfl, sz_of z3, (by show 1 ≤ sizeLine; decide), q2 (fun ⟨gn', pn, gd, _, h1, _⟩ => absurd (of_decide_eq_true e3) (by omega)) _ (Ex.refl _)⟩⟩
    have p0 : 0 ≤ pin := by
      have : ¬ pin < 0 := fun z => e3 (decide_eq_true z)
      omega
    obtain ⟨pn, rfl⟩ : ∃ pn : Nat, pin = pn := ⟨pin.toNat, by omega⟩
    have hga : gn < ga.length := by rw [hc.gates.1]; exact g1
    have hat := hc.gates.2 gn ga[gn] d.gates[gn] (List.getElem?_eq_getElem hga) (List.getElem?_eq_getElem g1)
    have hgr : (ga.map V.ref)[gn]? = some (.ref ga[gn]) := by rw [List.getElem?_map, List.getElem?_eq_getElem hga]; rfl
    have hd : d.gates[gn]? = some d.gates[gn] := List.getElem?_eq_getElem g1
    generalize d.gates[gn] = gd at hat hd
    obtain ⟨t, pt, rt', ra', h1, h2, h3, h4, h5⟩ := hat
    refine ⟨_, rfl, _, rfl, _, rfl, _, _, _, _, rfl, rfl, SqT.of hc.gts, atI_nat hgr, _, _, _, _, rfl, rfl, SqT.of h1, atI_nat (j := 2) rfl, _, _, rfl, .inr (SqT.of h3), _, _, rfl, rfl, _, rfl, ite2 (fun e4 => ?_) (fun e4 => ?_)⟩
    · rw [List.length_map] at e4
      exact ⟨_, rfl, sz_of z1, _, rfl, .inl ⟨net, rfl, sz_of z2, _, rfl, sz_of z3, (by show 1 ≤ sizeLine; decide), q2 (fun ⟨gn', pn', gd', h6, h7, h8, h9⟩ => by
        obtain rfl : gn = gn' := by omega
        obtain rfl : pn = pn' := by omega
        rw [hd] at h8
        cases h8
        exact absurd (List.getElem?_eq_some_iff.mp h9).1 (by have := of_decide_eq_true e4; omega)) _ (Ex.refl _)⟩⟩
    rw [List.length_map] at e4
    have p1 : pn < gd.pins.length := by
      have : ¬ ((gd.pins.length : Int) ≤ (pn : Int)) := fun z => e4 (decide_eq_true z)
      omega
    have hp : gd.pins[pn]? = some gd.pins[pn] := List.getElem?_eq_getElem p1
    have hpv : (gd.pins.map V.str)[pn]? = some (.str gd.pins[pn]) := by rw [List.getElem?_map, hp]; rfl
    generalize gd.pins[pn] = nt at hp hpv
    refine ⟨_, rfl, _, rfl, _, _, _, _, rfl, rfl, SqT.of hc.gts, atI_nat hgr, _, _, _, _, rfl, rfl, SqT.of h1, atI_nat (j := 2) rfl, _, rfl, _, _, _, _, rfl, rfl, SqT.of h3, atI_nat hpv, _, rfl, rfl, _, rfl, ite2 (fun e5 => ?_) (fun e5 => ?_)⟩
    · exact ⟨_, rfl, sz_of z1, _, rfl, .inl ⟨net, rfl, sz_of z2, _, rfl, sz_of z3, (by show 1 ≤ sizeLine; decide), q2 (fun ⟨gn', pn', gd', h6, h7, h8, h9⟩ => by
        obtain rfl : gn = gn' := by omega
        obtain rfl : pn = pn' := by omega
        rw [hd] at h8
        cases h8
        rw [hp] at h9
        cases h9
        rw [decide_eq_true rfl] at e5
        cases e5) _ (Ex.refl _)⟩⟩
    · have en : nt = net := by
        by_cases z : (V.str nt = V.str net)
        · cases z; rfl
        · exact absurd (by rw [decide_eq_false z]; rfl) e5
      subst en
      exact q1 ⟨gn, pn, gd, rfl, rfl, hd, hp⟩
def addP (p q : Int × Int) : Int × Int := (p.1 + q.1, p.2 + q.2)
def spAdded : Sp := fun vs H Q _ => ∃ (a b : Addr) (p q : Int × Int), vs = [.ref a, .ref b] ∧ IntsAt H a p ∧ IntsAt H b q ∧ ∀ t, H t = none → Q (.ref t) (upd H t (.tup [.int (addP p q).1, .int (addP p q).2]))
theorem sc_added : FnScope ["pair", "delay"] ["pair", "delay"] (defScope s_added) := ⟨rfl, rfl, rfl, by decide +kernel, rfl, by decide +kernel, by decide +kernel⟩
theorem ok_added (D : Dfd K mg "_added" s_added ["pair", "delay"]) : Has P w K mg base 1 "_added" ["pair", "delay"] spAdded := by
  refine D.has fun f fd F => F.ok sc_added (fun vs H Q E h => ?_) (fun cdv A outer s H vs Q E hr h => ?_)
  · obtain ⟨a, b, p, q, rfl, _⟩ := h
    rfl
  · obtain ⟨a, b, p, q, rfl, h1, h2, q'⟩ := h
    refine ⟨_, (pss_one (ps_ret (pe_tup (pa_cons (pe_op op_add (pe_ix ix_tup (pv 0) pe_int (fun _ _ => rfl)) (pe_ix ix_tup (pv 1) pe_int (fun _ _ => rfl))) (pa_cons (pe_op op_add (pe_ix ix_tup (pv 0) pe_int (fun _ _ => rfl)) (pe_ix ix_tup (pv 1) pe_int (fun _ _ => rfl))) pa_nil))))), ?_⟩
    exact ⟨_, rfl, _, _, _, _, rfl, rfl, SqT.of h1, atI_nat (j := 0) rfl, _, rfl, _, _, _, _, rfl, rfl, SqT.of h2, atI_nat (j := 0) rfl, _, _, rfl, rfl, _, rfl, _, _, _, _, rfl, rfl, SqT.of h1, atI_nat (j := 1) rfl, _, rfl, _, _, _, _, rfl, rfl, SqT.of h2, atI_nat (j := 1) rfl, _, _, rfl, rfl, (by show 2 ≤ sizeLine; decide), fun t nt => q' t nt⟩
/-- the pins that read a net -/
def pinsF (pins : List Str) (net : Str) (g : Nat) : List (Nat × Nat) := ((List.range pins.length).filter fun j => pins[j]? == some net).map fun j => (g, j)
def pinsU (d : CircD) (net : Str) (n : Nat) : List (Nat × Nat) := (List.range n).flatMap fun g => match d.gates[g]? with
  | some gd => pinsF gd.pins net g
  | none => []
def pinsD (d : CircD) (net : Str) : List (Nat × Nat) := pinsU d net d.gates.length
def NatsAt (H : Hp) (a : Addr) (p : Nat × Nat) : Prop := H a = some (.tup [.int (p.1 : Nat), .int (p.2 : Nat)])
theorem pinsF_succ (ps : List Str) (net : Str) (g n : Nat) : (((List.range (n + 1)).filter fun j => ps[j]? == some net).map fun j => (g, j)) = (((List.range n).filter fun j => ps[j]? == some net).map fun j => (g, j)) ++ (if ps[n]? == some net then [(g, n)] else []) := by
  rw [List.range_succ, List.filter_append, List.map_append]
  congr 1
  by_cases h : (ps[n]? == some net) = true
  · rw [if_pos h]
    show List.map (fun j => (g, j)) (match (ps[n]? == some net) with | true => [n] | false => []) = _
    rw [h]; rfl
  · rw [if_neg h]
    show List.map (fun j => (g, j)) (match (ps[n]? == some net) with | true => [n] | false => []) = _
    rw [Bool.eq_false_iff.mpr h]; rfl
theorem pinsU_succ (d : CircD) (net : Str) (n : Nat) {gd : GateD} (h : d.gates[n]? = some gd) : pinsU d net (n + 1) = pinsU d net n ++ pinsF gd.pins net n := by
  unfold pinsU
  rw [List.range_succ, List.flatMap_append, List.flatMap_singleton, h]
theorem pinsU_len (d : CircD) (net : Str) (hp : ∀ g ∈ d.gates, g.pins.length ≤ 10) : ∀ n, (pinsU d net n).length ≤ n * 10
  | 0 => Nat.zero_le _
  | n + 1 => by
    have ih := pinsU_len d net hp n
    cases h : d.gates[n]? with
    | none =>
      unfold pinsU at ih ⊢
      rw [List.range_succ, List.flatMap_append, List.flatMap_singleton, h, List.append_nil]
      omega
    | some gd =>
      rw [pinsU_succ d net n h, List.length_append]
      have h1 := hp gd (List.mem_of_getElem? h)
      have h2 : (pinsF gd.pins net n).length ≤ gd.pins.length := by
        unfold pinsF
        rw [List.length_map]
        exact Nat.le_trans (List.length_filter_le _ _) (by rw [List.length_range]; exact Nat.le_refl _)
      omega
def spPins : Sp := fun vs H Q _ => ∃ (c : Addr) (d : CircD) (net : Str) (it gt rt ot : Addr) (ga ra oa : List Addr), vs = [.ref c, .str net] ∧ CircAt H c d it gt rt ot ga ra oa ∧ d.gates.length ≤ 1000 ∧ (∀ g ∈ d.gates, g.pins.length ≤ 10) ∧
  ∀ (l : Addr) (as : List Addr) (H' : Hp), Ex H H' → H l = none → H' l = some (.lst (as.map V.ref)) → All2 (NatsAt H') as (pinsD d net) → Q (.ref l) H'
theorem sc_law_pins : FnScope ["circuit", "net", "found", "k", "j"] ["circuit", "net"] (defScope s_law_pins) := ⟨rfl, rfl, rfl, by decide +kernel, rfl, by decide +kernel, by decide +kernel⟩
theorem ok_law_pins (D : Dfd K mg "_law_pins" s_law_pins ["circuit", "net"]) (T : TxtLd mg) : Has P w K mg base 1 "_law_pins" ["circuit", "net"] spPins := by
  refine D.has fun f fd F => F.ok sc_law_pins (fun vs H Q E h => ?_) (fun cdv A outer s H vs Q E hr h => ?_)
  · obtain ⟨c, d, net, it, gt, rt, ot, ga, ra, oa, rfl, _⟩ := h
    rfl
  · obtain ⟨c, d, net, it, gt, rt, ot, ga, ra, oa, rfl, hc, hl, hp, q⟩ := h
    refine ⟨_, (pss_cons (ps_set (i := 2) sc_law_pins.nd rfl (.inl rfl) (pe_lst pa_nil))
    (pss_cons (ps_for PassesOwn.never rfl (pi_range1 rfl T.range (pa_cons (pe_callB call_len_seq (by rfl) T.len (by decide +kernel) (pa_cons (pe_ix ix_tup (pv 0) pe_int (fun _ _ => rfl)) pa_nil)) pa_nil)) (pg_name (i := 3) sc_law_pins.nd rfl (.inl rfl))
      (pss_one (ps_for PassesOwn.never rfl (pi_range1 rfl T.range (pa_cons (pe_callB call_len_seq (by rfl) T.len (by decide +kernel) (pa_cons (pe_ix ix_tup (pe_ix ix_tup (pe_ix ix_tup (pv 0) pe_int (fun _ _ => rfl)) (pv 3) (fun _ _ => rfl)) pe_int (fun _ _ => rfl)) pa_nil)) pa_nil)) (pg_name (i := 4) sc_law_pins.nd rfl (.inl rfl))
        (pss_one (ps_if (pt_cmpR op_eq (pe_ix ix_tup (pe_ix ix_tup (pe_ix ix_tup (pe_ix ix_tup (pv 0) pe_int (fun _ _ => rfl)) (pv 3) (fun _ _ => rfl)) pe_int (fun _ _ => rfl)) (pv 4) (fun _ _ => rfl)) (pv 1) (nomark _))
          (pss_one (ps_expr (pe_bm PySem.F.plainAttrs_list PySem.F.slot_list_append PySem.F.type_list_append mt_append (pv 2) (pa_cons (pe_tup (pa_cons (pv 3) (pa_cons (pv 4) pa_nil))) pa_nil))))
          pss_nil)))))
    (pss_one (ps_ret (pv 2))))), ?_⟩
    have hgl : (ga.map V.ref).length = d.gates.length := by rw [List.length_map, hc.gates.1]
    refine ⟨Nat.zero_le _, fun L nL => ⟨_, rfl, _, _, _, _, rfl, rfl, SqT.of (Ex.new nL _ _ hc.top), atI_nat (j := 1) rfl, _, _, rfl, .inr (SqT.of (Ex.new nL _ _ hc.gts)), _, rfl, by omega, by rw [hgl]; omega,
      for_range (n := (((ga.map V.ref).length : Nat) : Int).toNat) (fun i σ H' => Ex H H' ∧ (∃ as : List Addr, H' L = some (.lst (as.map V.ref)) ∧ All2 (NatsAt H') as (pinsU d net i)) ∧ ∃ y3 y4 : Option V, σ = [some (.ref c), some (.str net), some (.ref L), y3, y4])
        ⟨Ex.new nL, ⟨[], upd_same, All2.nil⟩, _, _, rfl⟩ ?_ ?_⟩⟩
    · rintro g σ H1 hg ⟨E1, ⟨as, hL, hA⟩, y3, y4, rfl⟩
      rw [hgl] at hg
      have hg' : g < d.gates.length := by omega
      have e0 : (0 : Int) + (g : Int) = (g : Int) := Int.zero_add _
      rw [e0]
      have hc1 := hc.te (.of E1)
      have hga : g < ga.length := by rw [hc.gates.1]; exact hg'
      have hat := hc1.gates.2 g ga[g] d.gates[g] (List.getElem?_eq_getElem hga) (List.getElem?_eq_getElem hg')
      have hgr : (ga.map V.ref)[g]? = some (.ref ga[g]) := by rw [List.getElem?_map, List.getElem?_eq_getElem hga]; rfl
      have hd : d.gates[g]? = some d.gates[g] := List.getElem?_eq_getElem hg'
      have hpl := hp _ (List.getElem_mem hg')
      generalize d.gates[g] = gd at hat hd hpl
      obtain ⟨t, pt, rt', ra', h1, h2, h3, h4, h5⟩ := hat
      have hul := pinsU_len d net hp g
      refine ⟨_, rfl, _, _, _, _, rfl, rfl, SqT.of hc1.top, atI_nat (j := 1) rfl, _, rfl, _, _, _, _, rfl, rfl, SqT.of hc1.gts, atI_nat hgr, _, _, _, _, rfl, rfl, SqT.of h1, atI_nat (j := 2) rfl, _, _, rfl, .inr (SqT.of h3), _, rfl, by omega, by rw [List.length_map]; omega,
        for_range (n := (((gd.pins.map V.str).length : Nat) : Int).toNat) (fun j σ H' => Ex H H' ∧ TEx H1 H' ∧ (∃ as : List Addr, H' L = some (.lst (as.map V.ref)) ∧ All2 (NatsAt H') as (pinsU d net g ++ ((List.range j).filter fun j => gd.pins[j]? == some net).map fun j => (g, j))) ∧ ∃ y4 : Option V, σ = [some (.ref c), some (.str net), some (.ref L), some (.int (g : Int)), y4])
          ⟨E1, TEx.refl _, ⟨as, hL, by rw [List.range_zero, List.filter_nil, List.map_nil, List.append_nil]; exact hA⟩, _, rfl⟩ ?_ ?_⟩
      · rintro j σ H2 hj ⟨E2, T2, ⟨as2, hL2, hA2⟩, y4, rfl⟩
        rw [List.length_map] at hj
        have hj' : j < gd.pins.length := by omega
        have e1 : (0 : Int) + (j : Int) = (j : Int) := Int.zero_add _
        rw [e1]
        have hpv : (gd.pins.map V.str)[j]? = some (.str gd.pins[j]) := by rw [List.getElem?_map, List.getElem?_eq_getElem hj']; rfl
        have hpj : gd.pins[j]? = some gd.pins[j] := List.getElem?_eq_getElem hj'
        have ps := pinsF_succ gd.pins net g j
        have hal : as2.length ≤ g * 10 + 10 := by
          rw [hA2.1, List.length_append, List.length_map]
          have := List.length_filter_le (fun j => gd.pins[j]? == some net) (List.range j)
          rw [List.length_range] at this
          omega
        refine ⟨_, rfl, _, _, _, _, rfl, rfl, SqT.of (T2 _ _ hc1.top), atI_nat (j := 1) rfl, _, rfl, _, _, _, _, rfl, rfl, SqT.of (T2 _ _ hc1.gts), atI_nat hgr, _, _, _, _, rfl, rfl, SqT.of (T2 _ _ h1), atI_nat (j := 2) rfl, _, rfl, _, _, _, _, rfl, rfl, SqT.of (T2 _ _ h3), atI_nat hpv, _, rfl, rfl, _, rfl, ite2 (fun e => ?_) (fun e => ?_)⟩
        · have en : gd.pins[j] = net := by
            have := of_decide_eq_true e
            cases this; rfl
          have hb : (gd.pins[j]? == some net) = true := by rw [hpj, en]; exact beq_self_eq_true _
          refine ⟨_, rfl, .inl ⟨rfl, _, SqL.of hL2⟩, _, rfl, _, rfl, (by show 2 ≤ sizeLine; decide), fun t nt => ⟨L, _, _, rfl, rfl, Ex.new nt _ _ hL2, sz_lt (by rw [List.length_map]; omega), ?_, ?_, ⟨as2 ++ [t], by rw [upd_same, List.map_append]; rfl, ?_⟩, _, rfl⟩⟩
          · exact (E2.trans (Ex.new nt)).mut nL
          · exact (T2.trans (TEx.new nt)).trans (TEx.mut (Ex.new nt _ _ hL2))
          · rw [ps, hb, if_pos rfl, ← List.append_assoc]
            have tm : TEx H2 (upd (upd H2 t (.tup [.int (g : Int), .int (j : Int)])) L (.lst (as2.map V.ref ++ [.ref t]))) := (TEx.new nt).trans (TEx.mut (Ex.new nt _ _ hL2))
            refine All2.snoc (hA2.imp fun _ _ z => tm _ _ z) ?_
            have tL : t ≠ L := fun z => by rw [z, hL2] at nt; cases nt
            show _ = _
            rw [upd_ne tL, upd_same]
        · have hb : (gd.pins[j]? == some net) = false := by
            rw [hpj]
            exact beq_eq_false_iff_ne.mpr fun z => e (decide_eq_true (congrArg V.str (Option.some.inj z)))
          refine ⟨E2, T2, ⟨as2, hL2, ?_⟩, _, rfl⟩
          rw [ps, hb, if_neg (by decide), List.append_nil]
          exact hA2
      · rintro σ H2 ⟨E2, T2, ⟨as2, hL2, hA2⟩, y4, rfl⟩
        rw [List.length_map, Int.toNat_natCast] at hA2
        refine ⟨E2, ⟨as2, hL2, ?_⟩, _, _, rfl⟩
        rw [pinsU_succ d net g hd]
        exact hA2
    · rintro σ H1 ⟨E1, ⟨as, hL, hA⟩, y3, y4, rfl⟩
      rw [hgl, Int.toNat_natCast] at hA
      exact ⟨_, rfl, q L as H1 E1 nL hL hA⟩
end
end G
namespace G
open PySem PySem.Spec PyProof.Rows L2 Evl TL
section
variable {P : Program} {w : World} {K : PySem.W.Frag} {mg : Str → Option Value} {base : Heap}
theorem FnOk.or2 {CX : CXT} {k : Nat} {f : Addr} {fd : FuncData} {ps : List Str} {s1 s2 : Sp} (F1 : FnOk P w K mg base CX k f fd ps s1) (F2 : FnOk P w K mg base CX k f fd ps s2) : FnOk P w K mg base CX k f fd ps (fun vs H Q E => s1 vs H Q E ∨ s2 vs H Q E) :=
  ⟨fun vs H Q E h => h.elim (F1.len vs H Q E) (F2.len vs H Q E), fun A outer s H args us vs Q E hr he hb hv h => h.elim (F1.run A outer s H args us vs Q E hr he hb hv) (F2.run A outer s H args us vs Q E hr he hb hv)⟩
/-- a node that is not there -/
def spNoNode (C B : Addr) : Sp := fun vs H Q E => ∃ (x p r c : Addr) (segs : List SegD) (n : Int) (u : Int), vs = [.ref x, .int n, .int u] ∧ TreeAt C H x p r c segs ∧ ¬ (0 ≤ n ∧ n ≤ segs.length) ∧ ∀ H', Ex H H' → E (.ref B) none H'

theorem ok_no_node {C B WC f0 f1 : Addr} {d0 d1 : FuncData} {f : Addr} {fd : FuncData} (F : Fun K "delay_range" "WireTree.delay_range" s_WireTree_delay_range f fd) (W : Cl_WireTree K mg C) (UB : ExcT K mg "BadArgument" B)
    (M_WireTree_check_node : Meth K C "_check_node" f0) (G_WireTree_check_node : FnOk P w K mg base (L2.CX P w) 1 f0 d0 ["self", "node"] (spCheck C B)) (b_WireTree_check_node : Binds K d0 ["self", "node"] [])
    (M_WireTree_delay : Meth K C "delay" f1) (G_WireTree_delay : FnOk P w K mg base (L2.CX P w) 3 f1 d1 ["self", "node", "resistances", "capacitances"] (spDelay C B WC)) (b_WireTree_delay : Binds K d1 ["self", "node", "resistances", "capacitances"] []) : FnOk P w K mg base (L2.CX P w) 4 f fd ["self", "node", "unit"] (spNoNode C B) := by
  have c_WireTree := W.cl
  refine F.okX sc_WireTree_delay_range (fun vs H Q E h => ?_) (fun cdv A outer s H vs Q E hr h => ?_)
  · obtain ⟨x, p, r, c, segs, n, u, rfl, _⟩ := h
    rfl
  · obtain ⟨x, p, r, c, segs, n, u, rfl, hT, hn, q⟩ := h
    obtain ⟨⟨dx, h1⟩, h2, ⟨rl, hrl, hra⟩, ⟨cl, hcl, hca⟩⟩ := id hT
    have no : ∀ m : Str, ¬ m = "_capacitances" → ¬ m = "_resistances" → ¬ m = "_parents" → (tfl p r c).lookup m = none := fun m a b d => tfl_no _ _ _ a b d
    refine ⟨_, (pss_cons (ps_expr (pe_meth (pv 0) c_WireTree M_WireTree_check_node G_WireTree_check_node (hr.mono (by omega)) b_WireTree_check_node .nil (passes_call (takes_of rfl rfl rfl rfl) fun _ _ _ _ h => h) (pa_cons (pv 1) pa_nil)))
    (pss_cons (ps_if (pt_cmpR op_lt (pv 2) pe_int (nomark _))
      (pss_one (ps_raise rfl (takes_of rfl rfl rfl rfl) (pmk_ownA PySem.F.excBase_ValueError UB.xP UB.gC UB.kC (raises_own UB.bC UB.tC) rfl (pa_cons pe_str pa_nil))))
      pss_nil)
    (pss_cons (ps_asg (pe_lc (own := [("end", 5)]) (g := gName 5) (tt := tYes) rfl sc_WireTree_delay_range.nd (pi_tup (pe_tup (pa_cons pe_int (pa_cons pe_int pa_nil)))) (blkOk_by (N := ["self", "node", "unit", "low", "high", "end", "pair"]) (sc := defScope s_WireTree_delay_range) (own := [("end", 5)]) (by decide +kernel)) (fun _ _ _ _ _ => (pg_name (i := 5) sc_WireTree_delay_range.nd rfl (.inr rfl))) (fun _ _ _ _ _ => pts_nil) (fun _ _ _ _ _ => (pe_meth (pv 0) c_WireTree M_WireTree_delay G_WireTree_delay (hr.mono (by omega)) b_WireTree_delay .nil passX0 (pa_cons (pv 1) (pa_cons (pe_lc (own := [("pair", 6)]) (g := gName 6) (tt := tYes) rfl sc_WireTree_delay_range.nd (kPiL (K := K) rfl (kFld (K := K) rfl (pv 0) rfl)) (blkOk_by (own := [("pair", 6)]) (by kernel_rfl)) (fun _ _ _ _ _ => (pg_name (i := 6) sc_WireTree_delay_range.nd rfl (.inl rfl))) (fun _ _ _ _ _ => pts_nil) (fun _ _ _ _ _ => (pe_ix (kIxT (K := K) rfl) (pv 6) (pv 5) (fun _ _ => rfl)))) (pa_cons (pe_lc (own := [("pair", 6)]) (g := gName 6) (tt := tYes) rfl sc_WireTree_delay_range.nd (kPiL (K := K) rfl (kFld (K := K) rfl (pv 0) rfl)) (blkOk_by (own := [("pair", 6)]) (by kernel_rfl)) (fun _ _ _ _ _ => (pg_name (i := 6) sc_WireTree_delay_range.nd rfl (.inl rfl))) (fun _ _ _ _ _ => pts_nil) (fun _ _ _ _ _ => (pe_ix (kIxT (K := K) rfl) (pv 6) (pv 5) (fun _ _ => rfl)))) pa_nil)))))) (pg_unl rfl (pgs_cons (pg_name (i := 3) sc_WireTree_delay_range.nd rfl (.inl rfl)) (pgs_cons (pg_name (i := 4) sc_WireTree_delay_range.nd rfl (.inl rfl)) pgs_nil))))
    (pss_one (ps_ret (pe_tup (pa_cons (pe_op op_fdivW (pv 3) (pv 2)) (pa_cons (pe_un un_neg (pe_op op_fdivW (pe_un un_neg (pv 4)) (pv 2))) pa_nil)))))))), ?_⟩
    exact ⟨_, rfl, x, dx, _, rfl, h1, no "_check_node" (by decide +kernel) (by decide +kernel) (by decide +kernel), _, rfl, x, p, r, c, segs, n, rfl, hT, (fun z => absurd z hn), fun _ => q⟩
end
end G
namespace G
open PySem PySem.Spec PyProof.Rows L2 Evl TL
theorem ps_lockF {X : Cx} {tg iter : Expr} {body : List Stmt} {wi : TI} {g : TG} {tb : TS} {pos : Pos} (hp : PassesOwn (model X.prog X.w) X.A X.env X.xe) (hc : X.calm = true) (hi : PI X tg iter wi) (hg : PG X tg g) (hb : PSs X body tb)
    (hs : ∀ x, foldedSetIterable iter X.env x = pure x := by intro _; rfl) : PS X (.For tg iter body [] pos) (tLock (tFor wi g tb)) := ps_lock (ps_for hp hc hi hg hb hs)
/-! ## wires as data -/
abbrev TapD := (Int × Int) × Int
structure WireD where
  net : Str
  segs : List SegD
  taps : List TapD
def tapK (t : TapD) : List L2.Key × V := ([.inl t.1.1, .inl t.1.2], .int t.2)
def WireAt (C : Addr) (H : Hp) (a : Addr) (wd : WireD) : Prop := ∃ (x p r c t : Addr), H a = some (.tup [.ref x, .ref t]) ∧ TreeAt C H x p r c wd.segs ∧ H t = some (.dT (wd.taps.map tapK))
def WiresAt (C : Addr) (H : Hp) (w : Addr) (rows : List WireD) : Prop := ∃ kvs : List (L2.Key × V), H w = some (.dK kvs) ∧ All2 (fun kv r => ∃ a, kv = (.inr r.net, .ref a) ∧ WireAt C H a r) kvs rows
structure WireOk (r : WireD) : Prop where
  par : ParOk r.segs
  few : r.segs.length ≤ 100
  bd : ∀ s ∈ r.segs, ∀ j, -(2 ^ 64) < pe_ s.res j ∧ pe_ s.res j < 2 ^ 64
  taps : r.taps.length ≤ 100
  net : r.net.length ≤ 1000
abbrev DelM := Int × Int → Option (Int × Int)
def putM (m : DelM) (k : Int × Int) (p : Int × Int) : DelM := fun j => if j = k then some p else m j
def rngV (u : Int) (segs : List SegD) (n : Int) : Int × Int := (endV segs n.toNat 0 / u, -((-endV segs n.toNat 1) / u))
def tapM (u : Int) (segs : List SegD) (m : DelM) (ts : List TapD) : DelM := ts.foldl (fun m t => putM m t.1 (rngV u segs t.2)) m
def delM (u : Int) (rows : List WireD) : DelM := rows.foldl (fun m r => tapM u r.segs m r.taps) fun _ => none
def okT (d : CircD) (r : WireD) (t : TapD) : Prop := okTap d r.net t.1.1 t.1.2 ∧ 0 ≤ t.2 ∧ t.2 ≤ r.segs.length
def GoodW (d : CircD) (rows : List WireD) : Prop := ∀ r ∈ rows, ∀ t ∈ r.taps, okT d r t
def DelAt (H : Hp) (dd : Addr) (m : DelM) (n : Nat) : Prop := ∃ kvs : List (List L2.Key × V), H dd = some (.dT kvs) ∧ kvs.length ≤ n ∧ ∀ g pin, match m (g, pin) with
  | none => valV kvs [.inl g, .inl pin] = none
  | some p => ∃ a, valV kvs [.inl g, .inl pin] = some (.ref a) ∧ IntsAt H a p
def loadG (m : DelM) (g : Nat) (gd : GateD) : List (Int × Int) := (List.range gd.rng.length).map fun (pin : Nat) => addP (gd.rng.getD pin (0, 0)) ((m ((g : Int), (pin : Int))).getD (0, 0))
def loadR (m : DelM) (gs : List GateD) : List (List (Int × Int)) := (List.range gs.length).map fun (g : Nat) => loadG m g (gs.getD g ⟨"", [], [], []⟩)
def loadedD (d : CircD) (m : DelM) : CircD := { d with gates := withD d.gates (loadR m d.gates) }
theorem DelAt.move {H H' : Hp} {dd : Addr} {m : DelM} {n n' : Nat} (h : DelAt H dd m n) (te : TEx H H') (hd : ∀ kvs, H dd = some (.dT kvs) → H' dd = some (.dT kvs)) (hn : n ≤ n') : DelAt H' dd m n' := by
  obtain ⟨kvs, h1, h2, h3⟩ := h
  refine ⟨kvs, hd _ h1, Nat.le_trans h2 hn, fun g pin => ?_⟩
  have := h3 g pin
  cases hm : m (g, pin) with
  | none => rw [hm] at this; exact this
  | some p =>
    rw [hm] at this
    obtain ⟨a, h4, h5⟩ := this
    exact ⟨a, h4, te _ _ h5⟩
theorem del_put {H H' : Hp} {dd act : Addr} {m : DelM} {kvs : List (List L2.Key × V)} {g pin : Int} {p : Int × Int} {n : Nat} (hl : kvs.length ≤ n) (hm : ∀ g pin, match m (g, pin) with
  | none => valV kvs [.inl g, .inl pin] = none
  | some p => ∃ a, valV kvs [.inl g, .inl pin] = some (.ref a) ∧ IntsAt H a p) (te : TEx H H') (hd : H' dd = some (.dT (putK kvs [.inl g, .inl pin] (.ref act)))) (ha : IntsAt H' act p) : DelAt H' dd (putM m (g, pin) p) (n + 1) := by
  refine ⟨_, hd, Nat.le_trans (length_putK _ _ _) (Nat.succ_le_succ hl), fun g' pin' => ?_⟩
  by_cases e : (g', pin') = (g, pin)
  · have e2 : putM m (g, pin) p (g', pin') = some p := if_pos e
    rw [e2]
    cases e
    exact ⟨act, by rw [valV_put, if_pos rfl], ha⟩
  · have e2 : putM m (g, pin) p (g', pin') = m (g', pin') := if_neg e
    have ne : ¬ ([.inl g', .inl pin'] : List L2.Key) = [.inl g, .inl pin] := fun z => by
      injection z with z1 z2
      injection z2 with z3 _
      injection z1 with z1
      injection z3 with z3
      exact e (by rw [z1, z3])
    rw [e2, valV_put, if_neg ne]
    have := hm g' pin'
    cases hq : m (g', pin') with
    | none => rw [hq] at this; exact this
    | some p =>
      rw [hq] at this
      obtain ⟨a, h4, h5⟩ := this
      exact ⟨a, h4, te _ _ h5⟩
theorem hidEx {H H' : Hp} {L : Addr} (e : Ex H H') : Ex (hid L H) (hid L H') := fun b o h => by
  by_cases z : b = L
  · rw [z, hid_self] at h; cases h
  · rw [hid_ne z] at h ⊢; exact e b o h
theorem hid_le {H : Hp} {L : Addr} : Ex (hid L H) H := fun b o h => by
  by_cases z : b = L
  · rw [z, hid_self] at h; cases h
  · rw [hid_ne z] at h; exact h
theorem RowAt.ex30 {H H' : Hp} {a : Addr} {r : List (Int × Int)} (e : Ex H H') (h : RowAt H a r) : RowAt H' a r := by
  obtain ⟨pl, h1, h2⟩ := h
  exact ⟨pl, h1.imp (e _ _) (e _ _), h2.imp fun _ _ z => e _ _ z⟩
theorem hid_put {H : Hp} {L : Addr} {o : HO} : hid L (upd H L o) = hid L H := by
  funext b
  by_cases z : b = L
  · rw [z, hid_self, hid_self]
  · rw [hid_ne z, hid_ne z, upd_ne z]
theorem loadG_at {m : DelM} {k j : Nat} {g : GateD} {pr : Int × Int} (h : g.rng[j]? = some pr) : (loadG m k g)[j]? = some (addP pr ((m ((k : Int), (j : Int))).getD (0, 0))) := by
  unfold loadG
  have hj := (List.getElem?_eq_some_iff.mp h).1
  rw [List.getElem?_map, List.getElem?_range hj]
  show some (addP (g.rng.getD j (0, 0)) _) = _
  rw [List.getD_eq_getElem?_getD, h]; rfl
theorem loadG_len {m : DelM} {k : Nat} {g : GateD} : (loadG m k g).length = g.rng.length := by unfold loadG; rw [List.length_map, List.length_range]
theorem loadR_at {m : DelM} {k : Nat} {gs : List GateD} {g : GateD} (h : gs[k]? = some g) : (loadR m gs)[k]? = some (loadG m k g) := by
  unfold loadR
  have hj := (List.getElem?_eq_some_iff.mp h).1
  rw [List.getElem?_map, List.getElem?_range hj]
  show some (loadG m k (gs.getD k _)) = _
  rw [List.getD_eq_getElem?_getD, h]; rfl
theorem loadR_len {m : DelM} {gs : List GateD} : (loadR m gs).length = gs.length := by unfold loadR; rw [List.length_map, List.length_range]
/-- all but dicts is kept -/
def KD (H H' : Hp) : Prop := ∀ b o, H b = some o → (∀ kvs, o ≠ .dK kvs) → (∀ kvs, o ≠ .dT kvs) → H' b = some o
theorem KD.te {H H' : Hp} (e : KD H H') : TEx H H' := fun b xs h => e b _ h (fun _ z => nomatch z) (fun _ z => nomatch z)
theorem TreeAt.kd {C : Addr} {H H' : Hp} {x p r c : Addr} {segs : List SegD} (e : KD H H') (h : TreeAt C H x p r c segs) : TreeAt C H' x p r c segs := by
  obtain ⟨⟨dx, h1⟩, h2, ⟨rl, h3, h4⟩, ⟨cl, h5, h6⟩⟩ := h
  have k : ∀ {b o}, H b = some o → (∀ kvs, o ≠ .dK kvs) → (∀ kvs, o ≠ .dT kvs) → H' b = some o := fun {b o} h i j => e b o h i j
  exact ⟨⟨dx, k h1 (fun _ z => nomatch z) (fun _ z => nomatch z)⟩, k h2 (fun _ z => nomatch z) (fun _ z => nomatch z), ⟨rl, k h3 (fun _ z => nomatch z) (fun _ z => nomatch z), h4.imp fun _ _ z => k z (fun _ z => nomatch z) (fun _ z => nomatch z)⟩, ⟨cl, k h5 (fun _ z => nomatch z) (fun _ z => nomatch z), h6.imp fun _ _ z => k z (fun _ z => nomatch z) (fun _ z => nomatch z)⟩⟩
/-- all is kept but w -/
def But1 (w : Addr) (H H' : Hp) : Prop := ∀ b o, H b = some o → b ≠ w → H' b = some o
def But2 (w t : Addr) (H H' : Hp) : Prop := ∀ b o, H b = some o → b ≠ w → b ≠ t → H' b = some o
theorem But1.kd {w : Addr} {H H' : Hp} {kvs : List (L2.Key × V)} (e : But1 w H H') (h : H w = some (.dK kvs)) : KD H H' := fun b o hb n1 _ => e b o hb fun z => by
  rw [z, h] at hb; cases hb; exact n1 _ rfl
theorem But2.kd {w t : Addr} {H H' : Hp} {kvs : List (L2.Key × V)} {kvt : List (List L2.Key × V)} (e : But2 w t H H') (h : H w = some (.dK kvs)) (ht : H t = some (.dT kvt)) : KD H H' := fun b o hb n1 n2 => e b o hb (fun z => by
  rw [z, h] at hb; cases hb; exact n1 _ rfl) fun z => by
  rw [z, ht] at hb; cases hb; exact n2 _ rfl
section
variable {P : Program} {w : World} {K : PySem.W.Frag} {mg : Str → Option Value} {base : Heap}
def spLoad (C U B : Addr) : Sp := fun vs H Q E => ∃ (c wa : Addr) (u : Int) (d : CircD) (rows : List WireD) (it gt rt ot : Addr) (ga ra oa : List Addr), vs = [.ref c, .ref wa, .int u] ∧ CircAt H c d it gt rt ot ga ra oa ∧ WiresAt C H wa rows ∧ rows.length ≤ 100 ∧ (∀ r ∈ rows, WireOk r) ∧ (namesD d).length ≤ 1000 ∧ d.gates.length ≤ 1000 ∧ (∀ g ∈ d.gates, g.rng.length ≤ 1000) ∧ u ≤ 2 ^ 62 ∧
  ((∃ r ∈ rows, r.net ∉ namesD d) → ∀ H', ExF H H' → E (.ref U) none H') ∧
  ((∀ r ∈ rows, r.net ∈ namesD d) → u < 1 ∨ ¬ GoodW d rows → ∀ H', ExF H H' → E (.ref B) none H') ∧
  ((∀ r ∈ rows, r.net ∈ namesD d) → 1 ≤ u → GoodW d rows → ∀ (c' : Addr) (it gt rt ot : Addr) (ga ra oa : List Addr) (H' : Hp), Ex H H' → CircAt H' c' (loadedD d (delM u rows)) it gt rt ot ga ra oa → Q (.ref c') H')
theorem sc_loaded : FnScope ["circuit", "wires", "unit", "delays", "net", "tree", "taps", "g", "pin", "node", "rows", "gate", "pair"] ["circuit", "wires", "unit"] (defScope s_loaded) := ⟨rfl, rfl, rfl, by decide +kernel, rfl, by decide +kernel, by decide +kernel⟩
theorem fn_loaded {C U B f1 : Addr} {d1 : FuncData} {f : Addr} {fd : FuncData} (F : Fun K "loaded" "loaded" s_loaded f fd) (T : TxtLd mg) (UB : ExcT K mg "BadArgument" B) (c_WireTree : Cls K C)
    (C1 : HasX P w K mg base 2 "check_nets" ["circuit", "names"] (spCheckN U)) (C2 : HasX P w K mg base 1 "_check_connected" ["circuit", "net", "g", "pin"] (spConn B)) (C3 : Has P w K mg base 1 "_added" ["pair", "delay"] spAdded) (C4 : Has P w K mg base 1 "with_ranges" ["circuit", "rows"] spWith)
    (M_WireTree_delay_range : Meth K C "delay_range" f1) (G_WireTree_delay_range : FnOk P w K mg base (L2.CX P w) 4 f1 d1 ["self", "node", "unit"] (fun vs H Q E => spRange C B vs H Q E ∨ spNoNode C B vs H Q E)) (kb_WireTree_delay_range : KBn K d1 ["self", "node", "unit"] 2 ["unit"] (fun us ws => us ++ ws) (fun vs zs => vs ++ zs)) :
    FnOk P w K mg base (L2.CX P w) 6 f fd ["circuit", "wires", "unit"] (spLoad C U B) := by
  obtain ⟨f_check_nets, d_check_nets, G_check_nets, g_check_nets, k_check_nets, b_check_nets⟩ := C1
  obtain ⟨f_check_connected, d_check_connected, G_check_connected, g_check_connected, k_check_connected, b_check_connected⟩ := C2
  obtain ⟨f_added, d_added, G_added, g_added, k_added, b_added⟩ := C3
  obtain ⟨f_with_ranges, d_with_ranges, G_with_ranges, g_with_ranges, k_with_ranges, b_with_ranges⟩ := C4
  refine F.okX sc_loaded (fun vs H Q E h => ?_) (fun cdv A outer s H vs Q E hr h => ?_)
  · obtain ⟨c, wa, u, d, rows, it, gt, rt, ot, ga, ra, oa, rfl, _⟩ := h
    rfl
  · obtain ⟨c, wa, u, d, rows, it, gt, rt, ot, ga, ra, oa, rfl, hc, hw, hrl, hro, hnl, hgl, hgr, hu, q1, q2, q3⟩ := h
    refine ⟨_, (pss_cons (ps_expr (pe_call G_check_nets (hr.mono (by omega)) (by rfl) g_check_nets k_check_nets b_check_nets .nil (passes_call (takes_of rfl rfl rfl rfl) fun _ _ _ _ h => h) (pa_cons (pv 0) (pa_cons (pe_callTy (call_listD rfl) (by rfl) T.list (by decide +kernel) (pa_cons (pv 1) pa_nil)) pa_nil))))
    (pss_cons (ps_if (pt_cmpR op_lt (pv 2) pe_int (nomark _))
      (pss_one (ps_raise rfl (takes_of rfl rfl rfl rfl) (pmk_ownA PySem.F.excBase_ValueError UB.xP UB.gC UB.kC (raises_own UB.bC UB.tC) rfl (pa_cons pe_str pa_nil))))
      pss_nil)
    (pss_cons (ps_set (i := 3) sc_loaded.nd rfl (.inr rfl) pe_dnewT)
    (pss_cons (ps_lockF (passes_of rfl) rfl (pi_items (pv 1)) (pg_tup rfl (pgs_cons (pg_name (i := 4) sc_loaded.nd rfl (.inl rfl)) (pgs_cons (pg_tup rfl (pgs_cons (pg_name (i := 5) sc_loaded.nd rfl (.inl rfl)) (pgs_cons (pg_name (i := 6) sc_loaded.nd rfl (.inl rfl)) pgs_nil))) pgs_nil)))
      (pss_one (ps_lockF (passes_of rfl) rfl (pi_itemsT (pv 6)) (pg_tup rfl (pgs_cons (pg_tup rfl (pgs_cons (pg_name (i := 7) sc_loaded.nd rfl (.inl rfl)) (pgs_cons (pg_name (i := 8) sc_loaded.nd rfl (.inl rfl)) pgs_nil))) (pgs_cons (pg_name (i := 9) sc_loaded.nd rfl (.inl rfl)) pgs_nil)))
        (pss_cons (ps_expr (pe_call G_check_connected (hr.mono (by omega)) (by rfl) g_check_connected k_check_connected b_check_connected .nil (passes_call (takes_of rfl rfl rfl rfl) fun _ _ _ _ h => h) (pa_cons (pv 0) (pa_cons (pv 4) (pa_cons (pv 7) (pa_cons (pv 8) pa_nil))))))
        (pss_one (ps_asg (pe_methK (pv 5) c_WireTree M_WireTree_delay_range G_WireTree_delay_range (hr.mono (by omega)) kb_WireTree_delay_range (fun σ => passAt (takes_of rfl rfl rfl rfl) σ) (pa_cons (pv 9) pa_nil) (pk_cons (pv 2) pk_nil)) (pg_sub (pv 3) (pe_tup (pa_cons (pv 7) (pa_cons (pv 8) pa_nil))) (set_dict (hu_of hr)))))))))
    (pss_cons (ps_setLc (i := 10) (own := [("g", 7), ("gate", 11)]) (g := gTup K 2 (gCons (gName 7) (gCons (gName 11) gNil))) (tt := tYes) rfl sc_loaded.nd rfl rfl (sw_true rfl rfl rfl (by decide +kernel)) (pi_enumT (by rfl) T.enumerate (pa_cons (pe_ix ix_tup (pv 0) pe_int (fun _ _ => rfl)) pa_nil)) (blkOk_by (N := ["circuit", "wires", "unit", "delays", "net", "tree", "taps", "g", "pin", "node", "rows", "gate", "pair"]) (sc := defScope s_loaded) (own := [("g", 7), ("gate", 11)]) (by decide +kernel)) (fun _ _ _ _ _ => (pg_tup rfl (pgs_cons (pg_name (i := 7) sc_loaded.nd rfl (.inr rfl)) (pgs_cons (pg_name (i := 11) sc_loaded.nd rfl (.inl rfl)) pgs_nil)))) (fun _ _ _ _ _ => pts_nil) (fun _ _ _ _ _ => (pe_lc (own := [("pin", 8), ("pair", 12)]) (g := gTup K 2 (gCons (gName 8) (gCons (gName 12) gNil))) (tt := tYes) rfl sc_loaded.nd (kPiEnumT (K := K) rfl (by rfl) T.enumerate (pa_cons (pe_ix (kIxT (K := K) rfl) (pv 11) pe_int (fun _ _ => rfl)) pa_nil)) (blkOk_by (own := [("pin", 8), ("pair", 12)]) (by kernel_rfl)) (fun _ _ _ _ _ => (pg_tup rfl (pgs_cons (pg_name (i := 8) sc_loaded.nd rfl (.inl rfl)) (pgs_cons (pg_name (i := 12) sc_loaded.nd rfl (.inl rfl)) pgs_nil)))) (fun _ _ _ _ _ => pts_nil) (fun _ _ _ _ _ => (pe_call G_added (hr.mono (by omega)) (by rfl) g_added k_added b_added .nil pass0 (pa_cons (pv 12) (pa_cons (pe_dget2 (hu_of hr) (pv 3) (pe_tup (pa_cons (pv 7) (pa_cons (pv 8) pa_nil))) (pe_tup (pa_cons pe_int (pa_cons pe_int pa_nil))) ⟨rfl, rfl, rfl, rfl⟩) pa_nil)))))))
    (pss_one (ps_ret (pe_call G_with_ranges (hr.mono (by omega)) (by rfl) g_with_ranges k_with_ranges b_with_ranges .nil pass0 (pa_cons (pv 0) (pa_cons (pv 10) pa_nil)))))))))), ?_⟩
    obtain ⟨kvs, hwk, hA⟩ := id hw
    have hkl : kvs.length = rows.length := hA.1
    have hkn : (kvs.map fun kv => kV kv.1) = (rows.map (·.net)).map V.str := by
      refine List.ext_getElem? fun i => ?_
      rw [List.getElem?_map, List.getElem?_map, List.getElem?_map]
      cases h1 : kvs[i]? with
      | none =>
        rw [List.getElem?_eq_none_iff] at h1
        rw [List.getElem?_eq_none (by omega)]; rfl
      | some kv =>
        obtain ⟨r, h2, a, h3, _⟩ := hA.at_ h1
        rw [h2, h3]; rfl
    have exf : ∀ {H1 : Hp}, Ex H H1 → ExF H H1 := fun e b o h => .inl (e b o h)
    refine ⟨_, rfl, _, rfl, wa, kvs, rfl, .inl hwk, fun p np => ?_⟩
    have E0 := Ex.new (o := .lst (kvs.map fun kv => kV kv.1)) np
    refine ⟨c, p, d, rows.map (·.net), it, gt, rt, ot, ga, ra, oa, rfl, hc.te (.of E0), hnl, by rw [upd_same, hkn], fun x hx => ?_, fun hall HA EA => ?_, fun hbad HA EA => ?_⟩
    · obtain ⟨r, hr, rfl⟩ := List.mem_map.mp hx
      exact (hro r hr).net
    case refine_2.refine_3 =>
      obtain ⟨x, hx, hn⟩ := hbad
      obtain ⟨r, hr, rfl⟩ := List.mem_map.mp hx
      exact q1 ⟨r, hr, hn⟩ HA (exf (E0.trans EA))
    have hnames : ∀ r ∈ rows, r.net ∈ namesD d := fun r hr => hall _ (List.mem_map.mpr ⟨r, hr, rfl⟩)
    have E1 := E0.trans EA
    refine ⟨_, rfl, _, _, rfl, rfl, _, rfl, ite2 (fun e => ⟨(by show 1 ≤ sizeLine; decide), q2 hnames (.inl (of_decide_eq_true e)) HA (exf E1)⟩) (fun e => ?_)⟩
    have hu1 : 1 ≤ u := by
      have : ¬ u < 1 := fun z => e (decide_eq_true z)
      omega
    have hcA := hc.te (.of E1)
    have hwA : HA wa = some (.dK kvs) := E1 _ _ hwk
    intro dd ndd
    have hdw : dd ≠ wa := fun z => by rw [z, hwA] at ndd; cases ndd
    refine ⟨wa, .dK kvs, Ex.new ndd _ _ hwA, trivial, fun od => ⟨_, rfl, wa, od, kvs, rfl, upd_same, for_it walk_items
      (fun i σ H' => But1 wa HA H' ∧ H' wa = some (.frz od (.dK kvs)) ∧ DelAt H' dd (delM u (rows.take i)) (100 * i) ∧ (∀ r ∈ rows.take i, ∀ t ∈ r.taps, okT d r t) ∧
        ∃ y4 y5 y6 y7 y8 y9 : Option V, σ = [some (.ref c), some (.ref wa), some (.int u), some (.ref dd), y4, y5, y6, y7, y8, y9, none, none, none]) ⟨?_, upd_same, ?_, ?_, _, _, _, _, _, _, rfl⟩ (fun i σ H' _ g => g.2.1) ?_ ?_⟩⟩
    · exact fun b o hb n => by rw [upd_ne n]; exact Ex.new ndd _ _ hb
    · refine ⟨[], by rw [upd_ne hdw, upd_same], Nat.zero_le _, fun g pin => ?_⟩
      rw [List.take_zero]
      rfl
    · rw [List.take_zero]; exact fun _ h => nomatch h
    · rintro i x σ H1 H2 hi ⟨B1, hw1, hD, hgood, y4, y5, y6, y7, y8, y9, rfl⟩ ⟨T, kk, vv, rfl, nT, rfl, hk1, hk2⟩
      have hir : i < rows.length := by omega
      obtain ⟨kv, hkv⟩ : ∃ kv, kvs[i]? = some kv := ⟨kvs[i], List.getElem?_eq_getElem hi⟩
      obtain ⟨r, hr, a, rfl, x, pp, rr, cc, t, ha, hT, ht⟩ := hA.at_ hkv
      dsimp only at hk1 hk2
      rw [hkv] at hk1 hk2
      cases hk1
      cases hk2
      have hrm : r ∈ rows := List.mem_of_getElem? hr
      have ok := hro r hrm
      have htA : HA t = some (.dT (r.taps.map tapK)) := E1 _ _ ht
      have htw : t ≠ wa := fun z => by rw [z, hwA] at htA; cases htA
      have haA : HA a = some (.tup [.ref x, .ref t]) := E1 _ _ ha
      have haw : a ≠ wa := fun z => by rw [z, hwA] at haA; cases haA
      have EN := Ex.new (o := .tup [kV (.inr r.net), .ref a]) nT
      refine ⟨T, _, rfl, SqT.of upd_same, rfl, _, _, rfl, _, _, rfl, a, _, rfl, SqT.of (EN _ _ (B1 _ _ haA haw)), rfl, _, _, rfl, _, _, rfl, rfl, rfl, ?_⟩
      have hTA : TreeAt C HA x pp rr cc r.segs := hT.ex E1
      have hw2 := EN _ _ hw1
      have ht2 := EN _ _ (B1 _ _ htA htw)
      have hB2 : But1 wa HA (upd H1 T (.tup [kV (.inr r.net), .ref a])) := fun b o hb n => EN _ _ (B1 _ _ hb n)
      have hD2 := hD.move (.of EN) (fun _ z => EN _ _ z) (Nat.le_refl _)
      generalize upd H1 T (.tup [kV (.inr r.net), .ref a]) = H2 at *
      have hdt : dd ≠ t := fun z => by rw [z, htA] at ndd; cases ndd
      refine ⟨t, .dT (r.taps.map tapK), ht2, trivial, fun od2 => ⟨_, rfl, t, od2, r.taps.map tapK, rfl, upd_same, for_it walk_itemsT
        (fun j σ H' => But2 wa t HA H' ∧ H' wa = some (.frz od (.dK kvs)) ∧ H' t = some (.frz od2 (.dT (r.taps.map tapK))) ∧ DelAt H' dd (tapM u r.segs (delM u (rows.take i)) (r.taps.take j)) (100 * i + j) ∧ (∀ t ∈ r.taps.take j, okT d r t) ∧
          ∃ y7 y8 y9 : Option V, σ = [some (.ref c), some (.ref wa), some (.int u), some (.ref dd), some (.str r.net), some (.ref x), some (.ref t), y7, y8, y9, none, none, none]) ⟨?_, ?_, upd_same, ?_, ?_, _, _, _, rfl⟩ (fun j σ H' _ g => g.2.2.1) ?_ ?_⟩⟩
      · exact fun b o hb n1 n2 => by rw [upd_ne n2]; exact hB2 b o hb n1
      · rw [upd_ne (fun z => htw z.symm)]; exact hw2
      · rw [List.take_zero]
        refine hD2.move (fun b xs hb => ?_) (fun _ z => by rw [upd_ne hdt]; exact z) (by omega)
        rw [upd_ne (fun z => by rw [z, ht2] at hb; cases hb)]; exact hb
      · rw [List.take_zero]; exact fun _ h => nomatch h
      · rintro j tv σ H3 H4 hj ⟨B3, hw3, ht3, hD3, hg3, y7, y8, y9, rfl⟩ ⟨T2, k, v, qa, hkv2, rfl, nT2, hq, rfl⟩
        rw [List.length_map] at hj
        have htj : r.taps[j]? = some r.taps[j] := List.getElem?_eq_getElem hj
        have htm : r.taps[j] ∈ r.taps := List.getElem_mem hj
        generalize r.taps[j] = tp at htj htm
        rw [List.getElem?_map, htj] at hkv2
        cases hkv2
        have EN2 := Ex.new (o := .tup [.ref qa, .int tp.2]) nT2
        have hK3 : KD HA H3 := B3.kd hwA htA
        have hcn := (hcA.te hK3.te).te (.of EN2)
        have hTn := (TreeAt.kd hK3 hTA).ex EN2
        refine ⟨T2, _, rfl, SqT.of upd_same, rfl, _, _, rfl, qa, _, rfl, SqT.of (EN2 _ _ hq), rfl, _, _, rfl, _, _, rfl, rfl, _, _, rfl, rfl, ?_⟩
        have exF : ∀ {H5 : Hp}, Ex (upd H3 T2 (.tup [.ref qa, .int tp.2])) H5 → ExF H H5 := fun {H5} e b o hb => by
          by_cases n1 : b = wa
          · rw [n1, hwk] at hb
            cases hb
            exact .inr ⟨trivial, od, by rw [n1]; exact e _ _ (EN2 _ _ hw3)⟩
          · by_cases n2 : b = t
            · rw [n2, ht] at hb
              cases hb
              exact .inr ⟨trivial, od2, by rw [n2]; exact e _ _ (EN2 _ _ ht3)⟩
            · exact .inl (e _ _ (EN2 _ _ (B3 _ _ (E1 _ _ hb) n1 n2)))
        have bad : ¬ okT d r tp → u < 1 ∨ ¬ GoodW d rows := fun z => .inr fun g => z (g r hrm tp htm)
        refine ⟨_, rfl, _, rfl, _, rfl, _, rfl, c, d, r.net, tp.1.1, tp.1.2, it, gt, rt, ot, ga, ra, oa, rfl, hcn, hgl, ok.net, fun hok => ?_, fun hno H5 e5 => q2 hnames (bad fun z => hno z.1) H5 (exF e5)⟩
        have no : ∀ m : Str, ¬ m = "_capacitances" → ¬ m = "_resistances" → ¬ m = "_parents" → (tfl pp rr cc).lookup m = none := fun m a b d => tfl_no _ _ _ a b d
        obtain ⟨dx, hob⟩ := hTn.ob
        refine ⟨_, rfl, x, dx, _, rfl, hob, no "delay_range" (by decide +kernel) (by decide +kernel) (by decide +kernel), _, rfl, _, rfl, rfl, rfl, ?_⟩
        by_cases hnd : 0 ≤ tp.2 ∧ tp.2 ≤ r.segs.length
        case neg => exact .inr ⟨x, pp, rr, cc, r.segs, tp.2, u, rfl, hTn, hnd, fun H5 e5 => q2 hnames (bad fun z => hnd z.2) H5 (exF e5)⟩
        obtain ⟨n, hn⟩ : ∃ n : Nat, tp.2 = n := ⟨tp.2.toNat, by omega⟩
        refine .inl ⟨x, pp, rr, cc, r.segs, n, u, by rw [hn]; rfl, hTn, ok.par, ok.few, by omega, ok.bd, hu, fun _ act H5 E5 nact hact => ?_, fun z => absurd hu1 (by omega)⟩
        obtain ⟨ks, hk1, hk2, hk3⟩ := hD3
        have eX := EN2.trans E5
        have hjl : r.taps.length ≤ 100 := ok.taps
        have hi100 : i < 100 := by omega
        refine ⟨_, rfl, _, rfl, _, rfl, (by show 2 ≤ sizeLine; decide), fun tk ntk => ⟨dd, _, rfl, DPut.t (k := [.inl tp.1.1, .inl tp.1.2]) (Ex.new ntk _ _ (eX _ _ hk1)) upd_same (sz_lt (by omega)), ?_⟩⟩
        have eY := eX.trans (Ex.new (o := .tup [kV (Sum.inl tp.1.1), kV (Sum.inl tp.1.2)]) ntk)
        have hddY := eY _ _ hk1
        have hactY := Ex.new (o := .tup [kV (Sum.inl tp.1.1), kV (Sum.inl tp.1.2)]) ntk _ _ hact
        generalize upd H5 tk (.tup [kV (Sum.inl tp.1.1), kV (Sum.inl tp.1.2)]) = H6 at *
        have teZ : TEx H6 (upd H6 dd (.dT (putK ks [.inl tp.1.1, .inl tp.1.2] (.ref act)))) := fun b xs hb => by
          rw [upd_ne (fun z => by rw [z, hddY] at hb; cases hb)]; exact hb
        refine ⟨fun b o hb n1 n2 => ?_, ?_, ?_, ?_, ?_, _, _, _, rfl⟩
        · rw [upd_ne (fun z => by rw [z, ndd] at hb; cases hb)]
          exact eY _ _ (B3 b o hb n1 n2)
        · rw [upd_ne (fun z => hdw z.symm)]; exact eY _ _ hw3
        · rw [upd_ne (fun z => hdt z.symm)]; exact eY _ _ ht3
        · have et : tapM u r.segs (delM u (rows.take i)) (r.taps.take (j + 1)) = putM (tapM u r.segs (delM u (rows.take i)) (r.taps.take j)) (tp.1.1, tp.1.2) (endV r.segs n 0 / u, -((-endV r.segs n 1) / u)) := by
            unfold tapM
            rw [take_snoc1 htj, List.foldl_append]
            show putM _ tp.1 (rngV u r.segs tp.2) = _
            unfold rngV
            rw [hn]; rfl
          rw [et]
          exact del_put hk2 hk3 ((TEx.of eY).trans teZ) upd_same (teZ _ _ hactY)
        · intro t' ht'
          rw [take_snoc1 htj] at ht'
          rcases List.mem_append.mp ht' with z | z
          · exact hg3 t' z
          · rw [List.mem_singleton.mp z]; exact ⟨hok, hnd⟩
      · rintro σ H3 ⟨B3, hw3, ht3, hD3, hg3, y7, y8, y9, rfl⟩
        rw [List.length_map, List.take_length] at hD3 hg3
        have tt : TEx H3 (upd H3 t (.dT (r.taps.map tapK))) := fun b xs hb => by
          rw [upd_ne (fun z => by rw [z, ht3] at hb; cases hb)]; exact hb
        refine ⟨ht3, fun b o hb n1 => ?_, ?_, ?_, ?_, _, _, _, _, _, _, rfl⟩
        · by_cases n2 : b = t
          · rw [n2, upd_same, ← htA, n2.symm, hb]
          · rw [upd_ne n2]; exact B3 b o hb n1 n2
        · rw [upd_ne (fun z => htw z.symm)]; exact hw3
        · have et : delM u (rows.take (i + 1)) = tapM u r.segs (delM u (rows.take i)) r.taps := by
            unfold delM
            rw [take_snoc1 hr, List.foldl_append]; rfl
          rw [et]
          exact hD3.move tt (fun _ z => by rw [upd_ne hdt]; exact z) (by have := ok.taps; omega)
        · intro r' hr'
          rw [take_snoc1 hr] at hr'
          rcases List.mem_append.mp hr' with z | z
          · exact hgood r' z
          · rw [List.mem_singleton.mp z]; exact hg3
    · rintro σ H1 ⟨B1, hw1, hD, hgood, y4, y5, y6, y7, y8, y9, rfl⟩
      rw [hkl, List.take_length] at hD hgood
      have eZ : Ex HA (upd H1 wa (.dK kvs)) := fun b o hb => by
        by_cases n1 : b = wa
        · rw [n1, upd_same, ← hwA, n1.symm, hb]
        · rw [upd_ne n1]; exact B1 b o hb n1
      have tZ : TEx H1 (upd H1 wa (.dK kvs)) := fun b xs hb => by
        rw [upd_ne (fun z => by rw [z, hw1] at hb; cases hb)]; exact hb
      have hDZ := hD.move tZ (fun _ z => by rw [upd_ne hdw]; exact z) (Nat.le_refl _)
      refine ⟨hw1, ?_⟩
      generalize upd H1 wa (.dK kvs) = HZ at *
      have hcZ := hcA.te (.of eZ)
      obtain ⟨ks, hk1, hk2, hk3⟩ := hDZ
      generalize hm : delM u rows = m at *
      have hgl2 : (ga.map V.ref).length = d.gates.length := by rw [List.length_map, hcZ.gates.1]
      refine ⟨_, rfl, _, _, _, _, rfl, rfl, SqT.of hcZ.top, atI_nat (j := 1) rfl, gt, _, rfl, SqT.of hcZ.gts, fun L nL => wk_it walk_enumT
        (fun k H' => Ex HZ H' ∧ ∃ as : List Addr, H' L = some (.lst (as.map V.ref)) ∧ All2 (RowAt (hid L H')) as ((loadR m d.gates).take k)) ⟨Ex.new nL, [], upd_same, by rw [List.take_zero]; exact .nil⟩ (fun k H' _ g => SqT.of (g.1 _ _ hcZ.gts)) ?_ ?_⟩
      · rintro k y H3 H4 hk ⟨E3, as, hL, hAs⟩ ⟨A1, x0, y0, rfl, nA, rfl, hx, hy⟩
        rw [hgl2] at hk
        obtain rfl : V.int (k : Nat) = x0 := Option.some.inj hx
        obtain ⟨b, hb, rfl⟩ := refs_get (show (ga.map V.ref)[k]? = some y0 from hy)
        obtain ⟨g, hg, t, pt, rgt, rga, hg1, hg2, hg3, hg4, hg5⟩ := hcZ.gates.at_ hb
        have hgm : g ∈ d.gates := List.mem_of_getElem? hg
        have hgrl := hgr g hgm
        have E4 : Ex H3 (upd H3 A1 (.tup [V.int (k : Nat), .ref b])) := Ex.new nA
        refine ⟨A1, _, rfl, SqT.of upd_same, rfl, _, _, rfl, _, _, rfl, rfl, rfl, tYes_in ?_⟩
        have hL4 := E4 _ _ hL
        have hA4 : All2 (RowAt (hid L (upd H3 A1 (.tup [V.int (k : Nat), .ref b])))) as ((loadR m d.gates).take k) := hAs.imp fun _ _ z => z.ex30 (hidEx E4)
        generalize upd H3 A1 (.tup [V.int (k : Nat), .ref b]) = H4 at *
        have e34 := E3.trans E4
        refine ⟨_, rfl, _, _, _, _, rfl, rfl, SqT.of (e34 _ _ hg1), atI_nat (j := 3) rfl, rgt, _, rfl, SqT.of (e34 _ _ hg4), fun L2 nL2 => wk_it walk_enumT
          (fun j H' => Ex H4 H' ∧ ∃ bs : List Addr, H' L2 = some (.lst (bs.map V.ref)) ∧ All2 (IntsAt (hid L2 H')) bs ((loadG m k g).take j)) ⟨Ex.new nL2, [], upd_same, by rw [List.take_zero]; exact .nil⟩ (fun j H' _ z => SqT.of (z.1 _ _ (e34 _ _ hg4))) ?_ ?_⟩
        · rintro j y H5 H6 hj ⟨E5, bs, hL2, hBs⟩ ⟨A2, x1, y1, rfl, nA2, rfl, hx1, hy1⟩
          rw [List.length_map, hg5.1] at hj
          obtain rfl : V.int (j : Nat) = x1 := Option.some.inj hx1
          obtain ⟨pa, hpa, rfl⟩ := refs_get (show (rga.map V.ref)[j]? = some y1 from hy1)
          obtain ⟨pr, hpr, hpi⟩ := hg5.at_ hpa
          have E6 : Ex H5 (upd H5 A2 (.tup [V.int (j : Nat), .ref pa])) := Ex.new nA2
          refine ⟨A2, _, rfl, SqT.of upd_same, rfl, _, _, rfl, _, _, rfl, rfl, rfl, tYes_in ?_⟩
          have hL6 := E6 _ _ hL2
          have hB6 : All2 (IntsAt (hid L2 (upd H5 A2 (.tup [V.int (j : Nat), .ref pa])))) bs ((loadG m k g).take j) := hBs.imp fun _ _ z => hidEx E6 _ _ z
          generalize upd H5 A2 (.tup [V.int (j : Nat), .ref pa]) = H6 at *
          have eA := (e34.trans E5).trans E6
          refine ⟨_, rfl, _, rfl, dd, rfl, .inr ⟨_, .inl (eA _ _ hk1)⟩, _, rfl, _, rfl, (by show 2 ≤ sizeLine; decide), fun tk ntk => ⟨(by show 2 ≤ sizeLine; decide), fun tz ntz => ?_⟩⟩
          have eB := Ex.new (o := .tup [.int (k : Nat), .int (j : Nat)]) ntk
          have hkt : upd H6 tk (.tup [.int (k : Nat), .int (j : Nat)]) tk = some (.tup (([.inl (k : Nat), .inl (j : Nat)] : List _root_.L2.Key).map kV)) := upd_same
          have eC := Ex.new (o := .tup [.int 0, .int 0]) ntz
          have hzt : upd (upd H6 tk (.tup [.int (k : Nat), .int (j : Nat)])) tz (.tup [.int 0, .int 0]) tz = some (.tup [.int 0, .int 0]) := upd_same
          have hkt2 := eC _ _ hkt
          have hL7 := eC _ _ (eB _ _ hL6)
          have e67 := eB.trans eC
          generalize upd (upd H6 tk (.tup [.int (k : Nat), .int (j : Nat)])) tz (.tup [.int 0, .int 0]) = H7 at *
          have eD := eA.trans e67
          obtain ⟨qa, e1, e2⟩ : ∃ qa : Addr, (valV ks [.inl ((k : Nat) : Int), .inl ((j : Nat) : Int)]).getD (.ref tz) = .ref qa ∧ IntsAt H7 qa ((m ((k : Int), (j : Int))).getD (0, 0)) := by
            have := hk3 k j
            cases hmk : m ((k : Int), (j : Int)) with
            | none =>
              rw [hmk] at this
              rw [this]
              exact ⟨tz, rfl, hzt⟩
            | some p =>
              rw [hmk] at this
              obtain ⟨a', h6, h7⟩ := this
              rw [h6]
              exact ⟨a', rfl, eD _ _ h7⟩
          have hbl : bs.length ≤ 1000 := by rw [hBs.1, List.length_take]; omega
          refine ⟨_, DGet.t (k := [.inl ((k : Nat) : Int), .inl ((j : Nat) : Int)]) (eD _ _ hk1) hkt2, pa, qa, pr, (m ((k : Int), (j : Int))).getD (0, 0), by show [V.ref pa, _] = _; rw [e1], eD _ _ hpi, e2, fun t' nt' => ?_⟩
          have eE := Ex.new (o := .tup [.int (addP pr ((m ((k : Int), (j : Int))).getD (0, 0))).1, .int (addP pr ((m ((k : Int), (j : Int))).getD (0, 0))).2]) nt'
          refine ⟨_, eE _ _ hL7, sz_lt (by rw [List.length_map]; omega), ((((E5.trans E6).trans e67).trans eE)).mut nL2, bs ++ [t'], by rw [upd_same, List.map_append]; rfl, ?_⟩
          rw [take_snoc1 (loadG_at (m := m) (k := k) hpr), hid_put]
          refine All2.snoc (hB6.imp fun _ _ z => hidEx (e67.trans eE) _ _ z) ?_
          show hid L2 _ t' = _
          rw [hid_ne (fun z => by rw [z, hL7] at nt'; cases nt'), upd_same]
        · rintro H5 ⟨E5, bs, hL2, hBs⟩
          rw [List.length_map, hg5.1, ← loadG_len (m := m) (k := k), List.take_length] at hBs
          have hal : as.length ≤ 1000 := by rw [hA4.1, List.length_take]; omega
          have hL5 := E5 _ _ hL4
          have L2L : L2 ≠ L := fun z => by rw [z, hL4] at nL2; cases nL2
          refine ⟨_, hL5, sz_lt (by rw [List.length_map]; omega), (e34.trans E5).mut nL, as ++ [L2], by rw [upd_same, List.map_append]; rfl, ?_⟩
          rw [take_snoc1 (loadR_at (m := m) hg), hid_put]
          refine All2.snoc (hA4.imp fun _ _ z => z.ex30 (hidEx E5)) ⟨bs, .inl (by rw [hid_ne L2L]; exact hL2), hBs.imp fun b p z => ?_⟩
          have zb : H5 b = some (.tup [.int p.1, .int p.2]) := hid_le _ _ z
          show hid L H5 b = _
          rw [hid_ne (fun z2 => by rw [z2, hL5] at zb; cases zb)]
          exact zb
      · rintro H3 ⟨E3, as, hL, hAs⟩
        rw [hgl2, ← loadR_len (m := m), List.take_length] at hAs
        have e5 := (E1.trans eZ).trans E3
        refine ⟨_, rfl, _, rfl, c, L, d, loadR m d.gates, as, it, gt, rt, ot, ga, ra, oa, rfl, hc.te (.of e5), hL, hAs.imp fun _ _ z => z.ex30 hid_le, loadR_len, hgl, fun c' gt' ga' H6 E6 nc hcirc => ?_⟩
        exact q3 hnames hu1 hgood c' it gt' rt ot ga' ra oa H6 (e5.trans E6) hcirc
end
end G
namespace G
open PySem PySem.Spec PyProof.Rows L2 Evl TL
/-! ## a call with keywords inside try -/
section
variable {X : Cx} {CX : CXT} {k n : Nat} {f : Addr} {fd : FuncData} {ps ks : List Str} {sp : Sp} {E : L2.St → XK} {x : Str} {p pos : Pos} {e : Expr} {es : List Expr} {kws : List Keyword} {t tk : TA} {g : List Value → List Value → List Value} {gV : List V → List V → List V}
def tCallSN (n m : Nat) (sp : Sp) (gV : List V → List V → List V) (E : L2.St → XK) (t tk : TA) : TE := fun σ H Q => t σ H fun vs H1 => tk σ H1 fun zs H2 => vs.length = n ∧ zs.length = m ∧ sp (gV vs zs) H2 Q (E σ)
theorem pe_callSN (F : FnOk X.prog X.w X.K X.mg X.base CX k f fd ps sp) (hr : Room k X.A) (hg : Gl X x) (hm : X.mg x = some (.ref f)) (hk : PySem.W.keepIn X.K (.ref f) = true) (hb : KBn X.K fd ps n ks g gV) (hx : ∀ σ, PassesAt CX X σ (E σ))
    (ha : PA X (e :: es) t) (hkw : PK X kws tk) (hall : (backToKw pos (keywordEach kws X.env)).all (·.1.isSome) = true := by rfl) (hks : (backToKw pos (keywordEach kws X.env)).filterMap (·.1) = ks := by rfl)
    (hdb : (x == ("__debug__" : Str)) = false := by decide) (he : starEach (e :: es) X.env = (false, eval e X.env) :: starEach es X.env := by rfl)
    (hpl : ((backTo pos (starEach (e :: es) X.env)).any (·.1) || (backToKw pos (keywordEach kws X.env)).any (·.1.isNone)) = false := by rfl) :
    PE X (.Call (.Name x p) (e :: es) kws pos) (tCallSN n ks.length sp gV E t tk) := by
  refine ⟨fun pins s σ H Q I h => ?_⟩
  refine wpAny_Call_Name_kw (ld_glob I hg hm ?_ hdb)
  refine PySem.W.callWith_KW (h₀ := X.base) I.ok.mod.kin hk hall (thn (ha.run pos pins s σ H _ I h) fun us s1 ⟨vs, H1, I1, r, q⟩ => ?_) hpl he
  refine thn (hkw.run pos pins s1 σ H1 _ I1 q) fun ws s2 ⟨zs, H2, I2, rz, l1, l2, q2⟩ => ⟨I2.kIn, ?_⟩
  rw [hks]
  have r2 := hb.rel r rz
  refine wpAny_call (codeAny_mono (F.run X.A X.stack s2 H2 ⟨us, ks.zip ws⟩ (g us ws) (gV vs zs) Q (E σ) hr I2.env0 (hb.to s2 us ws I2.kIn (r.length.symm.trans l1) (rz.length.symm.trans l2)) r2 q2) fun r s' hq => ?_)
  cases r with
  | error e => exact hx σ pins H2 s2 e s' I2 hq
  | ok fl =>
    cases fl with
    | ret u => exact I2.after hq
    | next => exact False.elim hq
    | brk => exact False.elim hq
    | cont => exact False.elim hq
end
section
variable {P : Program} {w : World} {K : PySem.W.Frag} {mg : Str → Option Value} {base : Heap}
/-- loaded, its errors told with the locks taken off -/
def spLoadU (C U B : Addr) : Sp := fun vs H Q E => ∃ (c wa : Addr) (u : Int) (d : CircD) (rows : List WireD) (it gt rt ot : Addr) (ga ra oa : List Addr), vs = [.ref c, .ref wa, .int u] ∧ CircAt H c d it gt rt ot ga ra oa ∧ WiresAt C H wa rows ∧ rows.length ≤ 100 ∧ (∀ r ∈ rows, WireOk r) ∧ (namesD d).length ≤ 1000 ∧ d.gates.length ≤ 1000 ∧ (∀ g ∈ d.gates, g.rng.length ≤ 1000) ∧ u ≤ 2 ^ 62 ∧
  ((∃ r ∈ rows, r.net ∉ namesD d) → ∀ H', Ex H H' → E (.ref U) none H') ∧
  ((∀ r ∈ rows, r.net ∈ namesD d) → u < 1 ∨ ¬ GoodW d rows → ∀ H', Ex H H' → E (.ref B) none H') ∧
  ((∀ r ∈ rows, r.net ∈ namesD d) → 1 ≤ u → GoodW d rows → ∀ (c' : Addr) (it gt rt ot : Addr) (ga ra oa : List Addr) (H' : Hp), Ex H H' → CircAt H' c' (loadedD d (delM u rows)) it gt rt ot ga ra oa → Q (.ref c') H')
theorem FnOk.loadU {C U B : Addr} {k : Nat} {f : Addr} {fd : FuncData} {ps : List Str} (F : FnOk P w K mg base (L2.CX P w) k f fd ps (spLoad C U B)) : FnOk P w K mg base (L2.CX P w) k f fd ps (spLoadU C U B) :=
  (FnOk.unfE F).imp fun vs H Q E h => by
    obtain ⟨c, wa, u, d, rows, it, gt, rt, ot, ga, ra, oa, e, hc, hw, h1, h2, h3, h4, h5, h6, q1, q2, q3⟩ := h
    exact ⟨c, wa, u, d, rows, it, gt, rt, ot, ga, ra, oa, e, hc, hw, h1, h2, h3, h4, h5, h6, fun z H' e => q1 z _ e.unf, fun z z2 H' e => q2 z z2 _ e.unf, q3⟩
theorem fresh30 {H H' : Hp} (e : Ex H H') {b : Addr} (n : H' b = none) : H b = none := by
  cases h : H b with
  | none => rfl
  | some o => rw [e _ _ h] at n; cases n
structure Duo (K : PySem.W.Frag) (C U B S : Addr) (b0 b1 : Bool) : Prop where
  isc : ExcC K C
  k0 : PySem.W.kitOne K (.ref C) (.ref U) = some b0
  k1 : PySem.W.kitOne K (.ref C) (.ref B) = some b1
  hit : PySem.W.exmOne K (.ref C) (.ref S) = some true
def spTold30 (C : Addr) : Sp := fun vs H Q _ => ∃ (c wa : Addr) (u : Int) (d : CircD) (rows : List WireD) (it gt rt ot : Addr) (ga ra oa : List Addr) (b : Bool), vs = [.ref c, .ref wa, .int u] ∧ CircAt H c d it gt rt ot ga ra oa ∧ WiresAt C H wa rows ∧ rows.length ≤ 100 ∧ (∀ r ∈ rows, WireOk r) ∧ (namesD d).length ≤ 1000 ∧ d.gates.length ≤ 1000 ∧ (∀ g ∈ d.gates, g.rng.length ≤ 1000) ∧ u ≤ 2 ^ 62 ∧
  (((∃ r ∈ rows, r.net ∉ namesD d) ∧ b = true) ∨ ((∀ r ∈ rows, r.net ∈ namesD d) ∧ (u < 1 ∨ ¬ GoodW d rows) ∧ b = false)) ∧ ∀ (l : Addr) (H' : Hp), Ex H H' → H l = none → H' l = some (.lst [.bl b, .bl !b]) → Q (.ref l) H'
theorem sc_law_told : FnScope ["circuit", "wires", "unit", "e"] ["circuit", "wires", "unit"] (defScope s_law_told) := ⟨rfl, rfl, rfl, by decide +kernel, rfl, by decide +kernel, by decide +kernel⟩
theorem ok_law_told {C U B S : Addr} (D : Dfd K mg "_law_told" s_law_told ["circuit", "wires", "unit"]) (T : TxtLd mg) (g_UnknownName : mg "UnknownName" = some (.ref U)) (g_BadArgument : mg "BadArgument" = some (.ref B)) (gS : mg "SignoffError" = some (.ref S)) (t0 : Duo K U U B S true false) (t1 : Duo K B U B S false true)
    {f_loaded : Addr} {d_loaded : FuncData} (G_loaded : FnOk P w K mg base (L2.CX P w) 6 f_loaded d_loaded ["circuit", "wires", "unit"] (spLoadU C U B)) (g_loaded : mg "loaded" = some (.ref f_loaded)) (k_loaded : PySem.W.keepIn K (.ref f_loaded) = true) (kb_loaded : KBn K d_loaded ["circuit", "wires", "unit"] 2 ["unit"] (fun us ws => us ++ ws) (fun vs zs => vs ++ zs)) :
    Has P w K mg base 7 "_law_told" ["circuit", "wires", "unit"] (spTold30 C) := by
  refine D.has fun f fd F => F.ok sc_law_told (fun vs H Q E h => ?_) (fun cdv A outer s H vs Q E hr h => ?_)
  · obtain ⟨c, wa, u, d, rows, it, gt, rt, ot, ga, ra, oa, b, rfl, _⟩ := h
    rfl
  · obtain ⟨c, wa, u, d, rows, it, gt, rt, ot, ga, ra, oa, b, rfl, hc, hw, h1, h2, h3, h4, h5, h6, hb, q⟩ := h
    refine ⟨_, (pss_cons (ps_try_as (c := .ref S) (i := 3) rfl rfl sc_law_told.nd rfl rfl ⟨rfl, by decide, .inl gS⟩ takes0
      (fun W pn xe tk hp => (pss_one (ps_expr (pe_callSN G_loaded (hr.mono (by omega)) rfl g_loaded k_loaded kb_loaded (fun σ => passAt tk σ) (pa_cons (pv 0) (pa_cons (pv 1) pa_nil)) (pk_cons (pv 2) pk_nil)))))
      (fun a oe cls dd pn hz hf => (pss_one (ps_ret (pe_lst (pa_cons (pe_isE hz hf (fun D hz1 ic => pe_callB (call_isE ic hz1 hf) (by rfl) T.isinstance (by decide +kernel) (pa_cons (pv 3) (pa_cons (gRef rfl g_UnknownName) pa_nil)))) (pa_cons (pe_isE hz hf (fun D hz1 ic => pe_callB (call_isE ic hz1 hf) (by rfl) T.isinstance (by decide +kernel) (pa_cons (pv 3) (pa_cons (gRef rfl g_BadArgument) pa_nil)))) pa_nil)))))))
    (pss_one (ps_ret (pe_lst (pa_cons pe_bl (pa_cons pe_bl pa_nil)))))), ?_⟩
    refine ⟨_, rfl, _, rfl, _, rfl, rfl, rfl, c, wa, u, d, rows, it, gt, rt, ot, ga, ra, oa, rfl, hc, hw, h1, h2, h3, h4, h5, h6, fun hbad H1 E1 => ?_, fun hall hbad H1 E1 => ?_, fun hall hu hgood c' it' gt' rt' ot' ga' ra' oa' H1 E1 hc' => ?_⟩
    · obtain rfl : b = true := by
        rcases hb with z | z
        · exact z.2
        · obtain ⟨r, hr1, hr2⟩ := hbad
          exact absurd (z.1 r hr1) hr2
      refine ⟨true, t0.hit, fun _ a na => ⟨U, ⟨rfl, rfl, t0.isc⟩, _, rfl, .ref U, .ref U, true, rfl, (fun u hu => hu), t0.k0, U, ⟨rfl, rfl, t0.isc⟩, _, rfl, .ref B, .ref B, false, rfl, (fun u hu => hu), t0.k1, (by show 2 ≤ sizeLine; decide), fun l nl => q l _ (E1.trans (Ex.new nl)) (fresh30 E1 nl) upd_same⟩, fun q => nomatch q⟩
    · obtain rfl : b = false := by
        rcases hb with z | z
        · obtain ⟨⟨r, hr1, hr2⟩, _⟩ := z
          exact absurd (hall r hr1) hr2
        · exact z.2.2
      exact ⟨true, t1.hit, fun _ a na => ⟨B, ⟨rfl, rfl, t1.isc⟩, _, rfl, .ref U, .ref U, false, rfl, (fun u hu => hu), t1.k0, B, ⟨rfl, rfl, t1.isc⟩, _, rfl, .ref B, .ref B, true, rfl, (fun u hu => hu), t1.k1, (by show 2 ≤ sizeLine; decide), fun l nl => q l _ (E1.trans (Ex.new nl)) (fresh30 E1 nl) upd_same⟩, fun q => nomatch q⟩
    · exact absurd hb (by
        rintro (⟨⟨r, hr1, hr2⟩, _⟩ | ⟨_, z | z, _⟩)
        · exact hr2 (hall r hr1)
        · omega
        · exact z hgood)
end
end G
namespace G
open PySem PySem.Spec PyProof.Rows L2 Evl TL
/-! ## what the law draws: pins, taps, ceilings -/
theorem pinsF_mem {ps : List Str} {net : Str} {g : Nat} {x : Nat × Nat} (h : x ∈ pinsF ps net g) : x.1 = g ∧ ps[x.2]? = some net := by
  unfold pinsF at h
  obtain ⟨j, hj, rfl⟩ := List.mem_map.mp h
  exact ⟨rfl, eq_of_beq (List.mem_filter.mp hj).2⟩
theorem pinsU_mem {d : CircD} {net : Str} {n : Nat} {x : Nat × Nat} (h : x ∈ pinsU d net n) : x.1 < n ∧ ∃ gd, d.gates[x.1]? = some gd ∧ gd.pins[x.2]? = some net := by
  unfold pinsU at h
  obtain ⟨g, hg, hx⟩ := List.mem_flatMap.mp h
  have hg' := List.mem_range.mp hg
  cases e : d.gates[g]? with
  | none => rw [e] at hx; cases hx
  | some gd =>
    rw [e] at hx
    obtain ⟨h1, h2⟩ := pinsF_mem hx
    subst h1
    exact ⟨hg', gd, e, h2⟩
theorem pinsD_ok {d : CircD} {net : Str} {x : Nat × Nat} (h : x ∈ pinsD d net) : okTap d net (x.1 : Nat) (x.2 : Nat) := by
  obtain ⟨_, gd, h1, h2⟩ := pinsU_mem h
  exact ⟨x.1, x.2, gd, rfl, rfl, h1, h2⟩
theorem pinsF_nodup (ps : List Str) (net : Str) (g : Nat) : (pinsF ps net g).Nodup := by
  unfold pinsF
  exact List.Pairwise.map _ (fun a b h z => h (Prod.mk.inj z).2) ((List.nodup_range).filter _)
theorem pinsU_nodup (d : CircD) (net : Str) : ∀ n, (pinsU d net n).Nodup
  | 0 => List.nodup_nil
  | n + 1 => by
    have ih := pinsU_nodup d net n
    cases h : d.gates[n]? with
    | none =>
      have e : pinsU d net (n + 1) = pinsU d net n := by
        unfold pinsU
        rw [List.range_succ, List.flatMap_append, List.flatMap_singleton, h, List.append_nil]
      rw [e]; exact ih
    | some gd =>
      rw [pinsU_succ d net n h]
      refine List.nodup_append.mpr ⟨ih, pinsF_nodup _ _ _, fun x hx y hy z => ?_⟩
      have h1 := (pinsU_mem hx).1
      have h2 := (pinsF_mem hy).1
      rw [z, h2] at h1
      omega
theorem pinsD_nodup (d : CircD) (net : Str) : (pinsD d net).Nodup := pinsU_nodup d net _
end G
namespace G
open PySem PySem.Spec PyProof.Rows L2 Evl TL
def netsD (d : CircD) : List Str := d.ins ++ d.regs.map (·.name) ++ d.gates.map (·.name)
theorem netsD_mem {d : CircD} {x : Str} : x ∈ netsD d ↔ x ∈ namesD d := by
  unfold netsD namesD
  simp only [List.mem_append]
  constructor
  · rintro ((h | h) | h)
    · exact .inl (.inl h)
    · exact .inr h
    · exact .inl (.inr h)
  · rintro ((h | h) | h)
    · exact .inl (.inl h)
    · exact .inr h
    · exact .inl (.inr h)
theorem names_nd : ∀ a, a ≤ 3 → ∀ b, b ≤ 3 → ∀ c, c ≤ 6 → ((List.range a).map (nm "i") ++ (List.range b).map (nm "r") ++ (List.range c).map (nm "g")).Nodup := by decide +kernel
theorem netsD_nodup {most : Nat} {d : CircD} {Gs : List GateD} (W : CircWf most d Gs) (hm : most ≤ 6) : (netsD d).Nodup := by
  obtain ⟨a, _, ha, ea⟩ := W.ins
  obtain ⟨b, hb, eb⟩ := W.regs
  have hg : Gs.map (·.name) = (List.range Gs.length).map (nm "g") := by
    refine List.ext_getElem? fun k => ?_
    rw [List.getElem?_map, List.getElem?_map]
    cases h : Gs[k]? with
    | none =>
      rw [List.getElem?_eq_none_iff] at h
      rw [List.getElem?_eq_none (by rw [List.length_range]; exact h)]; rfl
    | some g =>
      have hk := (List.getElem?_eq_some_iff.mp h).1
      rw [List.getElem?_range hk]
      exact congrArg some (W.gates k g h).name
  unfold netsD
  rw [ea, eb]
  have hp : (d.gates.map (·.name)).Perm ((List.range Gs.length).map (nm "g")) := by rw [← hg]; exact W.perm.map _
  exact ((List.Perm.append_left _ hp).nodup_iff).mpr (names_nd a ha b hb _ (Nat.le_trans W.few hm))
/-- a wire that stands in the heap, its taps not at ad -/
def WireN (ad : Addr) (C : Addr) (H : Hp) (a : Addr) (wd : WireD) : Prop := ∃ (x p r c t : Addr), H a = some (.tup [.ref x, .ref t]) ∧ TreeAt C H x p r c wd.segs ∧ H t = some (.dT (wd.taps.map tapK)) ∧ t ≠ ad
theorem WireN.ex {ad C a : Addr} {H H' : Hp} {wd : WireD} (e : Ex H H') (h : WireN ad C H a wd) : WireN ad C H' a wd := by
  obtain ⟨x, p, r, c, t, h1, h2, h3, h4⟩ := h
  exact ⟨x, p, r, c, t, e _ _ h1, h2.ex e, e _ _ h3, h4⟩
def WiresN (ad C : Addr) (H : Hp) (w : Addr) (rows : List WireD) : Prop := ∃ kvs : List (L2.Key × V), H w = some (.dK kvs) ∧ All2 (fun kv r => ∃ a, kv = (.inr r.net, .ref a) ∧ WireN ad C H a r) kvs rows
def spWired (C : Addr) : Sp := fun vs H Q _ => ∃ (p a c : Addr) (u : Int) (d : CircD) (Gs : List GateD) (it gt rt ot : Addr) (ga ra oa : List Addr), vs = [.ref p, .ref c, .int u] ∧ PoolOk p a H ∧ CircAt H c d it gt rt ot ga ra oa ∧ CircWf 6 d Gs ∧ 1 ≤ u ∧ u ≤ 100 ∧
  ∀ (l wa ad : Addr) (rows : List WireD) (H' : Hp), Px p a H H' → H l = none → hid p H' l = some (.lst [.ref wa, .ref ad]) → WiresN ad C (hid p H') wa rows → DelAt (hid p H') ad (delM u rows) 2000 → rows.length ≤ 12 → (rows.map (·.net)).Nodup → (∀ r ∈ rows, WireOk r ∧ r.net ∈ netsD d) → GoodW d rows → Q (.ref l) H'
section
variable {P : Program} {w : World} {K : PySem.W.Frag} {mg : Str → Option Value} {base : Heap}
end
end G
namespace G
open PySem PySem.Spec PyProof.Rows L2 Evl TL
def WInv (p a C wa ad : Addr) (d : CircD) (u : Int) (H H' : Hp) (i : Nat) (rows : List WireD) : Prop :=
  Px p a H H' ∧ WiresN ad C (hid p H') wa rows ∧ DelAt (hid p H') ad (delM u rows) (100 * i) ∧ rows.length ≤ i ∧ (rows.map (·.net)).Nodup ∧ (∀ r ∈ rows, WireOk r ∧ r.net ∈ (netsD d).take i) ∧ GoodW d rows
theorem valV_taps {g pin : Int} : ∀ {tl : List TapD}, (∀ t ∈ tl, t.1 ≠ (g, pin)) → valV (tl.map tapK) [.inl g, .inl pin] = none
  | [], _ => rfl
  | t :: tl, h => by
    have ne : ¬ (tapK t).1 = [.inl g, .inl pin] := fun z => by
      have z : ([.inl t.1.1, .inl t.1.2] : List _root_.L2.Key) = [.inl g, .inl pin] := z
      injection z with z1 z2
      injection z2 with z3 _
      injection z1 with z1
      injection z3 with z3
      exact h t (List.mem_cons_self ..) (Prod.ext z1 z3)
    rw [List.map_cons, valV_neg ne]
    exact valV_taps fun u hu => h u (List.mem_cons_of_mem _ hu)
theorem nd_take {α : Type} {l : List α} (nd : l.Nodup) {j : Nat} {x : α} (h : l[j]? = some x) : x ∉ l.take j := fun hx => by
  rw [← List.take_append_drop j l] at nd
  have hd : x ∈ l.drop j := List.mem_of_getElem? (i := 0) (by rw [List.getElem?_drop, Nat.add_zero]; exact h)
  exact (List.nodup_append.mp nd).2.2 x hx x hd rfl
theorem valV_no {κ : Type} [DecidableEq κ] {k : κ} : ∀ {l : List (κ × V)}, (∀ q ∈ l, q.1 ≠ k) → valV l k = none
  | [], _ => rfl
  | q :: l, h => by
    rw [valV_neg (h q (List.mem_cons_self ..))]
    exact valV_no fun u hu => h u (List.mem_cons_of_mem _ hu)
theorem names_len : ∀ a, a ≤ 3 → ∀ b, b ≤ 3 → ∀ c, c ≤ 6 → ∀ x ∈ ((List.range a).map (nm "i") ++ (List.range b).map (nm "r") ++ (List.range c).map (nm "g")), x.length ≤ 1000 := by decide +kernel
theorem netsD_len {most : Nat} {d : CircD} {Gs : List GateD} (W : CircWf most d Gs) (hm : most ≤ 6) {x : Str} (hx : x ∈ netsD d) : x.length ≤ 1000 := by
  obtain ⟨a, _, ha, ea⟩ := W.ins
  obtain ⟨b, hb, eb⟩ := W.regs
  refine names_len a ha b hb Gs.length (Nat.le_trans W.few hm) x ?_
  unfold netsD at hx
  rw [ea, eb] at hx
  rcases List.mem_append.mp hx with z | z
  · exact List.mem_append_left _ z
  · obtain ⟨g, hg, rfl⟩ := List.mem_map.mp z
    obtain ⟨k, hk⟩ := List.getElem?_of_mem (W.perm.mem_iff.mp hg)
    have hkl := (List.getElem?_eq_some_iff.mp hk).1
    exact List.mem_append_right _ (List.mem_map.mpr ⟨k, List.mem_range.mpr hkl, (W.gates k g hk).name.symm⟩)
theorem hidPx {p a : Addr} {H H' : Hp} (x : Px p a H H') : Ex (hid p H) (hid p H') := fun b o h => x.get h
theorem WiresN.ex {ad C wa : Addr} {H H' : Hp} {rows : List WireD} (e : Ex H H') (h : WiresN ad C H wa rows) : WiresN ad C H' wa rows := by
  obtain ⟨kvs, h1, h2⟩ := h
  exact ⟨kvs, e _ _ h1, h2.imp fun _ _ ⟨a, z1, z2⟩ => ⟨a, z1, z2.ex e⟩⟩
theorem DelAt.ex {H H' : Hp} {dd : Addr} {m : DelM} {n n' : Nat} (h : DelAt H dd m n) (e : Ex H H') (hn : n ≤ n') : DelAt H' dd m n' := h.move (.of e) (fun _ z => e _ _ z) hn
theorem WInv.draw {p a C wa ad : Addr} {d : CircD} {u : Int} {H H' H'' : Hp} {i : Nat} {rows : List WireD} (h : WInv p a C wa ad d u H H' i rows) (x : Px p a H' H'') : WInv p a C wa ad d u H H'' i rows := by
  obtain ⟨h1, h2, h3, h4⟩ := h
  exact ⟨h1.trans x, h2.ex (hidPx x), h3.ex (hidPx x) (Nat.le_refl _), h4⟩
theorem WInv.next {p a C wa ad : Addr} {d : CircD} {u : Int} {H H' : Hp} {i : Nat} {rows : List WireD} (h : WInv p a C wa ad d u H H' i rows) : WInv p a C wa ad d u H H' (i + 1) rows := by
  obtain ⟨h1, h2, h3, h4, h5, h6, h7⟩ := h
  exact ⟨h1, h2, h3.ex (fun _ _ z => z) (by omega), by omega, h5, fun r hr => ⟨(h6 r hr).1, by
    have := (h6 r hr).2
    rw [List.take_add_one]
    exact List.mem_append_left _ this⟩, h7⟩
section
variable {P : Program} {w : World} {K : PySem.W.Frag} {mg : Str → Option Value} {base : Heap}
theorem sc_law_wired : FnScope ["pool", "circuit", "unit", "nets", "wires", "added", "net", "segments", "taps", "pin", "node", "low", "high", "gate", "row"] ["pool", "circuit", "unit"] (defScope s_law_wired) := ⟨rfl, rfl, rfl, by decide +kernel, rfl, by decide +kernel, by decide +kernel⟩
theorem ok_law_wired {C B R fi : Addr} {di : FuncData} (D : Dfd K mg "_law_wired" s_law_wired ["pool", "circuit", "unit"]) (T : TxtLd mg) (C1 : Has P w K mg base 2 "_law_draw" ["pool", "many"] spDrawX) (C2 : Has P w K mg base 3 "_law_segments" ["pool", "most"] spSegs) (C3 : Has P w K mg base 1 "_law_pins" ["circuit", "net"] spPins)
    (C4 : Has P w K mg base 2 "_law_delay" ["segments", "node", "resistances", "capacitances"] spLDelay) (g_WireTree : mg "WireTree" = some (.ref C)) (Mk_WireTree : Mk K C fi) (G_WireTree_init : FnOk P w K mg base (L2.CX P w) 1 fi di ["self", "segments"] (spTInit C B R)) (b_WireTree_init : Binds K di ["self", "segments"] []) :
    Has P w K mg base 4 "_law_wired" ["pool", "circuit", "unit"] (spWired C) := by
  obtain ⟨f_law_draw, d_law_draw, G_law_draw, g_law_draw, k_law_draw, b_law_draw⟩ := C1
  obtain ⟨f_law_segments, d_law_segments, G_law_segments, g_law_segments, k_law_segments, b_law_segments⟩ := C2
  obtain ⟨f_law_pins, d_law_pins, G_law_pins, g_law_pins, k_law_pins, b_law_pins⟩ := C3
  obtain ⟨f_law_delay, d_law_delay, G_law_delay, g_law_delay, k_law_delay, b_law_delay⟩ := C4
  refine D.has fun f fd F => F.ok sc_law_wired (fun vs H Q E h => ?_) (fun cdv A outer s H vs Q E hr h => ?_)
  · obtain ⟨p, a, c, u, d, Gs, it, gt, rt, ot, ga, ra, oa, rfl, _⟩ := h
    rfl
  · obtain ⟨p, a, c, u, d, Gs, it, gt, rt, ot, ga, ra, oa, rfl, hp, hc, W, hu1, hu2, q⟩ := h
    refine ⟨_, (pss_cons (ps_set (i := 3) sc_law_wired.nd rfl (.inl rfl) (pe_op op_cat (pe_op op_cat (pe_callTy call_list_of (by rfl) T.list (by decide +kernel) (pa_cons (pe_ix ix_tup (pv 1) pe_int (fun _ _ => rfl)) pa_nil)) (pe_lc (own := [("row", 14)]) (g := gName 14) (tt := tYes) rfl sc_law_wired.nd (pi_tup (pe_ix ix_tup (pv 1) pe_int (fun _ _ => rfl))) (blkOk_by (N := ["pool", "circuit", "unit", "nets", "wires", "added", "net", "segments", "taps", "pin", "node", "low", "high", "gate", "row"]) (sc := defScope s_law_wired) (own := [("row", 14)]) (by decide +kernel)) (fun _ _ _ _ _ => (pg_name (i := 14) sc_law_wired.nd rfl (.inl rfl))) (fun _ _ _ _ _ => pts_nil) (fun _ _ _ _ _ => (pe_ix (kIxT (K := K) rfl) (pv 14) pe_int (fun _ _ => rfl))))) (pe_lc (own := [("gate", 13)]) (g := gName 13) (tt := tYes) rfl sc_law_wired.nd (pi_tup (pe_ix ix_tup (pv 1) pe_int (fun _ _ => rfl))) (blkOk_by (N := ["pool", "circuit", "unit", "nets", "wires", "added", "net", "segments", "taps", "pin", "node", "low", "high", "gate", "row"]) (sc := defScope s_law_wired) (own := [("gate", 13)]) (by decide +kernel)) (fun _ _ _ _ _ => (pg_name (i := 13) sc_law_wired.nd rfl (.inl rfl))) (fun _ _ _ _ _ => pts_nil) (fun _ _ _ _ _ => (pe_ix (kIxT (K := K) rfl) (pv 13) pe_int (fun _ _ => rfl))))))
    (pss_cons (ps_set (i := 4) sc_law_wired.nd rfl (.inl rfl) pe_dnewK)
    (pss_cons (ps_set (i := 5) sc_law_wired.nd rfl (.inl rfl) pe_dnewT)
    (pss_cons (ps_for PassesOwn.never rfl (pi_list (pv 3)) (pg_name (i := 6) sc_law_wired.nd rfl (.inl rfl))
      (pss_one (ps_if (pt_cmpR op_gt (pe_call G_law_draw (hr.mono (by omega)) (by rfl) g_law_draw k_law_draw b_law_draw .nil pass0 (pa_cons (pv 0) (pa_cons pe_int pa_nil))) pe_int (nomark _))
        (pss_cons (ps_set (i := 7) sc_law_wired.nd rfl (.inl rfl) (pe_call G_law_segments (hr.mono (by omega)) (by rfl) g_law_segments k_law_segments b_law_segments .nil pass0 (pa_cons (pv 0) (pa_cons pe_int pa_nil))))
        (pss_cons (ps_set (i := 8) sc_law_wired.nd rfl (.inl rfl) pe_dnewT)
        (pss_cons (ps_for PassesOwn.never rfl (pi_list (pe_call G_law_pins (hr.mono (by omega)) (by rfl) g_law_pins k_law_pins b_law_pins .nil pass0 (pa_cons (pv 1) (pa_cons (pv 6) pa_nil)))) (pg_name (i := 9) sc_law_wired.nd rfl (.inl rfl))
          (pss_cons (ps_set (i := 10) sc_law_wired.nd rfl (.inl rfl) (pe_call G_law_draw (hr.mono (by omega)) (by rfl) g_law_draw k_law_draw b_law_draw .nil pass0 (pa_cons (pv 0) (pa_cons (pe_op op_add (pe_callB call_len_seq (by rfl) T.len (by decide +kernel) (pa_cons (pv 7) pa_nil)) pe_int) pa_nil))))
          (pss_one (ps_if (pt_cmpR op_gt (pe_call G_law_draw (hr.mono (by omega)) (by rfl) g_law_draw k_law_draw b_law_draw .nil pass0 (pa_cons (pv 0) (pa_cons pe_int pa_nil))) pe_int (nomark _))
            (pss_cons (ps_asg (pv 10) (pg_sub (pv 8) (pv 9) (set_dict (hu_of hr))))
            (pss_cons (ps_set (i := 11) sc_law_wired.nd rfl (.inl rfl) (pe_call G_law_delay (hr.mono (by omega)) (by rfl) g_law_delay k_law_delay b_law_delay .nil pass0 (pa_cons (pv 7) (pa_cons (pv 10) (pa_cons (pe_lc (own := [("row", 14)]) (g := gName 14) (tt := tYes) rfl sc_law_wired.nd (pi_list (pv 7)) (blkOk_by (N := ["pool", "circuit", "unit", "nets", "wires", "added", "net", "segments", "taps", "pin", "node", "low", "high", "gate", "row"]) (sc := defScope s_law_wired) (own := [("row", 14)]) (by decide +kernel)) (fun _ _ _ _ _ => (pg_name (i := 14) sc_law_wired.nd rfl (.inl rfl))) (fun _ _ _ _ _ => pts_nil) (fun _ _ _ _ _ => (pe_ix (kIxT (K := K) rfl) (pe_ix (kIxT (K := K) rfl) (pv 14) pe_int (fun _ _ => rfl)) pe_int (fun _ _ => rfl)))) (pa_cons (pe_lc (own := [("row", 14)]) (g := gName 14) (tt := tYes) rfl sc_law_wired.nd (pi_list (pv 7)) (blkOk_by (N := ["pool", "circuit", "unit", "nets", "wires", "added", "net", "segments", "taps", "pin", "node", "low", "high", "gate", "row"]) (sc := defScope s_law_wired) (own := [("row", 14)]) (by decide +kernel)) (fun _ _ _ _ _ => (pg_name (i := 14) sc_law_wired.nd rfl (.inl rfl))) (fun _ _ _ _ _ => pts_nil) (fun _ _ _ _ _ => (pe_ix (kIxT (K := K) rfl) (pe_ix (kIxT (K := K) rfl) (pv 14) pe_int (fun _ _ => rfl)) pe_int (fun _ _ => rfl)))) pa_nil))))))
            (pss_cons (ps_set (i := 12) sc_law_wired.nd rfl (.inl rfl) (pe_call G_law_delay (hr.mono (by omega)) (by rfl) g_law_delay k_law_delay b_law_delay .nil pass0 (pa_cons (pv 7) (pa_cons (pv 10) (pa_cons (pe_lc (own := [("row", 14)]) (g := gName 14) (tt := tYes) rfl sc_law_wired.nd (pi_list (pv 7)) (blkOk_by (N := ["pool", "circuit", "unit", "nets", "wires", "added", "net", "segments", "taps", "pin", "node", "low", "high", "gate", "row"]) (sc := defScope s_law_wired) (own := [("row", 14)]) (by decide +kernel)) (fun _ _ _ _ _ => (pg_name (i := 14) sc_law_wired.nd rfl (.inl rfl))) (fun _ _ _ _ _ => pts_nil) (fun _ _ _ _ _ => (pe_ix (kIxT (K := K) rfl) (pe_ix (kIxT (K := K) rfl) (pv 14) pe_int (fun _ _ => rfl)) pe_int (fun _ _ => rfl)))) (pa_cons (pe_lc (own := [("row", 14)]) (g := gName 14) (tt := tYes) rfl sc_law_wired.nd (pi_list (pv 7)) (blkOk_by (N := ["pool", "circuit", "unit", "nets", "wires", "added", "net", "segments", "taps", "pin", "node", "low", "high", "gate", "row"]) (sc := defScope s_law_wired) (own := [("row", 14)]) (by decide +kernel)) (fun _ _ _ _ _ => (pg_name (i := 14) sc_law_wired.nd rfl (.inl rfl))) (fun _ _ _ _ _ => pts_nil) (fun _ _ _ _ _ => (pe_ix (kIxT (K := K) rfl) (pe_ix (kIxT (K := K) rfl) (pv 14) pe_int (fun _ _ => rfl)) pe_int (fun _ _ => rfl)))) pa_nil))))))
            (pss_one (ps_asg (pe_tup (pa_cons (pe_op op_fdivW (pv 11) (pv 2)) (pa_cons (pe_op op_fdivW (pe_op op_sub (pe_op op_add (pv 12) (pv 2)) pe_int) (pv 2)) pa_nil))) (pg_sub (pv 5) (pv 9) (set_dict (hu_of hr))))))))
            pss_nil))))
        (pss_one (ps_asg (pe_tup (pa_cons (pe_make Mk_WireTree G_WireTree_init (hr.mono (by omega)) (by rfl) g_WireTree b_WireTree_init .nil passX0 (pa_cons (pv 7) pa_nil)) (pa_cons (pv 8) pa_nil))) (pg_sub (pv 4) (pv 6) (set_dict (hu_of hr))))))))
        pss_nil)))
    (pss_one (ps_ret (pe_lst (pa_cons (pv 4) (pa_cons (pv 5) pa_nil))))))))), ?_⟩
    refine ⟨_, rfl, _, _, _, _, rfl, rfl, SqT.of hc.top, atI_nat (j := 0) rfl, _, _, rfl, .inr (SqT.of hc.ins), fun l1 n1 => ?_⟩
    have E1 : Ex H (upd H l1 (.lst (d.ins.map V.str))) := Ex.new n1
    have h1 : upd H l1 (.lst (d.ins.map V.str)) l1 = some (.lst (d.ins.map V.str)) := upd_same
    generalize upd H l1 (.lst (d.ins.map V.str)) = H1 at *
    have hc1 := hc.te (.of E1)
    refine ⟨_, rfl, _, _, _, _, rfl, rfl, SqT.of hc1.top, atI_nat (j := 2) rfl, rt, rfl, ⟨_, SqT.of hc1.rgs⟩, fun L2 nL2 => wk_tup (K := K) (a := rt) (xs := ra.map V.ref) (fun j H' => Ex H1 H' ∧ H' L2 = some (.lst (((d.regs.map (·.name)).take j).map V.str))) ⟨Ex.new nL2, by rw [upd_same]; rfl⟩ (fun j H' _ g => SqT.of (g.1 _ _ hc1.rgs)) ?_ ?_⟩
    · rintro j x H2 hx ⟨E2, hL⟩
      rw [List.getElem?_map] at hx
      cases e : ra[j]? with
      | none => rw [e] at hx; cases hx
      | some b =>
        rw [e] at hx; cases hx
        obtain ⟨g, hg, hgt⟩ := hc1.regs.at_ e
        obtain ⟨xs, hb, hx0⟩ := reg_name hgt
        have hj : j < d.regs.length := (List.getElem?_eq_some_iff.mp hg).1
        refine ⟨rfl, tYes_in ⟨_, rfl, _, _, _, _, rfl, rfl, SqT.of (E2 _ _ hb), atI_nat (j := 0) hx0, _, hL, sz_lt (by rw [List.length_map, List.length_take]; have := W.rlen; simp only [List.length_map]; omega), E2.mut nL2, ?_⟩⟩
        rw [upd_same, List.take_add_one, List.getElem?_map, hg, List.map_append]; rfl
    rintro H2 ⟨E2, hL⟩
    rw [List.length_map, hc1.regs.1, ← List.length_map (f := fun g : RegD => g.name), List.take_length] at hL
    have hil := W.ilen
    have hrl := W.rlen
    have hgl := W.glen
    refine ⟨l1, L2, _, _, rfl, rfl, E2 _ _ h1, hL, sz_of (by rw [List.length_map, List.length_map, List.length_map]; omega), fun l3 n3 => ?_⟩
    rw [← List.map_append]
    have E3 : Ex H2 (upd H2 l3 (.lst ((d.ins ++ d.regs.map (·.name)).map V.str))) := Ex.new n3
    have h3 : upd H2 l3 (.lst ((d.ins ++ d.regs.map (·.name)).map V.str)) l3 = some (.lst ((d.ins ++ d.regs.map (·.name)).map V.str)) := upd_same
    generalize upd H2 l3 (.lst ((d.ins ++ d.regs.map (·.name)).map V.str)) = H3 at *
    have hc3 := hc.te (.of (E1.trans (E2.trans E3)))
    refine ⟨_, rfl, _, _, _, _, rfl, rfl, SqT.of hc3.top, atI_nat (j := 1) rfl, gt, rfl, ⟨_, SqT.of hc3.gts⟩, fun L4 nL4 => wk_tup (K := K) (a := gt) (xs := ga.map V.ref) (fun j H' => Ex H3 H' ∧ H' L4 = some (.lst (((d.gates.map (·.name)).take j).map V.str))) ⟨Ex.new nL4, by rw [upd_same]; rfl⟩ (fun j H' _ g => SqT.of (g.1 _ _ hc3.gts)) ?_ ?_⟩
    · rintro j x H4 hx ⟨E4, hL4⟩
      rw [List.getElem?_map] at hx
      cases e : ga[j]? with
      | none => rw [e] at hx; cases hx
      | some b =>
        rw [e] at hx; cases hx
        obtain ⟨g, hg, hgt⟩ := hc3.gates.at_ e
        obtain ⟨xs, hb, hx0⟩ := gate_name hgt
        have hj : j < d.gates.length := (List.getElem?_eq_some_iff.mp hg).1
        refine ⟨rfl, tYes_in ⟨_, rfl, _, _, _, _, rfl, rfl, SqT.of (E4 _ _ hb), atI_nat (j := 0) hx0, _, hL4, sz_lt (by rw [List.length_map, List.length_take]; omega), E4.mut nL4, ?_⟩⟩
        rw [upd_same, List.take_add_one, List.getElem?_map, hg, List.map_append]; rfl
    rintro H4 ⟨E4, hL4⟩
    rw [List.length_map, hc3.gates.1, ← List.length_map (f := fun g : GateD => g.name), List.take_length] at hL4
    refine ⟨l3, L4, _, _, rfl, rfl, E4 _ _ h3, hL4, sz_of (by rw [List.length_map, List.length_map, List.length_append, List.length_map, List.length_map]; omega), fun l5 n5 => ?_⟩
    have hl5p : l5 ≠ p := ((Px.refl hp).more (E1.trans (E2.trans (E3.trans E4)))).pool.ne n5
    have E5 := (E1.trans (E2.trans (E3.trans E4))).trans (Ex.new (o := .lst ((d.ins ++ d.regs.map (·.name)).map V.str ++ (d.gates.map (·.name)).map V.str)) n5)
    have h5 : upd H4 l5 (.lst ((d.ins ++ d.regs.map (·.name)).map V.str ++ (d.gates.map (·.name)).map V.str)) l5 = some (.lst ((netsD d).map V.str)) := by
      rw [upd_same, ← List.map_append]; rfl
    generalize upd H4 l5 (.lst ((d.ins ++ d.regs.map (·.name)).map V.str ++ (d.gates.map (·.name)).map V.str)) = H5 at *
    intro wa nwa ad nad
    have X5 := (Px.refl hp).more E5
    have X05 := ((Px.refl X5.pool).new (o := .dK []) nwa).new (o := .dT []) nad
    have X5p : ∃ o, H5 p = some o := by
      obtain ⟨_, _, _, _, _, e, _⟩ := (Px.refl X5.pool).was
      exact ⟨_, e⟩
    have hpp : ∀ {b}, H5 b = none → b ≠ p := fun {b} n z => by
      obtain ⟨o, ho⟩ := X5p
      rw [z, ho] at n; cases n
    have hadwa : ad ≠ wa := fun z => by rw [z, upd_same] at nad; cases nad
    have nad5 : H5 ad = none := by rw [upd_ne hadwa] at nad; exact nad
    have hwp := hpp nwa
    have hap := hpp nad5
    have hW0 : hid p (upd (upd H5 wa (.dK [])) ad (.dT [])) wa = some (.dK []) := by rw [hid_ne hwp, upd_ne (fun z => hadwa z.symm), upd_same]
    have hD0 : hid p (upd (upd H5 wa (.dK [])) ad (.dT [])) ad = some (.dT []) := by rw [hid_ne hap, upd_same]
    refine ⟨_, rfl, l5, rfl, ⟨_, SqL.of (Ex.new nad _ _ (Ex.new nwa _ _ h5))⟩, for_list (K := K) (a := l5) (xs := (netsD d).map V.str)
      (fun i σ H' => ∃ rows, WInv p a C wa ad d u H5 H' i rows ∧ ∃ y6 y7 y8 y9 y10 y11 y12 : Option V, σ = [some (.ref p), some (.ref c), some (.int u), some (.ref l5), some (.ref wa), some (.ref ad), y6, y7, y8, y9, y10, y11, y12, none, none])
      ⟨[], ⟨X05, ⟨[], hW0, .nil⟩, ⟨[], hD0, Nat.zero_le _, fun g pin => rfl⟩, Nat.zero_le _, List.nodup_nil, (fun _ h => nomatch h), fun _ h => nomatch h⟩, _, _, _, _, _, _, _, rfl⟩ (fun i σ H' _ g => ?_) ?_ ?_⟩
    · obtain ⟨rows, WI, _⟩ := g
      exact SqL.of (WI.1.at_ (by rw [hid_ne (fun z => by rw [z] at h5; exact hl5p z)]; exact h5))
    · rintro i x σ H8 hx ⟨rows, WI, y6, y7, y8, y9, y10, y11, y12, rfl⟩
      rw [List.getElem?_map] at hx
      cases hnet : (netsD d)[i]? with
      | none => rw [hnet] at hx; cases hx
      | some net =>
        rw [hnet] at hx; cases hx
        refine ⟨_, rfl, p, a, 3, rfl, by decide, by decide, WI.1.pool, fun v1 H9 hv1 X9 k9 => ⟨_, _, rfl, rfl, _, rfl, ite2 (fun e => ?_) (fun e => ⟨rows, (WI.draw X9).next, _, _, _, _, _, _, _, rfl⟩)⟩⟩
        have WI9 := WI.draw X9
        refine ⟨_, rfl, p, a, 5, rfl, by decide, WI9.1.pool, fun Ls as segs H10 X10 nLs hLs hAs hsl hpar hrng hbd => ?_⟩
        have WI10 := WI9.draw X10
        have bdS : ∀ sg ∈ segs, ∀ j, -(2 ^ 64) < pe_ sg.res j ∧ pe_ sg.res j < 2 ^ 64 := fun sg hsg j => by
          have h1 := (hrng sg hsg).1
          have h2 := (hbd sg hsg).1
          match j with
          | 0 => exact ⟨by show _ < sg.res.1; have := h1.1; omega, by show sg.res.1 < _; have := h1.2; omega⟩
          | 1 => exact ⟨by show _ < sg.res.2; have := h1.1; have := h1.2; omega, by show sg.res.2 < _; omega⟩
          | _ + 2 => exact ⟨by show _ < (0 : Int); omega, by show (0 : Int) < _; omega⟩
        intro td ntd
        have htp := WI10.1.pool.ne ntd
        have ntd5 : H5 td = none := WI10.1.free ntd
        have X11 := (Px.refl WI10.1.pool).new (o := .dT []) ntd
        have WI11 := WI10.draw X11
        have htd : hid p (upd H10 td (.dT [])) td = some (.dT []) := by rw [hid_ne htp, upd_same]
        have hLs11 := X11.get hLs
        have hAs11 : All2 (SegAt (upd H10 td (.dT []))) as segs := hAs.imp fun _ _ z => z.ex (Ex.new ntd)
        have tdad : td ≠ ad := fun z => by
          obtain ⟨kk, e1, _⟩ := WI10.2.2.1
          rw [← z, hid_ne htp, ntd] at e1; cases e1
        have tdwa : td ≠ wa := fun z => by
          obtain ⟨kk, e1, _⟩ := WI10.2.1
          rw [← z, hid_ne htp, ntd] at e1; cases e1
        have free10 : hid p H10 td = none := by rw [hid_ne htp]; exact ntd
        generalize upd H10 td (.dT []) = H11 at *
        have hcX : CircAt H11 c d it gt rt ot ga ra oa := (hc.te (.of E5)).te (.px WI11.1)
        refine ⟨_, rfl, _, rfl, c, d, net, it, gt, rt, ot, ga, ra, oa, rfl, hcX, by omega, fun g hg => Nat.le_trans (W.gsm hg).few (by decide), fun Lp ps Hp Ep nLp hLp hPs => ?_⟩
        have Xp := (Px.refl WI11.1.pool).more Ep
        have WIp := WI11.draw Xp
        have hLpp := Xp.seen nLp hLp
        refine ⟨Lp, rfl, ⟨_, SqL.of hLp⟩, for_list (K := K) (a := Lp) (xs := ps.map V.ref)
          (fun j σ H' => Px p a H5 H' ∧ (∀ b o, hid p Hp b = some o → b ≠ td → b ≠ ad → hid p H' b = some o) ∧ (∃ tl : List TapD, hid p H' td = some (.dT (tl.map tapK)) ∧ DelAt (hid p H') ad (tapM u segs (delM u rows) tl) (100 * i + tl.length) ∧ tl.length ≤ j ∧
            ∀ t ∈ tl, (∃ x ∈ (pinsD d net).take j, t.1 = ((x.1 : Int), (x.2 : Int))) ∧ 0 ≤ t.2 ∧ t.2 ≤ segs.length) ∧ ∃ y9 y10 y11 y12 : Option V, σ = [some (.ref p), some (.ref c), some (.int u), some (.ref l5), some (.ref wa), some (.ref ad), some (.str net), some (.ref Ls), some (.ref td), y9, y10, y11, y12, none, none])
          ⟨WIp.1, fun b o h _ _ => h, ⟨[], Xp.get htd, by rw [List.length_nil]; exact WIp.2.2.1, Nat.le_refl _, (fun _ h => nomatch h)⟩, _, _, _, _, rfl⟩ (fun j σ H' _ g => ?_) ?_ ?_⟩
        · refine SqL.of (hid_get (g.2.1 Lp _ hLpp (fun z => ?_) (fun z => ?_)))
          · rw [← z] at htd; exact absurd (hid_get htd) (by rw [nLp]; exact fun z => nomatch z)
          · obtain ⟨kk, e1, _⟩ := WI11.2.2.1
            rw [← z] at e1; exact absurd (hid_get e1) (by rw [nLp]; exact fun z => nomatch z)
        · rintro j y σ H12 hy ⟨X12, FB, ⟨tl, htl, hDl, hlen, hT⟩, y9, y10, y11, y12, rfl⟩
          obtain ⟨pa, hpa, rfl⟩ := refs_get hy
          obtain ⟨pn, hpn, hpt⟩ := hPs.at_ hpa
          have hLs12 := FB Ls _ (Xp.get hLs11) (fun z => by
            have := Xp.get htd
            rw [← z, Xp.get hLs11] at this; cases this) (fun z => by
            obtain ⟨kk, e1, _⟩ := WIp.2.2.1
            rw [← z, Xp.get hLs11] at e1; cases e1)
          have tup12 : ∀ b xs, Hp b = some (.tup xs) → H12 b = some (.tup xs) := fun b xs hb => by
            obtain ⟨_, _, _, _, _, eP, _⟩ := Xp.pool
            have n0 : b ≠ p := ne_of hb eP (by intro z; cases z)
            refine hid_get (FB b _ (by rw [hid_ne n0]; exact hb) (fun z => ?_) (fun z => ?_))
            · have := hid_get (Xp.get htd)
              rw [← z, hb] at this; cases this
            · obtain ⟨kk, e1, _⟩ := WIp.2.2.1
              have := hid_get e1
              rw [← z, hb] at this; cases this
          have hsl' : as.length ≤ 5 := by rw [hAs.1]; exact hsl
          refine ⟨_, rfl, _, rfl, _, _, rfl, .inl (SqL.of (hid_get hLs12)), _, _, rfl, rfl, p, a, as.length + 1, ?_, by omega, by omega, X12.pool, fun v2 H13 hv2 X13 k13 => ?_⟩
          · rw [List.length_map]; rfl
          refine ⟨_, rfl, p, a, 4, rfl, by decide, by decide, X13.pool, fun v3 H14 hv3 X14 k14 => ⟨_, _, rfl, rfl, _, rfl, ite2 (fun e => ?_) (fun e => ?_)⟩⟩
          · have X24 := X13.trans X14
            have FB4 : ∀ b o, hid p Hp b = some o → b ≠ td → b ≠ ad → hid p H14 b = some o := fun b o h n1 n2 => X24.get (FB b o h n1 n2)
            have htl4 := X24.get htl
            have hDl4 := hDl.ex (hidPx X24) (Nat.le_refl _)
            have hLs4 := hid_get (X24.get hLs12)
            have hv2' : v2 ≤ segs.length := by have := hAs.1; omega
            have tup4 : ∀ b xs, Hp b = some (.tup xs) → H14 b = some (.tup xs) := fun b xs hb => TEx.px X24 _ _ (tup12 b xs hb)
            have hseg4 : All2 (SegAt H14) as segs := hAs11.imp fun _ _ ⟨r1, c1, z1, z2, z3⟩ => ⟨r1, c1, tup4 _ _ (Ep _ _ z1), tup4 _ _ (Ep _ _ z2), tup4 _ _ (Ep _ _ z3)⟩
            have hpt4 : H14 pa = some (.tup (([.inl ((pn.1 : Nat) : Int), .inl ((pn.2 : Nat) : Int)] : List _root_.L2.Key).map kV)) := tup4 _ _ hpt
            have hpm : pn ∈ pinsD d net := List.mem_of_getElem? hpn
            have hnew : valV (tl.map tapK) [.inl ((pn.1 : Nat) : Int), .inl ((pn.2 : Nat) : Int)] = none := by
              refine valV_taps fun t ht z => ?_
              obtain ⟨⟨x, hx, ex⟩, _⟩ := hT t ht
              rw [z] at ex
              have e1 := (Prod.mk.inj ex).1
              have e2 := (Prod.mk.inj ex).2
              have exx : x = pn := Prod.ext (by omega) (by omega)
              rw [exx] at hx
              exact nd_take (pinsD_nodup d net) hpn hx
            have hpl : (pinsD d net).length ≤ 60 := Nat.le_trans (pinsU_len d net (fun g hg => Nat.le_trans (W.gsm hg).few (by decide)) _) (by omega)
            have hjl : j < (pinsD d net).length := (List.getElem?_eq_some_iff.mp hpn).1
            have hnl : (netsD d).length ≤ 12 := by
              unfold netsD
              rw [List.length_append, List.length_append, List.length_map, List.length_map]; omega
            have hil' : i < (netsD d).length := (List.getElem?_eq_some_iff.mp hnet).1
            have hjn : tl.length ≤ 10000 := by omega
            refine ⟨_, rfl, _, rfl, _, rfl, td, _, rfl, DPut.t (k := [.inl ((pn.1 : Nat) : Int), .inl ((pn.2 : Nat) : Int)]) (hid_get htl4) hpt4 (sz_lt (by rw [List.length_map]; omega)), ?_⟩
            rw [putK_new _ hnew]
            have h15td : upd H14 td (.dT (tl.map tapK ++ [([.inl ((pn.1 : Nat) : Int), .inl ((pn.2 : Nat) : Int)], .int (v2 : Nat))])) td = some (.dT ((tl ++ [(((pn.1 : Int), (pn.2 : Int)), ((v2 : Nat) : Int))]).map tapK)) := by
              rw [upd_same, List.map_append]; rfl
            have but15 : ∀ b o, H14 b = some o → b ≠ td → upd H14 td (.dT (tl.map tapK ++ [([.inl ((pn.1 : Nat) : Int), .inl ((pn.2 : Nat) : Int)], .int (v2 : Nat))])) b = some o := fun b o h n => by rw [upd_ne n]; exact h
            have X15 : Px p a H5 (upd H14 td (.dT (tl.map tapK ++ [([.inl ((pn.1 : Nat) : Int), .inl ((pn.2 : Nat) : Int)], .int (v2 : Nat))]))) := (X12.trans X24).mut ntd5
            generalize upd H14 td (.dT (tl.map tapK ++ [([.inl ((pn.1 : Nat) : Int), .inl ((pn.2 : Nat) : Int)], .int (v2 : Nat))])) = H15 at *
            have tup5 : ∀ b xs, H14 b = some (.tup xs) → H15 b = some (.tup xs) := fun b xs hb => but15 b _ hb (fun z => by
              rw [z, hid_get htl4] at hb; cases hb)
            have hLs5 : H15 Ls = some (.lst (as.map V.ref)) := but15 _ _ hLs4 (fun z => by rw [z, hid_get htl4] at hLs4; cases hLs4)
            have hseg5 : All2 (SegAt H15) as segs := hseg4.imp fun _ _ ⟨r1, c1, z1, z2, z3⟩ => ⟨r1, c1, tup5 _ _ z1, tup5 _ _ z2, tup5 _ _ z3⟩
            refine ⟨_, rfl, _, rfl, _, rfl, Ls, rfl, ⟨_, SqL.of hLs5⟩, fun La nLa => wk_list (K := K) (a := Ls) (xs := as.map V.ref) (fun k H' => Ex H15 H' ∧ H' La = some (.lst ((((segs.map (·.res)).map fun r => pe_ r 0).take k).map V.int))) ⟨Ex.new nLa, by rw [upd_same]; rfl⟩ (fun k H' _ g => SqL.of (g.1 _ _ hLs5)) ?_ ?_⟩
            · rintro k y Hq hy ⟨Eq, hL⟩
              obtain ⟨sga, hsa, rfl⟩ := refs_get hy
              obtain ⟨sg, hsg, rr, cc, hs1, hs2, hs3⟩ := hseg5.at_ hsa
              refine ⟨rfl, tYes_in ⟨_, rfl, _, _, _, _, rfl, rfl, SqT.of (Eq _ _ hs1), atI_nat (j := 1) rfl, _, _, _, _, rfl, rfl, SqT.of (Eq _ _ hs2), atI_nat (j := 0) rfl, _, hL, sz_lt (by rw [List.length_map, List.length_take, List.length_map, List.length_map]; omega), Eq.mut nLa, ?_⟩⟩
              rw [upd_same, List.take_add_one, List.getElem?_map, List.getElem?_map, hsg, List.map_append]; rfl
            rintro H16 ⟨E16, hLa⟩
            rw [List.take_of_length_le (by rw [List.length_map, List.length_map, List.length_map, hAs.1]; exact Nat.le_refl _)] at hLa
            have hLs6 := E16 _ _ hLs5
            have hseg6 : All2 (SegAt H16) as segs := hseg5.imp fun _ _ z => z.ex E16
            refine ⟨_, rfl, Ls, rfl, ⟨_, SqL.of hLs6⟩, fun Lb nLb => wk_list (K := K) (a := Ls) (xs := as.map V.ref) (fun k H' => Ex H16 H' ∧ H' Lb = some (.lst ((((segs.map (·.cap)).map fun r => pe_ r 0).take k).map V.int))) ⟨Ex.new nLb, by rw [upd_same]; rfl⟩ (fun k H' _ g => SqL.of (g.1 _ _ hLs6)) ?_ ?_⟩
            · rintro k y Hq hy ⟨Eq, hL⟩
              obtain ⟨sga, hsa, rfl⟩ := refs_get hy
              obtain ⟨sg, hsg, rr, cc, hs1, hs2, hs3⟩ := hseg6.at_ hsa
              refine ⟨rfl, tYes_in ⟨_, rfl, _, _, _, _, rfl, rfl, SqT.of (Eq _ _ hs1), atI_nat (j := 2) rfl, _, _, _, _, rfl, rfl, SqT.of (Eq _ _ hs3), atI_nat (j := 0) rfl, _, hL, sz_lt (by rw [List.length_map, List.length_take, List.length_map, List.length_map]; omega), Eq.mut nLb, ?_⟩⟩
              rw [upd_same, List.take_add_one, List.getElem?_map, List.getElem?_map, hsg, List.map_append]; rfl
            rintro H17 ⟨E17, hLb⟩
            rw [List.take_of_length_le (by rw [List.length_map, List.length_map, List.length_map, hAs.1]; exact Nat.le_refl _)] at hLb
            have hLs7 := E17 _ _ hLs6
            have hseg7 : All2 (SegAt H17) as segs := hseg6.imp fun _ _ z => z.ex E17
            have bnd : ∀ j, ∀ x ∈ ((segs.map (·.res)).map fun r => pe_ r j), -(2 ^ 64) < x ∧ x < 2 ^ 64 := fun j x hx => by
              obtain ⟨r, hr, rfl⟩ := List.mem_map.mp hx
              obtain ⟨sg, hsg, rfl⟩ := List.mem_map.mp hr
              exact bdS sg hsg j
            have fln : ∀ j, ((segs.map (·.res)).map fun r => pe_ r j).length = segs.length := fun j => by rw [List.length_map, List.length_map]
            have cln : ∀ j, ((segs.map (·.cap)).map fun r => pe_ r j).length = segs.length := fun j => by rw [List.length_map, List.length_map]
            refine ⟨Ls, as, segs, v2, La, Lb, _, _, rfl, hLs7, hseg7, hpar, by omega, hv2', E17 _ _ hLa, hLb, bnd 0, fln 0, cln 0, fun H18 E18 => ?_⟩
            have hLs8 := E18 _ _ hLs7
            have hseg8 : All2 (SegAt H18) as segs := hseg7.imp fun _ _ z => z.ex E18
            refine ⟨_, rfl, _, rfl, _, rfl, Ls, rfl, ⟨_, SqL.of hLs8⟩, fun Lc nLc => wk_list (K := K) (a := Ls) (xs := as.map V.ref) (fun k H' => Ex H18 H' ∧ H' Lc = some (.lst ((((segs.map (·.res)).map fun r => pe_ r 1).take k).map V.int))) ⟨Ex.new nLc, by rw [upd_same]; rfl⟩ (fun k H' _ g => SqL.of (g.1 _ _ hLs8)) ?_ ?_⟩
            · rintro k y Hq hy ⟨Eq, hL⟩
              obtain ⟨sga, hsa, rfl⟩ := refs_get hy
              obtain ⟨sg, hsg, rr, cc, hs1, hs2, hs3⟩ := hseg8.at_ hsa
              refine ⟨rfl, tYes_in ⟨_, rfl, _, _, _, _, rfl, rfl, SqT.of (Eq _ _ hs1), atI_nat (j := 1) rfl, _, _, _, _, rfl, rfl, SqT.of (Eq _ _ hs2), atI_nat (j := 1) rfl, _, hL, sz_lt (by rw [List.length_map, List.length_take, List.length_map, List.length_map]; omega), Eq.mut nLc, ?_⟩⟩
              rw [upd_same, List.take_add_one, List.getElem?_map, List.getElem?_map, hsg, List.map_append]; rfl
            rintro H19 ⟨E19, hLc⟩
            rw [List.take_of_length_le (by rw [List.length_map, List.length_map, List.length_map, hAs.1]; exact Nat.le_refl _)] at hLc
            have hLs9 := E19 _ _ hLs8
            have hseg9 : All2 (SegAt H19) as segs := hseg8.imp fun _ _ z => z.ex E19
            refine ⟨_, rfl, Ls, rfl, ⟨_, SqL.of hLs9⟩, fun Ld nLd => wk_list (K := K) (a := Ls) (xs := as.map V.ref) (fun k H' => Ex H19 H' ∧ H' Ld = some (.lst ((((segs.map (·.cap)).map fun r => pe_ r 1).take k).map V.int))) ⟨Ex.new nLd, by rw [upd_same]; rfl⟩ (fun k H' _ g => SqL.of (g.1 _ _ hLs9)) ?_ ?_⟩
            · rintro k y Hq hy ⟨Eq, hL⟩
              obtain ⟨sga, hsa, rfl⟩ := refs_get hy
              obtain ⟨sg, hsg, rr, cc, hs1, hs2, hs3⟩ := hseg9.at_ hsa
              refine ⟨rfl, tYes_in ⟨_, rfl, _, _, _, _, rfl, rfl, SqT.of (Eq _ _ hs1), atI_nat (j := 2) rfl, _, _, _, _, rfl, rfl, SqT.of (Eq _ _ hs3), atI_nat (j := 1) rfl, _, hL, sz_lt (by rw [List.length_map, List.length_take, List.length_map, List.length_map]; omega), Eq.mut nLd, ?_⟩⟩
              rw [upd_same, List.take_add_one, List.getElem?_map, List.getElem?_map, hsg, List.map_append]; rfl
            rintro H20 ⟨E20, hLd⟩
            rw [List.take_of_length_le (by rw [List.length_map, List.length_map, List.length_map, hAs.1]; exact Nat.le_refl _)] at hLd
            refine ⟨Ls, as, segs, v2, Lc, Ld, _, _, rfl, E20 _ _ hLs9, hseg9.imp fun _ _ z => z.ex E20, hpar, by omega, hv2', E20 _ _ hLc, hLd, bnd 1, fln 1, cln 1, fun H21 E21 => ?_⟩
            have E5s := ((((E16.trans E17).trans E18).trans E19).trans E20).trans E21
            have hdiv : CDivW 0 u := ⟨by omega, log2_small (by omega) (by omega)⟩
            refine ⟨_, rfl, _, rfl, _, _, rfl, rfl, hdiv, _, rfl, _, rfl, _, _, rfl, rfl, _, _, rfl, rfl, _, rfl, _, _, rfl, rfl, hdiv, (by show 2 ≤ sizeLine; decide), fun tt ntt => ?_⟩
            obtain ⟨ks, hk1, hk2, hk3⟩ := hDl4
            have had15 : H15 ad = some (.dT ks) := but15 _ _ (hid_get hk1) (fun z => tdad z.symm)
            have eAll := E5s.trans (Ex.new (o := .tup [.int (delayV segs ((segs.map (·.res)).map fun r => pe_ r 0) ((segs.map (·.cap)).map fun r => pe_ r 0) v2 / u), .int ((delayV segs ((segs.map (·.res)).map fun r => pe_ r 1) ((segs.map (·.cap)).map fun r => pe_ r 1) v2 + u - 1) / u)]) ntt)
            have htt : upd H21 tt (.tup [.int (delayV segs ((segs.map (·.res)).map fun r => pe_ r 0) ((segs.map (·.cap)).map fun r => pe_ r 0) v2 / u), .int ((delayV segs ((segs.map (·.res)).map fun r => pe_ r 1) ((segs.map (·.cap)).map fun r => pe_ r 1) v2 + u - 1) / u)]) tt = some (.tup [.int (rngV u segs ((v2 : Nat) : Int)).1, .int (rngV u segs ((v2 : Nat) : Int)).2]) := by
              rw [upd_same, ceil_eq (by omega)]
              unfold rngV endV
              rw [Int.toNat_natCast]
            have X22 := ((X15.more E5s).new (o := .tup [.int (delayV segs ((segs.map (·.res)).map fun r => pe_ r 0) ((segs.map (·.cap)).map fun r => pe_ r 0) v2 / u), .int ((delayV segs ((segs.map (·.res)).map fun r => pe_ r 1) ((segs.map (·.cap)).map fun r => pe_ r 1) v2 + u - 1) / u)]) ntt)
            refine ⟨_, rfl, _, rfl, ad, _, rfl, DPut.t (k := [.inl ((pn.1 : Nat) : Int), .inl ((pn.2 : Nat) : Int)]) (eAll _ _ had15) (eAll _ _ (tup5 _ _ hpt4)) (sz_lt (by omega)), ?_⟩
            generalize upd H21 tt (.tup [.int (delayV segs ((segs.map (·.res)).map fun r => pe_ r 0) ((segs.map (·.cap)).map fun r => pe_ r 0) v2 / u), .int ((delayV segs ((segs.map (·.res)).map fun r => pe_ r 1) ((segs.map (·.cap)).map fun r => pe_ r 1) v2 + u - 1) / u)]) = H22 at *
            have had22 := eAll _ _ had15
            have keep : ∀ b o, H15 b = some o → b ≠ p → b ≠ ad → hid p (upd H22 ad (.dT (putK ks [.inl ((pn.1 : Nat) : Int), .inl ((pn.2 : Nat) : Int)] (.ref tt)))) b = some o := fun b o h n1 n2 => by
              rw [hid_ne n1, upd_ne n2]; exact eAll _ _ h
            have ttad : tt ≠ ad := fun z => by rw [z, had22] at htt; cases htt
            have ttp : tt ≠ p := fun z => by
              obtain ⟨_, _, _, _, _, eP, _⟩ := X22.pool
              rw [z, eP] at htt; cases htt
            refine ⟨X22.mut nad5, fun b o h n1 n2 => ?_, ⟨tl ++ [(((pn.1 : Int), (pn.2 : Int)), ((v2 : Nat) : Int))], keep _ _ h15td htp tdad, ?_, ?_, ?_⟩, _, _, _, _, rfl⟩
            · have h' := FB4 b o h n1 n2
              have np : b ≠ p := fun z => by rw [z, hid_self] at h'; cases h'
              exact keep _ _ (but15 _ _ (hid_get h') n1) np n2
            · have et : tapM u segs (delM u rows) (tl ++ [(((pn.1 : Int), (pn.2 : Int)), ((v2 : Nat) : Int))]) = putM (tapM u segs (delM u rows) tl) ((pn.1 : Int), (pn.2 : Int)) (rngV u segs ((v2 : Nat) : Int)) := by
                unfold tapM
                rw [List.foldl_append]; rfl
              rw [et, List.length_append, List.length_singleton, ← Nat.add_assoc]
              refine del_put hk2 hk3 (fun b xs hb => ?_) (by rw [hid_ne hap, upd_same]) ?_
              · have np : b ≠ p := fun z => by rw [z, hid_self] at hb; cases hb
                exact keep _ _ (tup5 _ _ (hid_get hb)) np (fun z => by rw [z, hk1] at hb; cases hb)
              · show hid p _ tt = _
                rw [hid_ne ttp, upd_ne ttad]; exact htt
            · rw [List.length_append, List.length_singleton]; omega
            · intro t ht
              rcases List.mem_append.mp ht with z | z
              · obtain ⟨⟨x, hx, ex⟩, h2⟩ := hT t z
                exact ⟨⟨x, by rw [List.take_add_one]; exact List.mem_append_left _ hx, ex⟩, h2⟩
              · rw [List.mem_singleton.mp z]
                exact ⟨⟨pn, by rw [take_snoc1 hpn]; exact List.mem_append_right _ (List.mem_singleton.mpr rfl), rfl⟩, by omega, by show ((v2 : Nat) : Int) ≤ _; omega⟩
          · have X24 := X13.trans X14
            refine ⟨X12.trans X24, fun b o h n1 n2 => X24.get (FB b o h n1 n2), ⟨tl, X24.get htl, hDl.ex (hidPx X24) (Nat.le_refl _), by omega, fun t ht => ⟨?_, (hT t ht).2⟩⟩, _, _, _, _, rfl⟩
            obtain ⟨x, hx, ex⟩ := (hT t ht).1
            exact ⟨x, by rw [List.take_add_one]; exact List.mem_append_left _ hx, ex⟩
        · rintro σ H12 ⟨X12, FB, ⟨tl, htl, hDl, hlen, hT⟩, y9, y10, y11, y12, rfl⟩
          rw [List.length_map, hPs.1] at hlen
          obtain ⟨_, ⟨kvs, hk1, hkA⟩, ⟨ks0, hks0, _⟩, hrl10, hnd10, hok10, hgd10⟩ := WI10
          have FB10 : ∀ b o, hid p H10 b = some o → b ≠ ad → H12 b = some o := fun b o h n => hid_get (FB b o (Xp.get (X11.get h)) (fun z => by rw [z, free10] at h; cases h) n)
          have hpl : (pinsD d net).length ≤ 60 := Nat.le_trans (pinsU_len d net (fun g hg => Nat.le_trans (W.gsm hg).few (by decide)) _) (by omega)
          have hLs12 := FB10 Ls _ hLs (fun z => by rw [← z, hLs] at hks0; cases hks0)
          have hseg12 : All2 (SegAt H12) as segs := hAs.imp fun _ _ ⟨r1, c1, z1, z2, z3⟩ => by
            have tp : ∀ b xs, H10 b = some (.tup xs) → H12 b = some (.tup xs) := fun b xs hb => by
              obtain ⟨_, _, _, _, _, eP, _⟩ := X11.was
              have n0 : b ≠ p := ne_of hb eP (by intro z; cases z)
              exact FB10 b _ (by rw [hid_ne n0]; exact hb) (fun z => by rw [← z, hid_ne n0, hb] at hks0; cases hks0)
            exact ⟨r1, c1, tp _ _ z1, tp _ _ z2, tp _ _ z3⟩
          have hnm : net ∈ netsD d := List.mem_of_getElem? hnet
          have hnl : (netsD d).length ≤ 12 := by
            unfold netsD
            rw [List.length_append, List.length_append, List.length_map, List.length_map]; omega
          have hil' : i < (netsD d).length := (List.getElem?_eq_some_iff.mp hnet).1
          refine ⟨_, rfl, fun x dx nx ndx hne => ?_⟩
          have eM : ∀ {o1 o2 : HO}, Ex H12 (upd (upd H12 dx o1) x o2) := fun {o1 o2} b o h => by
            rw [upd_ne (fun z => by rw [z, nx] at h; cases h), upd_ne (fun z => by rw [z, ndx] at h; cases h)]; exact h
          refine ⟨x, dx, Ls, as, segs, rfl, upd_same, eM _ _ hLs12, hseg12.imp fun _ _ z => z.ex eM, by omega, fun _ _ pp rr cc Hn n1 n2 n3 eb hTr => ?_, fun z => absurd hpar z, fun _ z => absurd hrng z⟩
          have eN : Ex H12 Hn := fun b o h => eb b o (eM b o h) (fun z => by rw [z, nx] at h; cases h)
          obtain ⟨_, _, _, _, _, eP12, _⟩ := X12.pool
          have ppn : ∀ {b}, upd (upd H12 dx (.own x)) x (.ins C dx []) b = none → b ≠ p := fun {b} h z => by
            rw [z, eM _ _ eP12] at h; cases h
          refine ⟨rfl, _, rfl, (by show 2 ≤ sizeLine; decide), fun tw ntw => ?_⟩
          have eT := Ex.new (o := .tup [.ref x, .ref td]) ntw
          have htw : upd Hn tw (.tup [.ref x, .ref td]) tw = some (.tup [.ref x, .ref td]) := upd_same
          have eA := eN.trans eT
          have hTr2 : TreeAt C (upd Hn tw (.tup [.ref x, .ref td])) x pp rr cc segs := hTr.ex eT
          have htwp : tw ≠ p := fun z => by rw [z, eN _ _ eP12] at ntw; cases ntw
          have XZ : Px p a H5 (upd Hn tw (.tup [.ref x, .ref td])) := X12.more eA
          generalize upd Hn tw (.tup [.ref x, .ref td]) = HZ at *
          have hwaZ : HZ wa = some (.dK kvs) := eA _ _ (FB10 wa _ hk1 (fun z => hadwa z.symm))
          have hkl : kvs.length = rows.length := hkA.1
          refine ⟨_, rfl, _, rfl, wa, _, rfl, DPut.k (k := Sum.inr net) hwaZ (sz_lt (by omega)), ?_⟩
          have hno : valV kvs (Sum.inr net) = none := valV_no fun q hq z => by
            obtain ⟨k, hk⟩ := List.getElem?_of_mem hq
            obtain ⟨r, hr, b, e1, _⟩ := hkA.at_ hk
            rw [e1] at z
            have z := Sum.inr.inj z
            have := (hok10 r (List.mem_of_getElem? hr)).2
            rw [z] at this
            exact nd_take (netsD_nodup W (by decide)) hnet this
          rw [putK_new _ hno]
          have nwa5 : H5 wa = none := nwa
          have XF := XZ.mut (o := .dK (kvs ++ [(Sum.inr net, .ref tw)])) nwa5
          have mv : ∀ b o, HZ b = some o → b ≠ p → b ≠ wa → hid p (upd HZ wa (.dK (kvs ++ [(Sum.inr net, .ref tw)]))) b = some o := fun b o h m1 m2 => by
            rw [hid_ne m1, upd_ne m2]; exact h
          have kp : ∀ b o, hid p H10 b = some o → b ≠ ad → b ≠ wa → hid p (upd HZ wa (.dK (kvs ++ [(Sum.inr net, .ref tw)]))) b = some o := fun b o h m1 m2 =>
            mv b o (eA _ _ (FB10 b o h m1)) (fun z => by rw [z, hid_self] at h; cases h) m2
          have kd : KD (hid p H10) (hid p (upd HZ wa (.dK (kvs ++ [(Sum.inr net, .ref tw)])))) := fun b o h m1 m2 =>
            kp b o h (fun z => by rw [z, hks0] at h; cases h; exact m2 _ rfl) (fun z => by rw [z, hk1] at h; cases h; exact m1 _ rfl)
          have notp : ∀ {b o}, HZ b = some o → (∀ l, o ≠ .lst l) → b ≠ p := fun {b o} h m z => by
            rw [z, eA _ _ eP12] at h; cases h; exact m _ rfl
          have notw : ∀ {b o}, HZ b = some o → (∀ l, o ≠ .dK l) → b ≠ wa := fun {b o} h m z => by
            rw [z, hwaZ] at h; cases h; exact m _ rfl
          have hdZ : HZ td = some (.dT (tl.map tapK)) := eA _ _ (hid_get htl)
          have hTF : TreeAt C (hid p (upd HZ wa (.dK (kvs ++ [(Sum.inr net, .ref tw)])))) x pp rr cc segs := by
            obtain ⟨⟨dx', h1⟩, h2, ⟨rl, h3, h4⟩, ⟨cl, h5', h6⟩⟩ := hTr2
            refine ⟨⟨dx', mv _ _ h1 (notp h1 (fun _ z => nomatch z)) (notw h1 (fun _ z => nomatch z))⟩, mv _ _ h2 (ppn n1) (notw h2 (fun _ z => nomatch z)), ⟨rl, mv _ _ h3 (ppn n2) (notw h3 (fun _ z => nomatch z)), h4.imp fun _ _ z => mv _ _ z (notp z (fun _ z => nomatch z)) (notw z (fun _ z => nomatch z))⟩, ⟨cl, mv _ _ h5' (ppn n3) (notw h5' (fun _ z => nomatch z)), h6.imp fun _ _ z => mv _ _ z (notp z (fun _ z => nomatch z)) (notw z (fun _ z => nomatch z))⟩⟩
          refine ⟨rows ++ [⟨net, segs, tl⟩], ⟨XF, ⟨kvs ++ [(Sum.inr net, .ref tw)], by rw [hid_ne hwp, upd_same], All2.snoc (hkA.imp fun kv r ⟨b, e1, x', p', r', c', t', w1, w2, w3, w4⟩ => ?_) ⟨tw, rfl, x, pp, rr, cc, td, mv _ _ htw htwp (notw htw (fun _ z => nomatch z)), hTF, mv _ _ hdZ htp tdwa, tdad⟩⟩, ?_, ?_, ?_, ?_, ?_⟩, _, _, _, _, _, _, _, rfl⟩
          · exact ⟨b, e1, x', p', r', c', t', kd _ _ w1 (fun _ z => nomatch z) (fun _ z => nomatch z), w2.kd kd, kp _ _ w3 w4 (fun z => by rw [z, hk1] at w3; cases w3), w4⟩
          · have et : delM u (rows ++ [⟨net, segs, tl⟩]) = tapM u segs (delM u rows) tl := by
              unfold delM
              rw [List.foldl_append]; rfl
            rw [et]
            refine hDl.move (fun b xs hb => ?_) (fun l hb => ?_) (by omega)
            · have hz := eA _ _ (hid_get hb)
              exact mv _ _ hz (notp hz (fun _ z => nomatch z)) (notw hz (fun _ z => nomatch z))
            · exact mv _ _ (eA _ _ (hid_get hb)) hap hadwa
          · rw [List.length_append, List.length_singleton]; omega
          · rw [List.map_append]
            refine List.nodup_append.mpr ⟨hnd10, List.nodup_cons.mpr ⟨(fun h => nomatch h), List.nodup_nil⟩, fun y hy z hz e => ?_⟩
            obtain ⟨r, hr, rfl⟩ := List.mem_map.mp hy
            have hz : z = net := List.mem_singleton.mp hz
            have := (hok10 r hr).2
            rw [e, hz] at this
            exact nd_take (netsD_nodup W (by decide)) hnet this
          · intro r hr
            rcases List.mem_append.mp hr with z | z
            · exact ⟨(hok10 r z).1, by
                rw [List.take_add_one]
                exact List.mem_append_left _ (hok10 r z).2⟩
            · rw [List.mem_singleton.mp z]
              exact ⟨⟨hpar, by show segs.length ≤ 100; omega, bdS, by show tl.length ≤ 100; omega, netsD_len W (by decide) hnm⟩, by
                rw [take_snoc1 hnet]
                exact List.mem_append_right _ (List.mem_singleton.mpr rfl)⟩
          · intro r hr t ht
            rcases List.mem_append.mp hr with z | z
            · exact hgd10 r z t ht
            · rw [List.mem_singleton.mp z] at ht ⊢
              obtain ⟨⟨y, hy, ey⟩, h1, h2⟩ := hT t ht
              refine ⟨?_, h1, h2⟩
              have := pinsD_ok (List.mem_of_mem_take hy)
              rw [ey]
              exact this
    · rintro σ H8 ⟨rows, WI, y6, y7, y8, y9, y10, y11, y12, rfl⟩
      rw [List.length_map] at WI
      have hnl : (netsD d).length ≤ 12 := by
        unfold netsD
        rw [List.length_append, List.length_append, List.length_map, List.length_map]; omega
      refine ⟨_, rfl, _, rfl, (by show 2 ≤ sizeLine; decide), fun l nl => ?_⟩
      have XL := (Px.refl WI.1.pool).new (o := .lst [.ref wa, .ref ad]) nl
      have XA := X5.trans WI.1
      have WL := WI.draw XL
      obtain ⟨g1, g2, g3, g4, g5, g6, g7⟩ := WL
      refine q l wa ad rows _ (XA.trans XL) (XA.free nl) (by rw [hid_ne (WI.1.pool.ne nl), upd_same]) g2 (g3.ex (fun _ _ z => z) (by omega)) (by omega) g5 (fun r hr => ⟨(g6 r hr).1, List.mem_of_mem_take (g6 r hr).2⟩) g7
end
end G
namespace G
open PySem PySem.Spec PyProof.Rows L2
/-! ## {k: v} where k is a tuple -/
def tDispT1 (tk tv : TE) : TE := fun σ H Q => ∀ p, H p = none → tk σ (upd H p (.dT [])) fun y H1 => tv σ H1 fun v H2 => H2 p = some (.dT []) ∧ ∃ (k : List L2.Key) (b : Addr), y = .ref b ∧ H2 b = some (.tup (k.map kV)) ∧ Q (.ref p) (upd H2 p (.dT [(k, v)]))
theorem pe_dispT1 {X : Cx} {pos : Pos} {k v : Expr} {tk tv : TE} (hu : X.A.units + 1 < cLine) (hk : PE X k tk) (hv : PE X v tv) : PE X (.Dict [some k] [v] pos) (tDispT1 tk tv) := by
  refine ⟨fun pins s σ H Q I q => ?_⟩
  have hn := I.hok.fresh (Nat.le_refl s.heap.objs.size)
  have I1 := I.laid (a := s.heap.objs.size) (o := .dT []) (h' := s.heap.push { cls := .type "dict", data := .dict #[] }) (t' := s.toks) (fun _ _ q => Heap.get?_push_of_some _ q) (Nat.le_refl _) (dt_empty s.heap I.big)
  have pl := pairTrees_length [some k] [v] X.env pos rfl rfl
  rw [arm_eval_Dict, zip_pairTrees [some k] [v] X.env pos rfl rfl, dictDisplay_pairs (pairTrees [some k] [v] X.env pos) (fun z => by rw [z] at pl; cases pl) (by rw [pl]; exact (by decide : 1 < 17))]
  refine wpAny_bind (wpAny_standAt (wpAny_bind (wpAny_subDictH (knd := tupleKind (mixKind X.prog X.w)) (by show X.A.units < cLine; omega) (by rw [pl]; exact (by decide : 1 ≤ 15)) (pairTrees_cons_walk (thn (hk.run pins _ σ _ _ I1 (q _ hn)) fun u s1 ⟨y, H1, I2, ry, q1⟩ => thn (hv.run pins s1 σ H1 _ I2 q1) fun vv s2 ⟨x, H2, I3, rv, e, kk, b, ey, eb, q2⟩ => pairTrees_nil_walk ?_)))))
  subst ey
  cases (show u = Value.ref b from ry)
  obtain ⟨z, hd, xs, rel, dd⟩ := dt_of I3.hok e
  cases rel
  refine ⟨[(kk, b, vv)], ⟨rfl, rfl, key_of I3.hok eb, trivial⟩, dd, fun h' tk' dd' hs => wpAny_pure ⟨.ref s.heap.objs.size, _, ?_, rfl, q2⟩⟩
  obtain ⟨o, es, ep, hq, h2, h3, h4, h6, h5⟩ := dd'
  have rel' : KT (upd H2 s.heap.objs.size (.dT [(kk, x)])) [(kk, x)] [(kk, b, vv)] := .cons ⟨rfl, by rw [upd_ne (ne_of eb e (fun z => nomatch z))]; exact eb, rv⟩ .nil
  exact d_write I3 (by rw [e]; exact True.intro) hs ⟨o, hq⟩ ⟨by show 1 ≤ sizeLine; decide, hd, _, rel', o, es, ep, hq, h2, h3, h4, h5⟩
end G
namespace G
open PySem PySem.Spec PyProof.Rows L2 Evl TL
/-! ## a row of wires put anew -/
def putR (rows : List WireD) (r : WireD) : List WireD := if (rows.any fun q => decide (q.net = r.net)) = true then rows.map (fun q => if q.net = r.net then r else q) else rows ++ [r]
theorem all2_any {α β : Type} {R : α → β → Prop} {f : α → Bool} {g : β → Bool} : ∀ {as : List α} {bs : List β}, All2 R as bs → (∀ a b, R a b → f a = g b) → as.any f = bs.any g
  | [], [], _, _ => rfl
  | a :: as, [], h, _ => by cases h.1
  | [], b :: bs, h, _ => by cases h.1
  | a :: as, b :: bs, h, e => by
    have h1 : R a b := h.2 0 a b rfl rfl
    have h2 : All2 R as bs := ⟨Nat.succ.inj h.1, fun i x y hx hy => h.2 (i + 1) x y hx hy⟩
    rw [List.any_cons, List.any_cons, e a b h1, all2_any h2 e]
theorem all2_map {α β α' β' : Type} {R : α → β → Prop} {S : α' → β' → Prop} {f : α → α'} {g : β → β'} {as : List α} {bs : List β} (h : All2 R as bs) (e : ∀ a b, R a b → S (f a) (g b)) : All2 S (as.map f) (bs.map g) :=
  ⟨by rw [List.length_map, List.length_map, h.1], fun i x y hx hy => by
    rw [List.getElem?_map] at hx hy
    cases h1 : as[i]? with
    | none => rw [h1] at hx; cases hx
    | some a =>
      cases h2 : bs[i]? with
      | none => rw [h2] at hy; cases hy
      | some b =>
        rw [h1] at hx; rw [h2] at hy
        cases hx; cases hy
        exact e a b (h.2 i a b h1 h2)⟩
theorem put_rows {R : V → WireD → Prop} {kvs : List (L2.Key × V)} {rows : List WireD} {r : WireD} {v : V} (h : All2 (fun kv q => kv.1 = .inr q.net ∧ R kv.2 q) kvs rows) (hr : R v r) :
    All2 (fun kv q => kv.1 = .inr q.net ∧ R kv.2 q) (putK kvs (Sum.inr r.net) v) (putR rows r) := by
  have hany : (kvs.any fun kv => decide (kv.1 = Sum.inr r.net)) = rows.any fun q => decide (q.net = r.net) := all2_any h fun kv q z => by
    rw [decide_eq_decide, z.1]
    exact ⟨fun e => Sum.inr.inj e, fun e => by rw [e]⟩
  unfold putK putR
  rw [hany]
  by_cases c : (rows.any fun q => decide (q.net = r.net)) = true
  · rw [if_pos c, if_pos c]
    refine all2_map h fun kv q z => ?_
    by_cases e : q.net = r.net
    · rw [if_pos e, if_pos (by rw [z.1, e])]
      exact ⟨by rw [z.1, e], hr⟩
    · rw [if_neg e, if_neg (by rw [z.1]; exact fun z => e (Sum.inr.inj z))]
      exact z
  · rw [if_neg c, if_neg c]
    exact All2.snoc h ⟨rfl, hr⟩
theorem putR_mem {rows : List WireD} {r q : WireD} (h : q ∈ putR rows r) : q = r ∨ q ∈ rows := by
  unfold putR at h
  split at h
  · obtain ⟨x, hx, rfl⟩ := List.mem_map.mp h
    by_cases e : x.net = r.net
    · rw [if_pos e]; exact .inl rfl
    · rw [if_neg e]; exact .inr hx
  · rcases List.mem_append.mp h with z | z
    · exact .inr z
    · exact .inl (List.mem_singleton.mp z)
theorem putR_has (rows : List WireD) (r : WireD) : r ∈ putR rows r := by
  unfold putR
  split
  · rename_i c
    obtain ⟨x, hx, e⟩ := List.any_eq_true.mp c
    exact List.mem_map.mpr ⟨x, hx, if_pos (of_decide_eq_true e)⟩
  · exact List.mem_append_right _ (List.mem_singleton.mpr rfl)
theorem putR_len (rows : List WireD) (r : WireD) : (putR rows r).length ≤ rows.length + 1 := by
  unfold putR
  split
  · rw [List.length_map]; omega
  · rw [List.length_append, List.length_singleton]; exact Nat.le_refl _
end G
namespace G
open PySem PySem.Spec PyProof.Rows L2 Evl TL
theorem valV_at {kvs : List (L2.Key × V)} (nd : (kvs.map (·.1)).Nodup) {i : Nat} {k : L2.Key} {v : V} (h : kvs[i]? = some (k, v)) : valV kvs k = some v := by
  induction kvs generalizing i with
  | nil => cases h
  | cons q l ih =>
    rw [List.map_cons, List.nodup_cons] at nd
    cases i with
    | zero => cases h; exact valV_pos rfl
    | succ i =>
      have h : l[i]? = some (k, v) := h
      rw [valV_neg (fun z => nd.1 (by rw [z]; exact List.mem_map.mpr ⟨_, List.mem_of_getElem? h, rfl⟩))]
      exact ih nd.2 h
theorem nd_keys {kvs : List (L2.Key × V)} (nd : (kvs.map (·.1)).Nodup) {i : Nat} {k : L2.Key} {v : V} (h : kvs[i]? = some (k, v)) (q : L2.Key × V) (hq : q ∈ kvs.take i) (z : q.1 = k) : False := by
  have h2 : (kvs.map (·.1))[i]? = some k := by rw [List.getElem?_map, h]; rfl
  refine nd_take nd h2 ?_
  rw [← List.map_take]
  exact List.mem_map.mpr ⟨q, hq, z⟩
theorem kv_nd {C : Addr} {H : Hp} {kvs : List (L2.Key × V)} {rows : List WireD} (h : All2 (fun kv r => ∃ a, kv = (Sum.inr r.net, V.ref a) ∧ WireAt C H a r) kvs rows) (nd : (rows.map (·.net)).Nodup) : (kvs.map (·.1)).Nodup := by
  have e : kvs.map (·.1) = (rows.map (·.net)).map Sum.inr := by
    refine List.ext_getElem? fun i => ?_
    rw [List.getElem?_map, List.getElem?_map, List.getElem?_map]
    cases h1 : kvs[i]? with
    | none =>
      rw [List.getElem?_eq_none_iff] at h1
      rw [List.getElem?_eq_none (by have := h.1; omega)]; rfl
    | some kv =>
      obtain ⟨r, h2, a, h3, _⟩ := h.at_ h1
      rw [h2, h3]; rfl
  rw [e]
  exact List.Pairwise.map _ (fun a b hn z => hn (Sum.inr.inj z)) nd
theorem WireAt.ex {C a : Addr} {H H' : Hp} {wd : WireD} (e : Ex H H') (h : WireAt C H a wd) : WireAt C H' a wd := by
  obtain ⟨x, p, r, c, t, h1, h2, h3⟩ := h
  exact ⟨x, p, r, c, t, e _ _ h1, h2.ex e, e _ _ h3⟩
theorem WiresAt.ex {C wa : Addr} {H H' : Hp} {rows : List WireD} (e : Ex H H') (h : WiresAt C H wa rows) : WiresAt C H' wa rows := by
  obtain ⟨kvs, h1, h2⟩ := h
  exact ⟨kvs, e _ _ h1, h2.imp fun _ _ ⟨a, z1, z2⟩ => ⟨a, z1, z2.ex e⟩⟩
theorem WireAt.but {C a w : Addr} {H H' : Hp} {wd : WireD} {l : List (L2.Key × V)} (e : But1 w H H') (h : H w = some (.dK l)) (q : WireAt C H a wd) : WireAt C H' a wd := by
  obtain ⟨x, p, r, c, t, h1, h2, h3⟩ := q
  have kd := e.kd h
  exact ⟨x, p, r, c, t, kd _ _ h1 (fun _ z => nomatch z) (fun _ z => nomatch z), h2.kd kd, e _ _ h3 (fun z => by rw [z, h] at h3; cases h3)⟩
theorem TreeAt.hid30 {p C x pp rr cc : Addr} {H : Hp} {segs : List SegD} (h : TreeAt C H x pp rr cc segs) {l0 : List V} (hp : H p = some (.lst l0)) (n1 : pp ≠ p) (n2 : rr ≠ p) (n3 : cc ≠ p) : TreeAt C (hid p H) x pp rr cc segs := by
  obtain ⟨⟨dx, h1⟩, h2, ⟨rl, h3, h4⟩, ⟨cl, h5, h6⟩⟩ := h
  have np : ∀ {b o}, H b = some o → (∀ l, o ≠ .lst l) → hid p H b = some o := fun {b o} hb m => by
    rw [hid_ne (fun z => by rw [z, hp] at hb; cases hb; exact m _ rfl)]; exact hb
  exact ⟨⟨dx, np h1 (fun _ z => nomatch z)⟩, by rw [hid_ne n1]; exact h2, ⟨rl, by rw [hid_ne n2]; exact h3, h4.imp fun _ _ z => np z (fun _ z => nomatch z)⟩, ⟨cl, by rw [hid_ne n3]; exact h5, h6.imp fun _ _ z => np z (fun _ z => nomatch z)⟩⟩
def WAP (C : Addr) (H : Hp) (v : V) (q : WireD) : Prop := ∃ a, v = .ref a ∧ WireAt C H a q
/-- the dict that is spoilt, as it stands -/
def BadP (p a C bd : Addr) (H H' : Hp) (rows : List WireD) : Prop := Px p a H H' ∧ ∃ l : List (L2.Key × V), hid p H' bd = some (.dK l) ∧ All2 (fun kv q => kv.1 = .inr q.net ∧ WAP C (hid p H') kv.2 q) l rows
theorem BadP.px {p a C bd : Addr} {H H' H'' : Hp} {rows : List WireD} (h : BadP p a C bd H H' rows) (x : Px p a H' H'') : BadP p a C bd H H'' rows := by
  obtain ⟨h1, l, h2, h3⟩ := h
  exact ⟨h1.trans x, l, x.get h2, h3.imp fun _ _ ⟨z1, b, z2, z3⟩ => ⟨z1, b, z2, z3.ex x.ex⟩⟩
theorem BadP.put {p a C bd tb : Addr} {H H' : Hp} {rows : List WireD} {r : WireD} {l : List (L2.Key × V)} (nbd : H bd = none) (h : BadP p a C bd H H' rows) (hl : H' bd = some (.dK l)) (hr : WireAt C (hid p H') tb r) :
    BadP p a C bd H (upd H' bd (.dK (putK l (Sum.inr r.net) (.ref tb)))) (putR rows r) := by
  obtain ⟨h1, l', h2, h3⟩ := h
  have np := h1.was.ne nbd
  have e : l' = l := by
    have := hid_get h2
    rw [hl] at this
    cases this; rfl
  subst e
  have bt : But1 bd (hid p H') (hid p (upd H' bd (.dK (putK l' (Sum.inr r.net) (.ref tb))))) := fun b o hb n => by
    have n2 : b ≠ p := fun z => by rw [z, hid_self] at hb; cases hb
    rw [hid_ne n2] at hb ⊢
    rw [upd_ne n]; exact hb
  refine ⟨h1.mut nbd, _, by rw [hid_ne np, upd_same], ?_⟩
  have := put_rows (R := WAP C (hid p H')) (r := r) (v := .ref tb) h3 ⟨tb, rfl, hr⟩
  exact this.imp fun _ _ ⟨z1, b, z2, z3⟩ => ⟨z1, b, z2, z3.but bt h2⟩
theorem BadP.wires {p a C bd : Addr} {H H' : Hp} {rows : List WireD} (h : BadP p a C bd H H' rows) : WiresAt C H' bd rows := by
  obtain ⟨h1, l, h2, h3⟩ := h
  exact ⟨l, hid_get h2, h3.imp fun kv q ⟨z1, b, z2, z3⟩ => ⟨b, by rw [← z1, ← z2], z3.ex hid_le⟩⟩
theorem shaped_bls30 (l : List Bool) : SeqAt.shaped (.list (l.map PyData.bool)) = true := by
  have : PyData.canLayAll0 (l.map PyData.bool) = true ∧ PyData.depthAll (l.map PyData.bool) = 0 := by
    induction l with
    | nil => exact ⟨rfl, rfl⟩
    | cons x xs ih => exact ⟨by show (true && PyData.canLayAll0 _) = true; rw [ih.1]; rfl, by show max 0 (PyData.depthAll _) = 0; rw [ih.2]; rfl⟩
  simp [SeqAt.shaped, PyData.canLay0, PyData.depth, this.1, this.2]
theorem dp_bls30 {K : PySem.W.Frag} {H : Hp} {a : Addr} {l : List Bool} (h : H a = some (.lst (l.map V.bl))) : Dp K H (.ref a) (.list (l.map PyData.bool)) := .lst (SqL.of h) (dpAll_map (fun x => .bl x) l)
theorem shaped_pairs30 (Ps : List (Nat × Nat)) : SeqAt.shaped (.list (Ps.map fun p => .tuple [.int (p.1 : Nat), .int (p.2 : Nat)])) = true := by
  have : PyData.canLayAll0 (Ps.map fun p => .tuple [.int (p.1 : Nat), .int (p.2 : Nat)]) = true ∧ PyData.depthAll (Ps.map fun p => .tuple [.int (p.1 : Nat), .int (p.2 : Nat)]) ≤ 1 := by
    induction Ps with
    | nil => exact ⟨rfl, Nat.zero_le _⟩
    | cons x xs ih => exact ⟨by show (true && PyData.canLayAll0 _) = true; rw [ih.1]; rfl, by show max 1 (PyData.depthAll _) ≤ 1; have := ih.2; omega⟩
  have h2 := this.2
  simp [SeqAt.shaped, PyData.canLay0, PyData.depth, this.1]
  omega
theorem dp_pairs30 {K : PySem.W.Frag} {H : Hp} : ∀ {as : List Addr} {Ps : List (Nat × Nat)}, All2 (NatsAt H) as Ps → DpAll K H (as.map V.ref) (Ps.map fun p => .tuple [.int (p.1 : Nat), .int (p.2 : Nat)])
  | [], [], _ => .nil
  | [], _ :: _, h => nomatch h.1
  | _ :: _, [], h => nomatch h.1
  | a :: r, p :: Ps, h => .cons (.tup (SqT.of (h.2 0 a p rfl rfl)) (.cons (.int _) (.cons (.int _) .nil))) (dp_pairs30 ⟨Nat.succ.inj h.1, fun i x y h1 h2 => h.2 (i + 1) x y h1 h2⟩)
theorem one30 (j : Nat) : -(2 ^ 64) < pe_ (1, 1) j ∧ pe_ (1, 1) j < 2 ^ 64 := by
  match j with
  | 0 => exact (by decide : -(2 ^ 64) < (1 : Int) ∧ (1 : Int) < 2 ^ 64)
  | 1 => exact (by decide : -(2 ^ 64) < (1 : Int) ∧ (1 : Int) < 2 ^ 64)
  | n + 2 => exact (by decide : -(2 ^ 64) < (0 : Int) ∧ (0 : Int) < 2 ^ 64)
theorem i0_len : ("i0" : Str).length ≤ 1000 := by decide
theorem nw_len : ("nowhere" : Str).length ≤ 1000 := by decide
theorem if_join {b : Bool} {A : Prop} {N : Hp → Prop} {H : Hp} (I : Hp → Prop) (tail : ∀ H', I H' → N H') (h0 : b = false → I H) (h1 : b = true → (∀ H', I H' → N H') → A) : if b = true then A else N H := by
  cases b with
  | true => exact iteT (h1 rfl tail)
  | false => exact iteF (tail H (h0 rfl))
theorem BadP.kvs {p a C bd : Addr} {H H' : Hp} {rows : List WireD} (h : BadP p a C bd H H' rows) : ∃ l : List (L2.Key × V), H' bd = some (.dK l) ∧ l.length = rows.length := by
  obtain ⟨h1, l, h2, h3⟩ := h
  exact ⟨l, hid_get h2, h3.1⟩
theorem nowhere_no : ∀ c ∈ (["i", "r", "g", "p"] : List Str), ∀ k, k < 20 → nm c k ≠ "nowhere" := by decide +kernel
theorem nms_no {c : Str} {n : Nat} (hc : c ∈ (["i", "r", "g", "p"] : List Str)) (hn : n ≤ 20) : ("nowhere" : Str) ∉ (List.range n).map (nm c) := fun h => by
  obtain ⟨k, hk, e⟩ := List.mem_map.mp h
  exact nowhere_no c hc k (by have := List.mem_range.mp hk; omega) e
theorem nowhere_not {most : Nat} {d : CircD} {Gs : List GateD} (W : CircWf most d Gs) (hm : most ≤ 6) : ("nowhere" : Str) ∉ namesD d := fun h => by
  unfold namesD at h
  rcases List.mem_append.mp h with z | z
  · rcases List.mem_append.mp z with z | z
    · obtain ⟨n, _, h2, e⟩ := W.ins
      rw [e] at z
      exact nms_no nmi_str (by omega) z
    · obtain ⟨g, hg, e⟩ := List.mem_map.mp z
      obtain ⟨k, hk, w⟩ := W.gate hg
      have := W.few
      exact nowhere_no "g" nmg_str k (by omega) (by rw [← w.name, e])
  · obtain ⟨n, h2, e⟩ := W.regs
    rw [e] at z
    exact nms_no nmr_str (by omega) z
theorem i0_in {most : Nat} {d : CircD} {Gs : List GateD} (W : CircWf most d Gs) : ("i0" : Str) ∈ namesD d := by
  obtain ⟨n, h1, h2, e⟩ := W.ins
  unfold namesD
  refine List.mem_append_left _ (List.mem_append_left _ ?_)
  rw [e]
  exact List.mem_map.mpr ⟨0, List.mem_range.mpr h1, by decide +kernel⟩
section
variable {P : Program} {w : World} {K : PySem.W.Frag} {mg : Str → Option Value} {base : Heap}
def spWrong (C : Addr) : Sp := fun vs H Q _ => ∃ (p a c wa : Addr) (d : CircD) (Gs : List GateD) (rows : List WireD) (it gt rt ot : Addr) (ga ra oa : List Addr), vs = [.ref p, .ref c, .ref wa] ∧ PoolOk p a H ∧ CircAt H c d it gt rt ot ga ra oa ∧ CircWf 6 d Gs ∧ WiresAt C (hid p H) wa rows ∧ rows.length ≤ 12 ∧ (rows.map (·.net)).Nodup ∧
  (∀ r ∈ rows, WireOk r ∧ r.net ∈ netsD d) ∧ ∀ H', Px p a H H' → Q (.bl true) H'
theorem sc_law_wrong : FnScope ["pool", "circuit", "wires", "spare", "wrong", "bad", "net", "pins"] ["pool", "circuit", "wires"] (defScope s_law_wrong) := ⟨rfl, rfl, rfl, by decide +kernel, rfl, by decide +kernel, by decide +kernel⟩
theorem ok_law_wrong {C B R fi : Addr} {di : FuncData} (D : Dfd K mg "_law_wrong" s_law_wrong ["pool", "circuit", "wires"]) (T : TxtLd mg) (C1 : Has P w K mg base 2 "_law_draw" ["pool", "many"] spDrawX) (C2 : Has P w K mg base 7 "_law_told" ["circuit", "wires", "unit"] (spTold30 C)) (C3 : Has P w K mg base 1 "_law_pins" ["circuit", "net"] spPins)
    (g_WireTree : mg "WireTree" = some (.ref C)) (Mk_WireTree : Mk K C fi) (G_WireTree_init : FnOk P w K mg base (L2.CX P w) 1 fi di ["self", "segments"] (spTInit C B R)) (b_WireTree_init : Binds K di ["self", "segments"] []) :
    Has P w K mg base 8 "_law_wrong" ["pool", "circuit", "wires"] (spWrong C) := by
  obtain ⟨f_law_draw, d_law_draw, G_law_draw, g_law_draw, k_law_draw, b_law_draw⟩ := C1
  obtain ⟨f_law_told, d_law_told, G_law_told, g_law_told, k_law_told, b_law_told⟩ := C2
  obtain ⟨f_law_pins, d_law_pins, G_law_pins, g_law_pins, k_law_pins, b_law_pins⟩ := C3
  refine D.has fun f fd F => F.ok sc_law_wrong (fun vs H Q E h => ?_) (fun cdv A outer s H vs Q E hr h => ?_)
  · obtain ⟨p, a, c, wa, d, Gs, rows, it, gt, rt, ot, ga, ra, oa, rfl, _⟩ := h
    rfl
  · obtain ⟨p, a, c, wa, d, Gs, rows, it, gt, rt, ot, ga, ra, oa, rfl, hp, hc, W, hw, hrl, hnd, hok, q⟩ := h
    refine ⟨_, (pss_cons (ps_set (i := 3) sc_law_wrong.nd rfl (.inl rfl) (pe_make Mk_WireTree G_WireTree_init (hr.mono (by omega)) (by rfl) g_WireTree b_WireTree_init .nil passX0 (pa_cons (pe_lst (pa_cons (pe_tup (pa_cons pe_int (pa_cons (pe_tup (pa_cons pe_int (pa_cons pe_int pa_nil))) (pa_cons (pe_tup (pa_cons pe_int (pa_cons pe_int pa_nil))) pa_nil)))) pa_nil)) pa_nil)))
    (pss_cons (ps_set (i := 4) sc_law_wrong.nd rfl (.inl rfl) (pe_ix ix_list (pe_lst (pa_cons (pe_dispT1 (hu_of hr) (pe_tup (pa_cons pe_int (pa_cons pe_int pa_nil))) pe_int) (pa_cons (pe_dispT1 (hu_of hr) (pe_tup (pa_cons pe_int (pa_cons pe_int pa_nil))) pe_int) (pa_cons (pe_dispT1 (hu_of hr) (pe_tup (pa_cons (pe_un un_neg pe_int) (pa_cons pe_int pa_nil))) pe_int) pa_nil)))) (pe_call G_law_draw (hr.mono (by omega)) (by rfl) g_law_draw k_law_draw b_law_draw .nil pass0 (pa_cons (pv 0) (pa_cons pe_int pa_nil))) (fun _ _ => rfl)))
    (pss_cons (ps_set (i := 5) sc_law_wrong.nd rfl (.inl rfl) pe_dnewK)
    (pss_cons (ps_lockF PassesOwn.never rfl (pi_keys (pv 2)) (pg_name (i := 6) sc_law_wrong.nd rfl (.inl rfl))
      (pss_one (ps_asg (pe_dget (hu_of hr) (pv 2) (pv 6) (fun _ _ => rfl)) (pg_sub (pv 5) (pv 6) (set_dict (hu_of hr))))))
    (pss_cons (ps_asg (pe_tup (pa_cons (pv 3) (pa_cons (pv 4) pa_nil))) (pg_sub (pv 5) pe_str (set_dict (hu_of hr))))
    (pss_cons (ps_if (pt_cmpR (op_neD hr.units) (pe_call G_law_told (hr.mono (by omega)) (by rfl) g_law_told k_law_told b_law_told .nil pass0 (pa_cons (pv 1) (pa_cons (pv 5) (pa_cons pe_int pa_nil)))) (pe_lst (pa_cons pe_bl (pa_cons pe_bl pa_nil))) (nomark _))
      (pss_one (ps_ret pe_bl))
      pss_nil)
    (pss_cons (ps_set (i := 7) sc_law_wrong.nd rfl (.inl rfl) (pe_call G_law_pins (hr.mono (by omega)) (by rfl) g_law_pins k_law_pins b_law_pins .nil pass0 (pa_cons (pv 1) (pa_cons pe_str pa_nil))))
    (pss_cons (ps_if (pt_cmpR (op_neD hr.units) (pv 7) (pe_lst pa_nil) (nomark _))
      (pss_cons (ps_asg (pe_tup (pa_cons (pv 3) (pa_cons (pe_dispT1 (hu_of hr) (pe_ix ix_list (pv 7) pe_int (fun _ _ => rfl)) (pe_ix ix_list (pe_lst (pa_cons pe_int (pa_cons (pe_un un_neg pe_int) pa_nil))) (pe_call G_law_draw (hr.mono (by omega)) (by rfl) g_law_draw k_law_draw b_law_draw .nil pass0 (pa_cons (pv 0) (pa_cons pe_int pa_nil))) (fun _ _ => rfl))) pa_nil))) (pg_sub (pv 5) pe_str (set_dict (hu_of hr))))
      (pss_one (ps_if (pt_cmpR (op_neD hr.units) (pe_call G_law_told (hr.mono (by omega)) (by rfl) g_law_told k_law_told b_law_told .nil pass0 (pa_cons (pv 1) (pa_cons (pv 5) (pa_cons pe_int pa_nil)))) (pe_lst (pa_cons pe_bl (pa_cons pe_bl pa_nil))) (nomark _))
        (pss_one (ps_ret pe_bl))
        pss_nil)))
      pss_nil)
    (pss_cons (ps_asg (pe_tup (pa_cons (pv 3) (pa_cons pe_dnewT pa_nil))) (pg_sub (pv 5) pe_str (set_dict (hu_of hr))))
    (pss_one (ps_ret (pe_and (pe_cmpR (op_eqD hr.units) (pe_call G_law_told (hr.mono (by omega)) (by rfl) g_law_told k_law_told b_law_told .nil pass0 (pa_cons (pv 1) (pa_cons (pv 5) (pa_cons pe_int pa_nil)))) (pe_lst (pa_cons pe_bl (pa_cons pe_bl pa_nil))) (nomark _)) (pe_one (pe_cmpR (op_eqD hr.units) (pe_call G_law_told (hr.mono (by omega)) (by rfl) g_law_told k_law_told b_law_told .nil pass0 (pa_cons (pv 1) (pa_cons (pv 2) (pa_cons pe_int pa_nil)))) (pe_lst (pa_cons pe_bl (pa_cons pe_bl pa_nil))) (nomark _))))))))))))))), ?_⟩
    refine ⟨(by show 2 ≤ sizeLine; decide), fun t1 n1 => ⟨(by show 2 ≤ sizeLine; decide), fun t2 n2 => ⟨(by show 3 ≤ sizeLine; decide), fun t3 n3 => ⟨(by show 1 ≤ sizeLine; decide), fun sl nsl => ?_⟩⟩⟩⟩
    have E4 := (((Ex.new (o := .tup [.int 1, .int 1]) n1).trans (Ex.new (o := .tup [.int 1, .int 1]) n2)).trans (Ex.new (o := .tup [.int 0, .ref t1, .ref t2]) n3)).trans (Ex.new (o := .lst [.ref t3]) nsl)
    have h1 := Ex.new (o := .lst [.ref t3]) nsl _ _ (Ex.new (o := .tup [.int 0, .ref t1, .ref t2]) n3 _ _ (Ex.new (o := .tup [.int 1, .int 1]) n2 _ _ (upd_same (H := H) (a := t1) (o := .tup [.int 1, .int 1]))))
    have h2 := Ex.new (o := .lst [.ref t3]) nsl _ _ (Ex.new (o := .tup [.int 0, .ref t1, .ref t2]) n3 _ _ (upd_same (H := upd H t1 (.tup [.int 1, .int 1])) (a := t2) (o := .tup [.int 1, .int 1])))
    have h3 := Ex.new (o := .lst [.ref t3]) nsl _ _ (upd_same (H := upd (upd H t1 (.tup [.int 1, .int 1])) t2 (.tup [.int 1, .int 1])) (a := t3) (o := .tup [.int 0, .ref t1, .ref t2]))
    have h4 : upd (upd (upd (upd H t1 (.tup [.int 1, .int 1])) t2 (.tup [.int 1, .int 1])) t3 (.tup [.int 0, .ref t1, .ref t2])) sl (.lst [.ref t3]) sl = some (.lst [.ref t3]) := upd_same
    generalize upd (upd (upd (upd H t1 (.tup [.int 1, .int 1])) t2 (.tup [.int 1, .int 1])) t3 (.tup [.int 0, .ref t1, .ref t2])) sl (.lst [.ref t3]) = H4 at *
    refine fun x dx nx ndx hne => ?_
    have eM : ∀ {o1 o2 : HO}, Ex H4 (upd (upd H4 dx o1) x o2) := fun {o1 o2} b o h => by
      rw [upd_ne (fun z => by rw [z, nx] at h; cases h), upd_ne (fun z => by rw [z, ndx] at h; cases h)]; exact h
    have par0 : ParOk [⟨0, (1, 1), (1, 1)⟩] := fun k s h => by
      match k, h with
      | 0, h => cases h; exact ⟨by decide, by decide⟩
    have rng0 : RngS [⟨0, (1, 1), (1, 1)⟩] := fun s h => by
      rw [List.mem_singleton.mp h]; exact ⟨⟨by decide, by decide⟩, ⟨by decide, by decide⟩⟩
    refine ⟨x, dx, sl, [t3], [⟨0, (1, 1), (1, 1)⟩], rfl, upd_same, eM _ _ h4, All2.cons ⟨t1, t2, eM _ _ h3, eM _ _ h1, eM _ _ h2⟩ .nil, by decide, fun _ _ pp rr cc Hn m1 m2 m3 eb hT => ⟨rfl, ?_⟩, fun z => absurd par0 z, fun _ z => absurd rng0 z⟩
    have eN : Ex H Hn := E4.trans fun b o h => eb b o (eM b o h) (fun z => by rw [z, nx] at h; cases h)
    have Xn := (Px.refl hp).more eN
    have hTn : TreeAt C (hid p Hn) x pp rr cc [⟨0, (1, 1), (1, 1)⟩] := by
      obtain ⟨_, _, _, _, _, eP, _⟩ := Xn.pool
      obtain ⟨_, _, _, _, _, eP0, _⟩ := hp
      have nn : ∀ {b}, upd (upd H4 dx (.own x)) x (.ins C dx []) b = none → b ≠ p := fun {b} h z => by
        rw [z, eM _ _ (E4 _ _ eP0)] at h; cases h
      exact hT.hid30 eP (nn m1) (nn m2) (nn m3)
    intro d1 nd1
    refine ⟨(by show 2 ≤ sizeLine; decide), fun k1 nk1 => ⟨Ex.new nk1 _ _ upd_same, [.inl 0, .inl 7], k1, rfl, upd_same, ?_⟩⟩
    have e1 : Ex Hn (upd (upd (upd Hn d1 (.dT [])) k1 (.tup [.int 0, .int 7])) d1 (.dT [([.inl 0, .inl 7], .int 0)])) := ((Ex.new (o := .dT []) nd1).trans (Ex.new (o := .tup [.int 0, .int 7]) nk1)).mut nd1
    have hd1 : upd (upd (upd Hn d1 (.dT [])) k1 (.tup [.int 0, .int 7])) d1 (.dT [([.inl 0, .inl 7], .int 0)]) d1 = some (.dT [([.inl 0, .inl 7], .int 0)]) := upd_same
    generalize upd (upd (upd Hn d1 (.dT [])) k1 (.tup [.int 0, .int 7])) d1 (.dT [([.inl 0, .inl 7], .int 0)]) = G1 at *
    intro d2 nd2
    refine ⟨(by show 2 ≤ sizeLine; decide), fun k2 nk2 => ⟨Ex.new nk2 _ _ upd_same, [.inl 77, .inl 0], k2, rfl, upd_same, ?_⟩⟩
    have e2 : Ex G1 (upd (upd (upd G1 d2 (.dT [])) k2 (.tup [.int 77, .int 0])) d2 (.dT [([.inl 77, .inl 0], .int 0)])) := ((Ex.new (o := .dT []) nd2).trans (Ex.new (o := .tup [.int 77, .int 0]) nk2)).mut nd2
    have hd2 : upd (upd (upd G1 d2 (.dT [])) k2 (.tup [.int 77, .int 0])) d2 (.dT [([.inl 77, .inl 0], .int 0)]) d2 = some (.dT [([.inl 77, .inl 0], .int 0)]) := upd_same
    generalize upd (upd (upd G1 d2 (.dT [])) k2 (.tup [.int 77, .int 0])) d2 (.dT [([.inl 77, .inl 0], .int 0)]) = G2 at *
    intro d3 nd3
    refine ⟨_, rfl, (by show 2 ≤ sizeLine; decide), fun k3 nk3 => ⟨Ex.new nk3 _ _ upd_same, [.inl (-1), .inl 0], k3, rfl, upd_same, ?_⟩⟩
    have e3 : Ex G2 (upd (upd (upd G2 d3 (.dT [])) k3 (.tup [.int (-1), .int 0])) d3 (.dT [([.inl (-1), .inl 0], .int 0)])) := ((Ex.new (o := .dT []) nd3).trans (Ex.new (o := .tup [.int (-1), .int 0]) nk3)).mut nd3
    have hd3 : upd (upd (upd G2 d3 (.dT [])) k3 (.tup [.int (-1), .int 0])) d3 (.dT [([.inl (-1), .inl 0], .int 0)]) d3 = some (.dT [([.inl (-1), .inl 0], .int 0)]) := upd_same
    generalize upd (upd (upd G2 d3 (.dT [])) k3 (.tup [.int (-1), .int 0])) d3 (.dT [([.inl (-1), .inl 0], .int 0)]) = G3 at *
    refine ⟨(by show 3 ≤ sizeLine; decide), fun wl nwl => ?_⟩
    have e4 := Ex.new (o := .lst [.ref d1, .ref d2, .ref d3]) nwl
    have hwl : upd G3 wl (.lst [.ref d1, .ref d2, .ref d3]) wl = some (.lst [.ref d1, .ref d2, .ref d3]) := upd_same
    have X3 := ((Xn.more e1).more e2).more e3
    have X4 := X3.more e4
    have hw1 := (((e1.trans e2).trans e3).trans e4)
    refine ⟨_, rfl, p, a, 3, rfl, by decide, by decide, X4.pool, fun v1 H5 hv1 X5 k5 => ?_⟩
    have hwl5 : H5 wl = some (.lst [.ref d1, .ref d2, .ref d3]) := (k5 wl (X3.pool.ne nwl)).trans hwl
    have hd15 : H5 d1 = some (.dT [([.inl 0, .inl 7], .int 0)]) := (k5 d1 (Xn.pool.ne nd1)).trans (e4 _ _ (e3 _ _ (e2 _ _ hd1)))
    have hd25 : H5 d2 = some (.dT [([.inl 77, .inl 0], .int 0)]) := (k5 d2 ((Xn.more e1).pool.ne nd2)).trans (e4 _ _ (e3 _ _ hd2))
    have hd35 : H5 d3 = some (.dT [([.inl (-1), .inl 0], .int 0)]) := (k5 d3 (((Xn.more e1).more e2).pool.ne nd3)).trans (e4 _ _ hd3)
    have pick : ∃ (dw : Addr) (g pin : Int), ([.ref d1, .ref d2, .ref d3] : List V)[v1]? = some (.ref dw) ∧ H5 dw = some (.dT ([((g, pin), 0)].map tapK)) ∧ ¬ okTap d "i0" g pin := by
      have h3 : v1 < 3 := by omega
      match v1, h3 with
      | 0, _ => exact ⟨d1, 0, 7, rfl, hd15, fun ⟨gn, pn, gd, _, h7, h8, h9⟩ => by
          have h1 := (W.gsm (List.mem_of_getElem? h8)).few
          have h2 := (List.getElem?_eq_some_iff.mp h9).1
          omega⟩
      | 1, _ => exact ⟨d2, 77, 0, rfl, hd25, fun ⟨gn, pn, gd, h7, _, h8, _⟩ => by
          have h1 := W.glen
          have h2 := (List.getElem?_eq_some_iff.mp h8).1
          omega⟩
      | 2, _ => exact ⟨d3, -1, 0, rfl, hd35, fun ⟨gn, pn, gd, h7, _, h8, _⟩ => by omega⟩
    obtain ⟨dw, wg, wp, hpk, hdw, hnot⟩ := pick
    refine ⟨_, _, _, _, rfl, rfl, SqL.of hwl5, atI_nat hpk, ?_⟩
    intro bd nbd
    have X6 := (X4.trans X5).new (o := .dK []) nbd
    have hW6 := hw.ex X6.ex
    have hbd6 : upd H5 bd (.dK []) bd = some (.dK []) := upd_same
    have hdw6 := Ex.new (o := .dK []) nbd _ _ hdw
    have hbdp : bd ≠ p := (X4.trans X5).pool.ne nbd
    have nbdH : H bd = none := (X4.trans X5).free nbd
    obtain ⟨kvs, hkw, hkA⟩ := id hw
    have hwa5 : H5 wa = some (.dK kvs) := hid_get ((X4.trans X5).get hkw)
    have hbw : bd ≠ wa := fun z => by rw [z, hwa5] at nbd; cases nbd
    have hwa6 := Ex.new (o := .dK []) nbd _ _ hwa5
    have XN5 : Px p a Hn H5 := ((Px.refl Xn.pool).more (((e1.trans e2).trans e3).trans e4)).trans X5
    have nbdN : Hn bd = none := XN5.free nbd
    have XN6 := XN5.new (o := .dK []) nbd
    generalize upd H5 bd (.dK []) = H6 at *
    refine ⟨wa, .dK kvs, hwa6, trivial, fun od => ⟨_, rfl, wa, od, rfl, .inl ⟨kvs, upd_same, for_it walk_keys
      (fun i σ H' => H' = upd (upd H6 wa (.frz od (.dK kvs))) bd (.dK (kvs.take i)) ∧ ∃ y6 : Option V, σ = [some (.ref p), some (.ref c), some (.ref wa), some (.ref x), some (.ref dw), some (.ref bd), y6, none]) ⟨?_, _, rfl⟩ (fun i σ H' _ g => ?_) ?_ ?_⟩⟩⟩
    · funext b
      by_cases z : b = bd
      · rw [z, upd_same, upd_ne hbw, hbd6]; rfl
      · rw [upd_ne z]
    · rw [g.1, upd_ne (fun z => hbw z.symm), upd_same]
    · rintro i y σ H7 H8 hi ⟨rfl, y6, rfl⟩ ⟨rfl, k, v, hkv, rfl⟩
      have hget : valV kvs k = some v := valV_at (kv_nd hkA hnd) hkv
      refine ⟨_, rfl, _, rfl, wa, v, rfl, .inl ⟨kvs, k, .inr ⟨od, by rw [upd_ne (fun z => hbw z.symm), upd_same]⟩, rfl, hget.symm⟩, _, rfl, _, rfl, bd, _, rfl, DPut.k (k := k) upd_same (sz_lt (by rw [List.length_take]; have := hkA.1; omega)), ?_, _, rfl⟩
      have hno : valV (kvs.take i) k = none := valV_no fun q hq z => nd_keys (kv_nd hkA hnd) hkv q hq z
      rw [putK_new _ hno, take_snoc1 hkv]
      funext b
      by_cases z : b = bd
      · rw [z, upd_same, upd_same]
      · rw [upd_ne z, upd_ne z, upd_ne z]
    · rintro σ H7 ⟨rfl, y6, rfl⟩
      refine ⟨by rw [upd_ne (fun z => hbw z.symm), upd_same], ?_⟩
      rw [List.take_length]
      have eL : upd (upd (upd H6 wa (.frz od (.dK kvs))) bd (.dK kvs)) wa (.dK kvs) = upd H6 bd (.dK kvs) := by
        funext b
        by_cases z1 : b = wa
        · rw [z1, upd_same, upd_ne (fun z => hbw z.symm), hwa6]
        · by_cases z2 : b = bd
          · rw [z2, upd_ne hbw, upd_same, upd_same]
          · rw [upd_ne z1, upd_ne z2, upd_ne z1, upd_ne z2]
      rw [eL]
      have B0 : BadP p a C bd H (upd H6 bd (.dK kvs)) rows := by
        have hb6 : hid p H6 bd = some (.dK []) := by rw [hid_ne hbdp]; exact hbd6
        have bt : But1 bd (hid p H6) (hid p (upd H6 bd (.dK kvs))) := fun b o hb n => by
          have n2 : b ≠ p := fun z => by rw [z, hid_self] at hb; cases hb
          rw [hid_ne n2] at hb ⊢
          rw [upd_ne n]; exact hb
        refine ⟨X6.mut nbdH, kvs, by rw [hid_ne hbdp, upd_same], ?_⟩
        exact hkA.imp fun kv q ⟨b, z1, z2⟩ => ⟨by rw [z1], b, by rw [z1], (z2.ex X6.ex).but bt hb6⟩
      have hbd7 : upd H6 bd (.dK kvs) bd = some (.dK kvs) := upd_same
      have hdw7 : upd H6 bd (.dK kvs) dw = some (.dT ([((wg, wp), (0 : Int))].map tapK)) := by
        rw [upd_ne (fun z => by rw [z, hbd6] at hdw6; cases hdw6)]; exact hdw6
      have XN8 := XN6.mut (o := .dK kvs) nbdN
      generalize upd H6 bd (.dK kvs) = H8 at *
      refine ⟨_, rfl, _, rfl, (by show 2 ≤ sizeLine; decide), fun tb ntb => ⟨_, rfl, bd, _, rfl, DPut.k (k := Sum.inr "i0") (Ex.new ntb _ _ hbd7) (sz_lt (by have := hkA.1; omega)), ?_⟩⟩
      have XN9 := XN8.new (o := .tup [.ref x, .ref dw]) ntb
      have B1 := B0.px ((Px.refl B0.1.pool).new (o := .tup [.ref x, .ref dw]) ntb)
      have hbd9 := Ex.new (o := .tup [.ref x, .ref dw]) ntb _ _ hbd7
      have htb9 : upd H8 tb (.tup [.ref x, .ref dw]) tb = some (.tup [.ref x, .ref dw]) := upd_same
      have hdw9 := Ex.new (o := .tup [.ref x, .ref dw]) ntb _ _ hdw7
      have tbp : tb ≠ p := B0.1.pool.ne ntb
      have hT9 := hTn.ex XN9.ex
      generalize upd H8 tb (.tup [.ref x, .ref dw]) = H9 at *
      have dwp : dw ≠ p := fun z => by
        obtain ⟨_, _, _, _, _, eP, _⟩ := B1.1.pool
        rw [z, eP] at hdw9; cases hdw9
      have hr0 : WireAt C (hid p H9) tb ⟨"i0", [⟨0, (1, 1), (1, 1)⟩], [((wg, wp), 0)]⟩ := ⟨x, pp, rr, cc, dw, by rw [hid_ne tbp]; exact htb9, hT9, by rw [hid_ne dwp]; exact hdw9⟩
      have B2 := B1.put nbdH hbd9 hr0
      have hbdA : upd H9 bd (.dK (putK kvs (Sum.inr "i0") (.ref tb))) bd = some (.dK (putK kvs (Sum.inr "i0") (.ref tb))) := upd_same
      have XN10 := XN9.mut (o := .dK (putK kvs (Sum.inr "i0") (.ref tb))) nbdN
      generalize upd H9 bd (.dK (putK kvs (Sum.inr "i0") (.ref tb))) = H10 at *
      have hnl : (namesD d).length ≤ 1000 := by
        have h1 := W.glen; have h2 := W.rlen; have h3 := W.ilen
        unfold namesD
        rw [List.length_append, List.length_append, List.length_map, List.length_map]; omega
      have hgl : d.gates.length ≤ 1000 := by have := W.glen; omega
      have hgr : ∀ g ∈ d.gates, g.rng.length ≤ 1000 := fun g hg => by have h1 := (W.gsm hg).many; have h2 := (W.gsm hg).few; omega
      have hgp : ∀ g ∈ d.gates, g.pins.length ≤ 10 := fun g hg => by have h2 := (W.gsm hg).few; omega
      have okR : ∀ (taps : List TapD), taps.length ≤ 100 → WireOk ⟨"i0", [⟨0, (1, 1), (1, 1)⟩], taps⟩ := fun taps h => ⟨par0, by show 1 ≤ 100; omega, fun s hs j => by
        rw [List.mem_singleton.mp hs]
        exact one30 j, h, i0_len⟩
      refine ⟨_, rfl, _, rfl, c, bd, 1, d, putR rows ⟨"i0", [⟨0, (1, 1), (1, 1)⟩], [((wg, wp), 0)]⟩, it, gt, rt, ot, ga, ra, oa, false, rfl, hc.te (TEx.px B2.1), B2.wires, by have := putR_len rows ⟨"i0", [⟨0, (1, 1), (1, 1)⟩], [((wg, wp), 0)]⟩; omega, fun r hr => ?_, hnl, hgl, hgr, by decide, .inr ⟨fun r hr => ?_, .inr fun hg => hnot (hg _ (putR_has _ _) ((wg, wp), 0) (List.mem_singleton.mpr rfl)).1, rfl⟩, fun l1 H11 E11 nl1 hl1 => ?_⟩
      · rcases putR_mem hr with z | z
        · rw [z]; exact okR _ (by show 1 ≤ 100; omega)
        · exact (hok r z).1
      · rcases putR_mem hr with z | z
        · rw [z]; exact i0_in W
        · exact netsD_mem.mp (hok r z).2
      refine ⟨(by show 2 ≤ sizeLine; decide), fun l2 nl2 => ?_⟩
      refine ⟨_, _, dp_bls30 (l := [false, true]) (Ex.new nl2 _ _ hl1), dp_bls30 (l := [false, true]) upd_same, shaped_bls30 _, shaped_bls30 _, _, rfl, iteF ?_⟩
      have B3 := (B2.px ((Px.refl B2.1.pool).more E11)).px (((Px.refl B2.1.pool).more E11).pool |> fun h => (Px.refl h).new (o := .lst [.bl false, .bl true]) nl2)
      have XM12 := ((Px.refl B2.1.pool).more E11).new (o := .lst [.bl false, .bl true]) nl2
      have hT12 : TreeAt C (hid p (upd H11 l2 (.lst [.bl false, .bl true]))) x pp rr cc [⟨0, (1, 1), (1, 1)⟩] := hTn.ex (XN10.trans (((Px.refl B2.1.pool).more E11).new (o := .lst [.bl false, .bl true]) nl2)).ex
      generalize upd H11 l2 (.lst [.bl false, .bl true]) = H12 at *
      refine ⟨_, rfl, c, d, "i0", it, gt, rt, ot, ga, ra, oa, rfl, hc.te (TEx.px B3.1), hgl, hgp, fun pl as H13 E13 npl hpl hpA => ?_⟩
      refine ⟨_, rfl, (by show 0 ≤ sizeLine; decide), fun l3 nl3 => ⟨_, _, .lst (SqL.of (Ex.new nl3 _ _ hpl)) (dp_pairs30 (hpA.imp fun _ _ z => Ex.new nl3 _ _ z)), dp_nil (SqL.of upd_same), shaped_pairs30 _, shaped_nil, _, rfl, ?_⟩⟩
      have B4 := B3.px ((Px.refl B3.1.pool).more (E13.trans (Ex.new (o := .lst []) nl3)))
      have XM10 := XM12.trans ((Px.refl B3.1.pool).more (E13.trans (Ex.new (o := .lst []) nl3)))
      have hT14 := hT12.ex ((Px.refl B3.1.pool).more (E13.trans (Ex.new (o := .lst []) nl3))).ex
      have hpl14 := Ex.new (o := .lst []) nl3 _ _ hpl
      have hpA14 := hpA.imp fun _ _ z => (show NatsAt _ _ _ from Ex.new (o := .lst []) nl3 _ _ z)
      generalize upd H13 l3 (.lst []) = H14 at *
      refine if_join (fun H' => ∃ rows' : List WireD, BadP p a C bd H H' rows' ∧ rows'.length ≤ 14 ∧ (∀ r ∈ rows', WireOk r ∧ r.net ∈ namesD d) ∧ TreeAt C (hid p H') x pp rr cc [⟨0, (1, 1), (1, 1)⟩]) ?_ (fun _ => ⟨_, B4, by have := putR_len rows ⟨"i0", [⟨0, (1, 1), (1, 1)⟩], [((wg, wp), 0)]⟩; omega, fun r hr => ?_, hT14⟩) ?_
      · rintro H15 ⟨rows', B, hl14, hok', hT15⟩
        obtain ⟨kv15, hbd15, hkl15⟩ := B.kvs
        refine ⟨_, rfl, fun dn ndn => ⟨(by show 2 ≤ sizeLine; decide), fun tn ntn => ⟨_, rfl, bd, _, rfl, DPut.k (k := Sum.inr "nowhere") (Ex.new ntn _ _ (Ex.new ndn _ _ hbd15)) (sz_lt (by omega)), ?_⟩⟩⟩
        have eD := (Ex.new (o := .dT []) ndn).trans (Ex.new (o := .tup [.ref x, .ref dn]) ntn)
        have hdn := Ex.new (o := .tup [.ref x, .ref dn]) ntn _ _ (upd_same (H := H15) (a := dn) (o := .dT []))
        have htn : upd (upd H15 dn (.dT [])) tn (.tup [.ref x, .ref dn]) tn = some (.tup [.ref x, .ref dn]) := upd_same
        have B5 := B.px ((Px.refl B.1.pool).more eD)
        have dnp : dn ≠ p := B.1.pool.ne ndn
        have tnp : tn ≠ p := ((Px.refl B.1.pool).new (o := .dT []) ndn).pool.ne ntn
        have hT16 := hT15.ex ((Px.refl B.1.pool).more eD).ex
        have hbd16 := eD _ _ hbd15
        generalize upd (upd H15 dn (.dT [])) tn (.tup [.ref x, .ref dn]) = H16 at *
        have hr1 : WireAt C (hid p H16) tn ⟨"nowhere", [⟨0, (1, 1), (1, 1)⟩], []⟩ := ⟨x, pp, rr, cc, dn, by rw [hid_ne tnp]; exact htn, hT16, by rw [hid_ne dnp]; exact hdn⟩
        have B6 := B5.put nbdH hbd16 hr1
        refine ⟨_, rfl, _, rfl, c, bd, 0, d, putR rows' ⟨"nowhere", [⟨0, (1, 1), (1, 1)⟩], []⟩, it, gt, rt, ot, ga, ra, oa, true, rfl, hc.te (TEx.px B6.1), B6.wires, by have := putR_len rows' ⟨"nowhere", [⟨0, (1, 1), (1, 1)⟩], []⟩; omega, fun r hr => ?_, hnl, hgl, hgr, by decide, .inl ⟨⟨_, putR_has _ _, nowhere_not W (Nat.le_refl _)⟩, rfl⟩, fun l5 H17 E17 nl5 hl5 => ?_⟩
        · rcases putR_mem hr with z | z
          · rw [z]; exact ⟨par0, by show 1 ≤ 100; omega, fun s hs j => by rw [List.mem_singleton.mp hs]; exact one30 j, by show 0 ≤ 100; omega, nw_len⟩
          · exact (hok' r z).1
        refine ⟨(by show 2 ≤ sizeLine; decide), fun l6 nl6 => ?_⟩
        refine ⟨_, _, dp_bls30 (l := [true, false]) (Ex.new nl6 _ _ hl5), dp_bls30 (l := [true, false]) upd_same, shaped_bls30 _, shaped_bls30 _, ?_⟩
        have X18 := B6.1.more (E17.trans (Ex.new (o := .lst [.bl true, .bl false]) nl6))
        generalize upd H17 l6 (.lst [.bl true, .bl false]) = H18 at *
        refine ⟨_, rfl, iteT ?_⟩
        refine ⟨_, rfl, _, rfl, c, wa, 0, d, rows, it, gt, rt, ot, ga, ra, oa, false, rfl, hc.te (TEx.px X18), (hw.ex X18.ex).ex hid_le, by omega, fun r hr => (hok r hr).1, hnl, hgl, hgr, by decide, .inr ⟨fun r hr => netsD_mem.mp (hok r hr).2, .inl (by decide), rfl⟩, fun l7 H19 E19 nl7 hl7 => ?_⟩
        refine ⟨(by show 2 ≤ sizeLine; decide), fun l8 nl8 => ?_⟩
        exact ⟨_, _, dp_bls30 (l := [false, true]) (Ex.new nl8 _ _ hl7), dp_bls30 (l := [false, true]) upd_same, shaped_bls30 _, shaped_bls30 _, q _ (X18.more (E19.trans (Ex.new (o := .lst [.bl false, .bl true]) nl8)))⟩
      · rcases putR_mem hr with z | z
        · rw [z]; exact ⟨okR _ (by show 1 ≤ 100; omega), i0_in W⟩
        · exact ⟨(hok r z).1, netsD_mem.mp (hok r z).2⟩
      · intro hne tail
        obtain ⟨g0, j0, ps0, hps⟩ : ∃ g0 j0 ps, pinsD d "i0" = (g0, j0) :: ps := by
          cases h : pinsD d "i0" with
          | nil => rw [h] at hne; exact absurd hne (by decide)
          | cons q ps => exact ⟨q.1, q.2, ps, rfl⟩
        obtain ⟨a0, as0, rfl⟩ : ∃ a0 as0, as = a0 :: as0 := by
          cases as with
          | nil => have := hpA14.1; rw [hps] at this; cases this
          | cons a l => exact ⟨a, l, rfl⟩
        have ha0 : H14 a0 = some (.tup [.int (g0 : Nat), .int (j0 : Nat)]) := hpA14.2 0 a0 (g0, j0) rfl (by rw [hps]; rfl)
        refine ⟨_, rfl, fun dn ndn => ⟨_, rfl, _, _, _, _, rfl, rfl, SqL.of (Ex.new ndn _ _ hpl14), atI_nat (j := 0) rfl, _, rfl, (by show 2 ≤ sizeLine; decide), fun w2 nw2 => ?_⟩⟩
        have YA := ((Px.refl B4.1.pool).new (o := .dT []) ndn).new (o := .lst [.int 2, .int (-1)]) nw2
        have ndnH := ndn
        have hdnA := Ex.new (o := .lst [.int 2, .int (-1)]) nw2 _ _ (upd_same (H := H14) (a := dn) (o := .dT []))
        have hw2A : upd (upd H14 dn (.dT [])) w2 (.lst [.int 2, .int (-1)]) w2 = some (.lst [.int 2, .int (-1)]) := upd_same
        have ha0A := ((Ex.new (o := .dT []) ndn).trans (Ex.new (o := .lst [.int 2, .int (-1)]) nw2)) _ _ ha0
        have dnp : dn ≠ p := B4.1.pool.ne ndn
        have w2p : w2 ≠ p := ((Px.refl B4.1.pool).new (o := .dT []) ndn).pool.ne nw2
        have a0p : a0 ≠ p := fun z => by
          obtain ⟨_, _, _, _, _, eP, _⟩ := B4.1.pool
          rw [z, eP] at ha0; cases ha0
        refine ⟨_, rfl, p, a, 2, rfl, by decide, by decide, YA.pool, fun v2 HB hv2 XB kB => ?_⟩
        have hdnB := (kB dn dnp).trans hdnA
        have hw2B := (kB w2 w2p).trans hw2A
        have ha0B := (kB a0 a0p).trans ha0A
        have pick2 : ∃ nd : Int, ([.int 2, .int (-1)] : List V)[v2]? = some (.int nd) ∧ ¬ (0 ≤ nd ∧ nd ≤ 1) := by
          have h2 : v2 < 2 := by omega
          match v2, h2 with
          | 0, _ => exact ⟨2, rfl, by decide⟩
          | 1, _ => exact ⟨-1, rfl, by decide⟩
        obtain ⟨nd, hpk2, hnd2⟩ := pick2
        obtain ⟨kvC, hbdC, hklC⟩ := ((B4.px YA).px XB).kvs
        refine ⟨_, _, _, _, rfl, rfl, SqL.of hw2B, atI_nat hpk2, hdnB, [.inl (g0 : Nat), .inl (j0 : Nat)], a0, rfl, ha0B, (by show 2 ≤ sizeLine; decide), fun tb2 ntb2 => ?_⟩
        have bdn : bd ≠ dn := fun z => by rw [z, hdnB] at hbdC; cases hbdC
        have hbdD : upd (upd HB dn (.dT [([.inl (g0 : Nat), .inl (j0 : Nat)], .int nd)])) tb2 (.tup [.ref x, .ref dn]) bd = some (.dK kvC) := Ex.new ntb2 _ _ (by rw [upd_ne bdn]; exact hbdC)
        refine ⟨_, rfl, bd, _, rfl, DPut.k (k := Sum.inr "i0") hbdD (sz_lt (by have := putR_len rows ⟨"i0", [⟨0, (1, 1), (1, 1)⟩], [((wg, wp), 0)]⟩; omega)), ?_⟩
        have YD := ((YA.trans XB).mut (o := .dT [([.inl (g0 : Nat), .inl (j0 : Nat)], .int nd)]) ndnH).new (o := .tup [.ref x, .ref dn]) ntb2
        have tb2p : tb2 ≠ p := ((YA.trans XB).mut (o := .dT [([.inl (g0 : Nat), .inl (j0 : Nat)], .int nd)]) ndnH).pool.ne ntb2
        have hdnD := Ex.new (o := .tup [.ref x, .ref dn]) ntb2 _ _ (upd_same (H := HB) (a := dn) (o := .dT [([.inl (g0 : Nat), .inl (j0 : Nat)], .int nd)]))
        have htbD : upd (upd HB dn (.dT [([.inl (g0 : Nat), .inl (j0 : Nat)], .int nd)])) tb2 (.tup [.ref x, .ref dn]) tb2 = some (.tup [.ref x, .ref dn]) := upd_same
        have BD := B4.px YD
        have hTD := hT14.ex YD.ex
        generalize upd (upd HB dn (.dT [([.inl (g0 : Nat), .inl (j0 : Nat)], .int nd)])) tb2 (.tup [.ref x, .ref dn]) = HD at *
        have hr2 : WireAt C (hid p HD) tb2 ⟨"i0", [⟨0, (1, 1), (1, 1)⟩], [(((g0 : Nat), (j0 : Nat)), nd)]⟩ := ⟨x, pp, rr, cc, dn, by rw [hid_ne tb2p]; exact htbD, hTD, by rw [hid_ne dnp]; exact hdnD⟩
        have BE := BD.put nbdH hbdD hr2
        have YE : TreeAt C (hid p (upd HD bd (.dK (putK kvC (Sum.inr "i0") (.ref tb2))))) x pp rr cc [⟨0, (1, 1), (1, 1)⟩] := hTn.ex ((((XN10.trans XM10).trans YD).mut (o := .dK (putK kvC (Sum.inr "i0") (.ref tb2))) nbdN)).ex
        generalize upd HD bd (.dK (putK kvC (Sum.inr "i0") (.ref tb2))) = HE at *
        have hlE : (putR (putR rows ⟨"i0", [⟨0, (1, 1), (1, 1)⟩], [((wg, wp), 0)]⟩) ⟨"i0", [⟨0, (1, 1), (1, 1)⟩], [(((g0 : Nat), (j0 : Nat)), nd)]⟩).length ≤ 14 := by
          have h1 := putR_len rows ⟨"i0", [⟨0, (1, 1), (1, 1)⟩], [((wg, wp), 0)]⟩
          have h2 := putR_len (putR rows ⟨"i0", [⟨0, (1, 1), (1, 1)⟩], [((wg, wp), 0)]⟩) ⟨"i0", [⟨0, (1, 1), (1, 1)⟩], [(((g0 : Nat), (j0 : Nat)), nd)]⟩
          omega
        have hokE : ∀ r ∈ putR (putR rows ⟨"i0", [⟨0, (1, 1), (1, 1)⟩], [((wg, wp), 0)]⟩) ⟨"i0", [⟨0, (1, 1), (1, 1)⟩], [(((g0 : Nat), (j0 : Nat)), nd)]⟩, WireOk r ∧ r.net ∈ namesD d := fun r hr => by
          rcases putR_mem hr with z | z
          · rw [z]; exact ⟨okR _ (by show 1 ≤ 100; omega), i0_in W⟩
          rcases putR_mem z with z | z
          · rw [z]; exact ⟨okR _ (by show 1 ≤ 100; omega), i0_in W⟩
          · exact ⟨(hok r z).1, netsD_mem.mp (hok r z).2⟩
        refine ⟨_, rfl, _, rfl, c, bd, 1, d, _, it, gt, rt, ot, ga, ra, oa, false, rfl, hc.te (TEx.px BE.1), BE.wires, by omega, fun r hr => (hokE r hr).1, hnl, hgl, hgr, by decide, .inr ⟨fun r hr => (hokE r hr).2, .inr fun hg => hnd2 (hg _ (putR_has _ _) (((g0 : Nat), (j0 : Nat)), nd) (List.mem_singleton.mpr rfl)).2, rfl⟩, fun l1 HF EF nl1 hl1 => ?_⟩
        refine ⟨(by show 2 ≤ sizeLine; decide), fun l2 nl2 => ?_⟩
        refine ⟨_, _, dp_bls30 (l := [false, true]) (Ex.new nl2 _ _ hl1), dp_bls30 (l := [false, true]) upd_same, shaped_bls30 _, shaped_bls30 _, _, rfl, iteF (tail _ ⟨_, BE.px ((Px.refl BE.1.pool).more (EF.trans (Ex.new (o := .lst [.bl false, .bl true]) nl2))), hlE, hokE, YE.ex ((Px.refl BE.1.pool).more (EF.trans (Ex.new (o := .lst [.bl false, .bl true]) nl2))).ex⟩)⟩
end
end G
namespace G
open PySem PySem.Spec PyProof.Rows L2 Evl TL
theorem delM_nil (u : Int) : delM u [] = fun _ => none := rfl
theorem addP_zero (p : Int × Int) : addP p (0, 0) = p := by
  unfold addP
  obtain ⟨a, b⟩ := p
  simp
theorem loadG_nil {k : Nat} {g : GateD} : loadG (fun _ => none) k g = g.rng := by
  refine List.ext_getElem? fun j => ?_
  cases h : g.rng[j]? with
  | none =>
    rw [List.getElem?_eq_none_iff] at h
    rw [List.getElem?_eq_none (by rw [loadG_len]; exact h)]
  | some pr =>
    rw [loadG_at h]
    exact congrArg some (addP_zero pr)
theorem loaded_nil (d : CircD) : loadedD d (fun _ => none) = d := by
  have : withD d.gates (loadR (fun _ => none) d.gates) = d.gates := by
    refine List.ext_getElem? fun k => ?_
    unfold withD
    rw [List.getElem?_zipWith]
    cases h : d.gates[k]? with
    | none => rfl
    | some g =>
      rw [loadR_at h, loadG_nil]
  unfold loadedD
  rw [this]
theorem load_gate {d : CircD} {m : DelM} {k : Nat} {g : GateD} (h : d.gates[k]? = some g) : (loadedD d m).gates[k]? = some { g with rng := loadG m k g } := by
  show (withD d.gates (loadR m d.gates))[k]? = _
  unfold withD
  rw [List.getElem?_zipWith, h, loadR_at h]
theorem load_len (d : CircD) (m : DelM) : (loadedD d m).gates.length = d.gates.length := by
  show (withD d.gates _).length = _
  unfold withD
  rw [List.length_zipWith, loadR_len, Nat.min_self]
theorem load_few {d : CircD} {m : DelM} (h : CircFew d) : CircFew (loadedD d m) := by
  refine ⟨h.ins, by rw [load_len]; exact h.gates, fun g hg => ?_, h.regs, h.outs⟩
  obtain ⟨k, hk, e⟩ := List.getElem_of_mem hg
  have hk2 : k < d.gates.length := by rw [load_len] at hk; exact hk
  have h2 := load_gate (m := m) (List.getElem?_eq_getElem hk2)
  rw [List.getElem?_eq_getElem hk] at h2
  rw [← e, Option.some.inj h2]
  obtain ⟨a, b, c⟩ := h.gate _ (List.getElem_mem hk2)
  exact ⟨a, b, by show (loadG _ _ _).length ≤ 1000; rw [loadG_len]; exact c⟩
section
variable {P : Program} {w : World} {K : PySem.W.Frag} {mg : Str → Option Value} {base : Heap}
def spLaw (K : PySem.W.Frag) : Sp := fun vs H Q _ => ∃ (a : Addr) (ns : List Int), vs = [.ref a] ∧ SqL K H a (ns.map V.int) ∧ ns.length ≤ 63 ∧ ∀ H', Q (.bl true) H'
theorem sc_law : FnScope ["script", "pool", "turn", "circuit", "unit", "wires", "added", "gates", "k", "gate", "ranges", "j", "more"] ["script"] (defScope s_law) := ⟨rfl, rfl, rfl, by decide +kernel, rfl, by decide +kernel, by decide +kernel⟩
theorem fn_law {C U B : Addr} {f : Addr} {fd : FuncData} {ds : List Value} (F : Fun K "law" "law" s_law f fd) (T : TxtS mg) (C1 : Has P w K mg base 1 "_law_pool" ["script"] (spPool K)) (C2 : Has P w K mg base 2 "_law_draw" ["pool", "many"] spDrawX) (C3 : Has P w K mg base 4 "_law_circuit" ["pool", "most"] spCirc)
    (C4 : Has P w K mg base 4 "_law_wired" ["pool", "circuit", "unit"] (spWired C)) (C5 : Has P w K mg base 6 "_law_same" ["actual", "due"] (spSame 6)) (C6 : Has P w K mg base 8 "_law_wrong" ["pool", "circuit", "wires"] (spWrong C))
    {f_loaded : Addr} {d_loaded : FuncData} (G_loaded : FnOk P w K mg base (L2.CX P w) 6 f_loaded d_loaded ["circuit", "wires", "unit"] (spLoad C U B)) (g_loaded : mg "loaded" = some (.ref f_loaded)) (k_loaded : PySem.W.keepIn K (.ref f_loaded) = true) (kb_loaded : KBn K d_loaded ["circuit", "wires", "unit"] 2 ["unit"] (fun us ws => us ++ ws) (fun vs zs => vs ++ zs))
    (dv_loaded : Vals [V.int 1] ds) (bd_loaded : Binds K d_loaded ["circuit", "wires", "unit"] ds) : FnOk P w K mg base CX0 9 f fd ["script"] (spLaw K) := by
  obtain ⟨f_law_pool, d_law_pool, G_law_pool, g_law_pool, k_law_pool, b_law_pool⟩ := C1
  obtain ⟨f_law_draw, d_law_draw, G_law_draw, g_law_draw, k_law_draw, b_law_draw⟩ := C2
  obtain ⟨f_law_circuit, d_law_circuit, G_law_circuit, g_law_circuit, k_law_circuit, b_law_circuit⟩ := C3
  obtain ⟨f_law_wired, d_law_wired, G_law_wired, g_law_wired, k_law_wired, b_law_wired⟩ := C4
  obtain ⟨f_law_same, d_law_same, G_law_same, g_law_same, k_law_same, b_law_same⟩ := C5
  obtain ⟨f_law_wrong, d_law_wrong, G_law_wrong, g_law_wrong, k_law_wrong, b_law_wrong⟩ := C6
  refine F.ok sc_law (fun vs H Q E h => ?_) (fun cdv A outer s H vs Q E hr h => ?_)
  · obtain ⟨a, ns, rfl, _⟩ := h
    rfl
  · obtain ⟨sa, ns, rfl, hs, hn, q⟩ := h
    refine ⟨_, (pss_cons (ps_set (i := 1) sc_law.nd rfl (.inl rfl) (pe_call G_law_pool (hr.mono (by omega)) (by rfl) g_law_pool k_law_pool b_law_pool .nil pass0 (pa_cons (pv 0) pa_nil)))
    (pss_cons (ps_for PassesOwn.never rfl (pi_range1 rfl T.range (pa_cons pe_int pa_nil)) (pg_name (i := 2) sc_law.nd rfl (.inl rfl))
      (pss_cons (ps_set (i := 3) sc_law.nd rfl (.inl rfl) (pe_call G_law_circuit (hr.mono (by omega)) (by rfl) g_law_circuit k_law_circuit b_law_circuit .nil pass0 (pa_cons (pv 1) (pa_cons pe_int pa_nil))))
      (pss_cons (ps_set (i := 4) sc_law.nd rfl (.inl rfl) (pe_ix ix_list (pe_lst (pa_cons pe_int (pa_cons pe_int (pa_cons pe_int (pa_cons (pe_op op_add pe_int (pe_call G_law_draw (hr.mono (by omega)) (by rfl) g_law_draw k_law_draw b_law_draw .nil pass0 (pa_cons (pv 1) (pa_cons pe_int pa_nil)))) pa_nil))))) (pe_call G_law_draw (hr.mono (by omega)) (by rfl) g_law_draw k_law_draw b_law_draw .nil pass0 (pa_cons (pv 1) (pa_cons pe_int pa_nil))) (fun _ _ => rfl)))
      (pss_cons (ps_asg (pe_call G_law_wired (hr.mono (by omega)) (by rfl) g_law_wired k_law_wired b_law_wired .nil pass0 (pa_cons (pv 1) (pa_cons (pv 3) (pa_cons (pv 4) pa_nil)))) (pg_unl rfl (pgs_cons (pg_name (i := 5) sc_law.nd rfl (.inl rfl)) (pgs_cons (pg_name (i := 6) sc_law.nd rfl (.inl rfl)) pgs_nil))))
      (pss_cons (ps_set (i := 7) sc_law.nd rfl (.inl rfl) (pe_lst pa_nil))
      (pss_cons (ps_for PassesOwn.never rfl (pi_range1 rfl T.range (pa_cons (pe_callB call_len_seq (by rfl) T.len (by decide +kernel) (pa_cons (pe_ix ix_tup (pv 3) pe_int (fun _ _ => rfl)) pa_nil)) pa_nil)) (pg_name (i := 8) sc_law.nd rfl (.inl rfl))
        (pss_cons (ps_set (i := 9) sc_law.nd rfl (.inl rfl) (pe_ix ix_tup (pe_ix ix_tup (pv 3) pe_int (fun _ _ => rfl)) (pv 8) (fun _ _ => rfl)))
        (pss_cons (ps_set (i := 10) sc_law.nd rfl (.inl rfl) (pe_lst pa_nil))
        (pss_cons (ps_for PassesOwn.never rfl (pi_range1 rfl T.range (pa_cons (pe_callB call_len_seq (by rfl) T.len (by decide +kernel) (pa_cons (pe_ix ix_tup (pv 9) pe_int (fun _ _ => rfl)) pa_nil)) pa_nil)) (pg_name (i := 11) sc_law.nd rfl (.inl rfl))
          (pss_cons (ps_set (i := 12) sc_law.nd rfl (.inl rfl) (pe_dget2 (hu_of hr) (pv 6) (pe_tup (pa_cons (pv 8) (pa_cons (pv 11) pa_nil))) (pe_tup (pa_cons pe_int (pa_cons pe_int pa_nil))) ⟨rfl, rfl, rfl, rfl⟩))
          (pss_one (ps_expr (pe_bm PySem.F.plainAttrs_list PySem.F.slot_list_append PySem.F.type_list_append mt_append (pv 10) (pa_cons (pe_tup (pa_cons (pe_op op_add (pe_ix ix_tup (pe_ix ix_tup (pe_ix ix_tup (pv 9) pe_int (fun _ _ => rfl)) (pv 11) (fun _ _ => rfl)) pe_int (fun _ _ => rfl)) (pe_ix ix_tup (pv 12) pe_int (fun _ _ => rfl))) (pa_cons (pe_op op_add (pe_ix ix_tup (pe_ix ix_tup (pe_ix ix_tup (pv 9) pe_int (fun _ _ => rfl)) (pv 11) (fun _ _ => rfl)) pe_int (fun _ _ => rfl)) (pe_ix ix_tup (pv 12) pe_int (fun _ _ => rfl))) pa_nil))) pa_nil))))))
        (pss_one (ps_expr (pe_bm PySem.F.plainAttrs_list PySem.F.slot_list_append PySem.F.type_list_append mt_append (pv 7) (pa_cons (pe_tup (pa_cons (pe_ix ix_tup (pv 9) pe_int (fun _ _ => rfl)) (pa_cons (pe_ix ix_tup (pv 9) pe_int (fun _ _ => rfl)) (pa_cons (pe_ix ix_tup (pv 9) pe_int (fun _ _ => rfl)) (pa_cons (pe_callTy call_tuple_of (by rfl) T.tuple (by decide +kernel) (pa_cons (pv 10) pa_nil)) pa_nil))))) pa_nil))))))))
      (pss_cons (ps_if (pt_not (pt_val (pe_call G_law_same (hr.mono (by omega)) (by rfl) g_law_same k_law_same b_law_same .nil pass0 (pa_cons (pe_callN G_loaded (hr.mono (by omega)) (by rfl) g_loaded k_loaded kb_loaded passX0 (pa_cons (pv 3) (pa_cons (pv 5) pa_nil)) (pk_cons (pv 4) pk_nil)) (pa_cons (pe_tup (pa_cons (pe_ix ix_tup (pv 3) pe_int (fun _ _ => rfl)) (pa_cons (pe_callTy call_tuple_of (by rfl) T.tuple (by decide +kernel) (pa_cons (pv 7) pa_nil)) (pa_cons (pe_ix ix_tup (pv 3) pe_int (fun _ _ => rfl)) (pa_cons (pe_ix ix_tup (pv 3) pe_int (fun _ _ => rfl)) pa_nil))))) pa_nil)))))
        (pss_one (ps_ret pe_bl))
        pss_nil)
      (pss_one (ps_if (PW.pt (pw_or (pt_not (pt_val (pe_call G_law_same (hr.mono (by omega)) (by rfl) g_law_same k_law_same b_law_same .nil pass0 (pa_cons (pe_call G_loaded (hr.mono (by omega)) (by rfl) g_loaded k_loaded bd_loaded dv_loaded passX0 (pa_cons (pv 3) (pa_cons pe_dnewK pa_nil))) (pa_cons (pv 3) pa_nil))))) (pw_or1 (pt_not (pt_val (pe_call G_law_wrong (hr.mono (by omega)) (by rfl) g_law_wrong k_law_wrong b_law_wrong .nil pass0 (pa_cons (pv 1) (pa_cons (pv 3) (pa_cons (pv 5) pa_nil)))))))))
        (pss_one (ps_ret pe_bl))
        pss_nil)))))))))
    (pss_one (ps_ret pe_bl)))), ?_⟩
    refine ⟨_, rfl, sa, ns, rfl, hs, by omega, fun p a H0 hp E0 np => ?_⟩
    refine ⟨_, rfl, by decide, by decide, for_range (n := 2) (fun i σ H' => Px p a H0 H' ∧ ∃ x2 x3 x4 x5 x6 x7 x8 x9 x10 x11 x12 : Option V, σ = [some (.ref sa), some (.ref p), x2, x3, x4, x5, x6, x7, x8, x9, x10, x11, x12])
      ⟨Px.refl hp, _, _, _, _, _, _, _, _, _, _, _, rfl⟩ ?_ ?_⟩
    · rintro turn σ H1 _ ⟨X1, x2, x3, x4, x5, x6, x7, x8, x9, x10, x11, x12, rfl⟩
      refine ⟨_, rfl, p, a, 6, rfl, by decide, X1.pool, fun c d Gs it gt rt ot ga ra oa H2 Y2 hc2 W => ?_⟩
      have X2 := X1.trans Y2
      -- unit
      refine ⟨_, rfl, p, a, 50, rfl, by decide, by decide, X2.pool, fun v1 H3 h3 Y3 k3 => ⟨_, _, rfl, rfl, (by show 4 ≤ sizeLine; decide), fun l1 n1 => ⟨_, rfl, p, a, 4, rfl, by decide, by decide, (Y3.new n1).pool, fun v2 H4 h4 Y4 k4 => ?_⟩⟩⟩
      obtain ⟨u, hu, hu1, hu2⟩ : ∃ u : Int, ([.int 1, .int 1, .int 3, .int ((1 : Int) + (v1 : Int))] : List V)[v2]? = some (.int u) ∧ 1 ≤ u ∧ u ≤ 100 := by
        have : v2 < 4 := by omega
        match v2, this with
        | 0, _ => exact ⟨1, rfl, by decide, by decide⟩
        | 1, _ => exact ⟨1, rfl, by decide, by decide⟩
        | 2, _ => exact ⟨3, rfl, by decide, by decide⟩
        | 3, _ => exact ⟨(1 : Int) + (v1 : Int), rfl, by omega, by omega⟩
      refine ⟨_, _, _, _, rfl, rfl, SqL.of (by rw [k4 _ (Y3.pool.ne n1)]; exact upd_same), atI_nat hu, ?_⟩
      have Y24 := (Y3.new n1).trans Y4
      have X4 := X2.trans Y24
      -- wired
      refine ⟨_, rfl, _, rfl, _, rfl, p, a, c, u, d, Gs, it, gt, rt, ot, ga, ra, oa, rfl, X4.pool, hc2.te (TEx.px Y24), W, hu1, hu2, fun wl wa ad rows H5 Y5 nwl hwl hW hD hrl hnd hok hgood => ?_⟩
      refine ⟨wl, [.ref wa, .ref ad], rfl, SqL.of (hid_get hwl), rfl, _, _, rfl, _, _, rfl, rfl, ?_⟩
      have X5 := X4.trans Y5
      have hc5 := hc2.te (TEx.px (Y24.trans Y5))
      have hD5 : DelAt H5 ad (delM u rows) 2000 := hD.move (TEx.of hid_le) (fun _ z => hid_get z) (Nat.le_refl _)
      obtain ⟨m, hm⟩ : ∃ m, m = delM u rows := ⟨_, rfl⟩
      rw [← hm] at hD5
      obtain ⟨ks, hk1, hk2, hk3⟩ := hD5
      have hgl6 : d.gates.length ≤ 6 := W.glen
      -- gates
      refine ⟨Nat.zero_le _, fun GL nGL => ?_⟩
      have hgl : (ga.map V.ref).length = d.gates.length := by rw [List.length_map, hc5.gates.1]
      refine ⟨_, rfl, _, _, _, _, rfl, rfl, SqT.of (Ex.new nGL _ _ hc5.top), atI_nat (j := 1) rfl, _, _, rfl, .inr (SqT.of (Ex.new nGL _ _ hc5.gts)), _, rfl, by omega, by rw [hgl]; omega,
        for_range (n := (((ga.map V.ref).length : Nat) : Int).toNat) (fun i σ H' => Ex H5 H' ∧ (∃ as : List Addr, H' GL = some (.lst (as.map V.ref)) ∧ All2 (GateAt (hid GL H')) as ((loadedD d m).gates.take i)) ∧ ∃ y8 y9 y10 y11 y12 : Option V, σ = [some (.ref sa), some (.ref p), some (.int (0 + (turn : Int))), some (.ref c), some (.int u), some (.ref wa), some (.ref ad), some (.ref GL), y8, y9, y10, y11, y12])
          ⟨Ex.new nGL, ⟨[], upd_same, by rw [List.take_zero]; exact All2.nil⟩, _, _, _, _, _, rfl⟩ ?_ ?_⟩
      · rintro k σ H6 hk ⟨E6, ⟨as, hGL, hA⟩, y8, y9, y10, y11, y12, rfl⟩
        rw [hgl] at hk
        have hk' : k < d.gates.length := by omega
        have e0 : (0 : Int) + (k : Int) = (k : Int) := Int.zero_add _
        rw [e0]
        have hc6 := hc5.te (.of E6)
        have hga : k < ga.length := by rw [hc5.gates.1]; exact hk'
        have hat := hc6.gates.2 k ga[k] d.gates[k] (List.getElem?_eq_getElem hga) (List.getElem?_eq_getElem hk')
        have hgr : (ga.map V.ref)[k]? = some (.ref ga[k]) := by rw [List.getElem?_map, List.getElem?_eq_getElem hga]; rfl
        have hgd : d.gates[k]? = some d.gates[k] := List.getElem?_eq_getElem hk'
        have hsm := W.gsm (List.getElem_mem hk')
        generalize d.gates[k] = g at hat hgd hsm
        obtain ⟨t, pt, rgt, rga, a1, a2, a3, a4, a5⟩ := hat
        have hrl : (rga.map V.ref).length = g.rng.length := by rw [List.length_map, a5.1]
        have hr3 : g.rng.length ≤ 3 := by have h1 := hsm.many; have h2 := hsm.few; omega
        refine ⟨_, rfl, _, _, _, _, rfl, rfl, SqT.of hc6.top, atI_nat (j := 1) rfl, _, rfl, _, _, _, _, rfl, rfl, SqT.of hc6.gts, atI_nat hgr, Nat.zero_le _, fun L2 nL2 => ?_⟩
        refine ⟨_, rfl, _, _, _, _, rfl, rfl, SqT.of (Ex.new nL2 _ _ a1), atI_nat (j := 3) rfl, _, _, rfl, .inr (SqT.of (Ex.new nL2 _ _ a4)), _, rfl, by omega, by rw [hrl]; omega,
          for_range (n := (((rga.map V.ref).length : Nat) : Int).toNat) (fun j σ H' => Ex H6 H' ∧ (∃ bs : List Addr, H' L2 = some (.lst (bs.map V.ref)) ∧ All2 (IntsAt (hid L2 H')) bs ((loadG m k g).take j)) ∧ ∃ y11 y12 : Option V, σ = [some (.ref sa), some (.ref p), some (.int (0 + (turn : Int))), some (.ref c), some (.int u), some (.ref wa), some (.ref ad), some (.ref GL), some (.int (k : Int)), some (.ref ga[k]), some (.ref L2), y11, y12])
            ⟨Ex.new nL2, ⟨[], upd_same, by rw [List.take_zero]; exact All2.nil⟩, _, _, rfl⟩ ?_ ?_⟩
        · rintro j σ H7 hj ⟨E7, ⟨bs, hL2, hB⟩, y11, y12, rfl⟩
          rw [hrl] at hj
          have hj' : j < g.rng.length := by omega
          have e1 : (0 : Int) + (j : Int) = (j : Int) := Int.zero_add _
          rw [e1]
          have hra : j < rga.length := by rw [a5.1]; exact hj'
          have hpr : g.rng[j]? = some g.rng[j] := List.getElem?_eq_getElem hj'
          have hpa := a5.2 j rga[j] g.rng[j] (List.getElem?_eq_getElem hra) hpr
          have hrr : (rga.map V.ref)[j]? = some (.ref rga[j]) := by rw [List.getElem?_map, List.getElem?_eq_getElem hra]; rfl
          generalize g.rng[j] = pr at hpr hpa
          have eA := E6.trans E7
          refine ⟨_, rfl, ad, rfl, .inr ⟨_, .inl (eA _ _ hk1)⟩, _, rfl, _, rfl, (by show 2 ≤ sizeLine; decide), fun tk ntk => ⟨(by show 2 ≤ sizeLine; decide), fun tz ntz => ?_⟩⟩
          have eB := Ex.new (o := .tup [.int (k : Nat), .int (j : Nat)]) ntk
          have hkt : upd H7 tk (.tup [.int (k : Nat), .int (j : Nat)]) tk = some (.tup (([.inl (k : Nat), .inl (j : Nat)] : List _root_.L2.Key).map kV)) := upd_same
          have eC := Ex.new (o := .tup [.int 0, .int 0]) ntz
          have hzt : upd (upd H7 tk (.tup [.int (k : Nat), .int (j : Nat)])) tz (.tup [.int 0, .int 0]) tz = some (.tup [.int 0, .int 0]) := upd_same
          have hkt2 := eC _ _ hkt
          have e78 := eB.trans eC
          generalize upd (upd H7 tk (.tup [.int (k : Nat), .int (j : Nat)])) tz (.tup [.int 0, .int 0]) = H8 at *
          have eD := eA.trans e78
          obtain ⟨qa, e1, e2⟩ : ∃ qa : Addr, (valV ks [.inl ((k : Nat) : Int), .inl ((j : Nat) : Int)]).getD (.ref tz) = .ref qa ∧ IntsAt H8 qa ((m ((k : Int), (j : Int))).getD (0, 0)) := by
            have := hk3 k j
            cases hmk : m ((k : Int), (j : Int)) with
            | none =>
              rw [hmk] at this
              rw [this]
              exact ⟨tz, rfl, hzt⟩
            | some p =>
              rw [hmk] at this
              obtain ⟨a', h6, h7⟩ := this
              rw [h6]
              exact ⟨a', rfl, eD _ _ h7⟩
          refine ⟨_, DGet.t (k := [.inl ((k : Nat) : Int), .inl ((j : Nat) : Int)]) (eD _ _ hk1) hkt2, ?_⟩
          rw [e1]
          have e68 := E7.trans e78
          have hL8 := e78 _ _ hL2
          refine ⟨_, rfl, .inl ⟨rfl, _, SqL.of hL8⟩, _, rfl, _, _, _, _, rfl, rfl, SqT.of (e68 _ _ a1), atI_nat (j := 3) rfl, _, rfl, _, _, _, _, rfl, rfl, SqT.of (e68 _ _ a4), atI_nat hrr, _, _, _, _, rfl, rfl, SqT.of (e68 _ _ hpa), atI_nat (j := 0) rfl, _, rfl, _, _, _, _, rfl, rfl, SqT.of e2, atI_nat (j := 0) rfl, _, _, rfl, rfl, ?_⟩
          refine ⟨_, rfl, _, _, _, _, rfl, rfl, SqT.of (e68 _ _ a1), atI_nat (j := 3) rfl, _, rfl, _, _, _, _, rfl, rfl, SqT.of (e68 _ _ a4), atI_nat hrr, _, _, _, _, rfl, rfl, SqT.of (e68 _ _ hpa), atI_nat (j := 1) rfl, _, rfl, _, _, _, _, rfl, rfl, SqT.of e2, atI_nat (j := 1) rfl, _, _, rfl, rfl, (by show 2 ≤ sizeLine; decide), fun t' nt' => ?_⟩
          have eE := Ex.new (o := .tup [.int (addP pr ((m ((k : Int), (j : Int))).getD (0, 0))).1, .int (addP pr ((m ((k : Int), (j : Int))).getD (0, 0))).2]) nt'
          refine ⟨L2, _, _, rfl, rfl, eE _ _ hL8, sz_lt (by rw [List.length_map, hB.1, List.length_take]; omega), (e68.trans eE).mut nL2, ⟨bs ++ [t'], by rw [upd_same, List.map_append]; rfl, ?_⟩, _, _, rfl⟩
          rw [take_snoc1 (loadG_at (m := m) (k := k) hpr), hid_put]
          refine All2.snoc (hB.imp fun _ _ z => hidEx (e78.trans eE) _ _ z) ?_
          show hid L2 _ t' = _
          rw [hid_ne (fun z => by rw [z, hL8] at nt'; cases nt'), upd_same]
          rfl
        · rintro σ H7 ⟨E7, ⟨bs, hL2, hB⟩, y11, y12, rfl⟩
          rw [hrl, ← loadG_len (m := m) (k := k), show (((loadG m k g).length : Nat) : Int).toNat = (loadG m k g).length from rfl, List.take_length] at hB
          have e07 := E6.trans E7
          have hGL7 := E7 _ _ hGL
          refine ⟨_, rfl, .inl ⟨rfl, _, SqL.of hGL7⟩, _, rfl, _, _, _, _, rfl, rfl, SqT.of (E7 _ _ a1), atI_nat (j := 0) rfl, _, rfl, _, _, _, _, rfl, rfl, SqT.of (E7 _ _ a1), atI_nat (j := 1) rfl, _, rfl, _, _, _, _, rfl, rfl, SqT.of (E7 _ _ a1), atI_nat (j := 2) rfl, _, rfl, _, _, rfl, .inl ⟨SqL.of hL2, fun rt' nrt => ⟨(by show 4 ≤ sizeLine; decide), fun cg ncg => ?_⟩⟩⟩
          have E8 : Ex H7 (upd H7 rt' (.tup (bs.map V.ref))) := Ex.new nrt
          have h8 : upd H7 rt' (.tup (bs.map V.ref)) rt' = some (.tup (bs.map V.ref)) := upd_same
          generalize upd H7 rt' (.tup (bs.map V.ref)) = H8 at *
          have E9 : Ex H8 (upd H8 cg (.tup [.str g.name, .ref t, .ref pt, .ref rt'])) := Ex.new ncg
          have h9 : upd H8 cg (.tup [.str g.name, .ref t, .ref pt, .ref rt']) cg = some (.tup [.str g.name, .ref t, .ref pt, .ref rt']) := upd_same
          generalize upd H8 cg (.tup [.str g.name, .ref t, .ref pt, .ref rt']) = H9 at *
          have e79 := E8.trans E9
          have e69 := E7.trans e79
          have hGL9 := e79 _ _ hGL7
          have tl : ∀ {q : Addr} {xs : List V}, H9 q = some (.tup xs) → hid GL H9 q = some (.tup xs) := fun {q xs} z => by rw [hid_ne (ne_of z hGL9 (by intro y; cases y))]; exact z
          refine ⟨GL, _, _, rfl, rfl, hGL9, sz_lt ?_, (E6.trans e69).mut nGL, ⟨as ++ [cg], by rw [upd_same, List.map_append]; rfl, ?_⟩, _, _, _, _, _, rfl⟩
          · rw [List.length_map, hA.1, List.length_take]; omega
          · rw [hid_put, take_snoc1 (load_gate (m := m) hgd)]
            refine (hA.imp fun _ _ z => z.te (.of (hidEx e69))).snoc ⟨t, pt, rt', bs, tl h9, tl (e69 _ _ a2), tl (e69 _ _ a3), tl (E9 _ _ h8), ?_⟩
            exact hB.imp fun q r z => tl (e79 _ _ (hid_get z))
      · rintro σ H6 ⟨E6, ⟨as, hGL, hA⟩, y8, y9, y10, y11, y12, rfl⟩
        rw [hgl, ← load_len d m, show (((((loadedD d m).gates.length : Nat) : Int).toNat)) = (loadedD d m).gates.length from rfl, List.take_length] at hA
        have hc6 := hc5.te (.of E6)
        have hnl : (namesD d).length ≤ 1000 := by
          have h2 := W.rlen; have h3 := W.ilen
          unfold namesD
          rw [List.length_append, List.length_append, List.length_map, List.length_map]; omega
        have hgr : ∀ g ∈ d.gates, g.rng.length ≤ 1000 := fun g hg => by have h1 := (W.gsm hg).many; have h2 := (W.gsm hg).few; omega
        have hW5 : WiresAt C (hid p H5) wa rows := by
          obtain ⟨kvs, h1, h2⟩ := hW
          exact ⟨kvs, h1, h2.imp fun _ _ ⟨a, z1, x, p, r, c, t, z2, z3, z4, _⟩ => ⟨a, z1, x, p, r, c, t, z2, z3, z4⟩⟩
        refine ⟨_, rfl, _, rfl, _, rfl, rfl, rfl, c, wa, u, d, rows, it, gt, rt, ot, ga, ra, oa, rfl, hc6, (hW5.ex hid_le).ex E6, by omega, fun r hr => (hok r hr).1, hnl, by omega, hgr, by omega, fun z => by obtain ⟨r, h1, h2⟩ := z; exact absurd (netsD_mem.mp (hok r h1).2) h2, fun _ z => z.elim (fun h => absurd hu1 (by omega)) (fun h => absurd hgood h), fun _ _ _ c' it' gt' rt' ot' ga' ra' oa' H7 E7 hc' => ?_⟩
        rw [← hm] at hc'
        have hc7 := hc6.te (.of E7)
        have hGL7 := E7 _ _ hGL
        refine ⟨_, rfl, _, _, _, _, rfl, rfl, SqT.of hc7.top, atI_nat (j := 0) rfl, _, rfl, _, _, rfl, .inl ⟨SqL.of hGL7, fun g2 ng2 => ?_⟩⟩
        have E8 : Ex H7 (upd H7 g2 (.tup (as.map V.ref))) := Ex.new ng2
        have h8 : upd H7 g2 (.tup (as.map V.ref)) g2 = some (.tup (as.map V.ref)) := upd_same
        generalize upd H7 g2 (.tup (as.map V.ref)) = H8 at *
        have hc8 := hc7.te (.of E8)
        refine ⟨_, rfl, _, _, _, _, rfl, rfl, SqT.of hc8.top, atI_nat (j := 2) rfl, _, rfl, _, _, _, _, rfl, rfl, SqT.of hc8.top, atI_nat (j := 3) rfl, (by show 4 ≤ sizeLine; decide), fun c2 nc2 => ?_⟩
        have E9 : Ex H8 (upd H8 c2 (.tup [.ref it, .ref g2, .ref rt, .ref ot])) := Ex.new nc2
        have h9 : upd H8 c2 (.tup [.ref it, .ref g2, .ref rt, .ref ot]) c2 = some (.tup [.ref it, .ref g2, .ref rt, .ref ot]) := upd_same
        generalize upd H8 c2 (.tup [.ref it, .ref g2, .ref rt, .ref ot]) = H9 at *
        have e79 := E8.trans E9
        have hcx := hc7.te (.of e79)
        have hcd : CircFew (loadedD d m) := load_few (W.circFew (by decide))
        have hdue : CircAt H9 c2 (loadedD d m) it g2 rt ot as ra oa := ⟨h9, hcx.ins, E9 _ _ h8, hcx.rgs, hcx.ots, hA.imp fun _ _ z => z.te (.of (hid_le.trans (E7.trans e79))), hcx.regs, hcx.outs⟩
        refine ⟨_, _, circD (loadedD d m), rfl, rep_circ (hc'.te (.of e79)), rep_circ hdue, ok_circD hcd, _, rfl, iteF ?_⟩
        have E59 := E6.trans (E7.trans e79)
        -- nothing loaded
        refine ⟨_, rfl, fun w0 nw0 => ⟨c, w0, 1, d, [], it, gt, rt, ot, ga, ra, oa, rfl, hcx.te (.of (Ex.new nw0)), ⟨[], upd_same, .nil⟩, by show 0 ≤ 100; omega, fun _ z => (nomatch z), hnl, by omega, hgr, by decide, fun z => (by obtain ⟨r, h1, _⟩ := z; cases h1), fun _ z => z.elim (fun h => absurd h (by decide)) (fun h => absurd (fun _ z => (nomatch z)) h), fun _ _ _ c3 it3 gt3 rt3 ot3 ga3 ra3 oa3 H10 E10 hc3 => ?_⟩⟩
        rw [delM_nil, loaded_nil] at hc3
        have E5A := E59.trans ((Ex.new (o := .dK []) nw0).trans E10)
        have hcA := hc5.te (.of E5A)
        refine ⟨_, rfl, _, _, circD d, rfl, rep_circ hc3, rep_circ hcA, ok_circD (W.circFew (by decide)), _, rfl, ?_⟩
        have XA := X5.more E5A
        refine iteF ?_
        refine ⟨_, rfl, _, rfl, _, rfl, p, a, c, wa, d, Gs, rows, it, gt, rt, ot, ga, ra, oa, rfl, XA.pool, hcA, W, hW5.ex ((Px.refl X5.pool).more E5A).ex, hrl, hnd, hok, fun HB XB => ?_⟩
        exact ⟨_, rfl, iteF ⟨XA.trans XB, _, _, _, _, _, _, _, _, _, _, _, rfl⟩⟩
    · rintro σ H1 ⟨X1, x2, x3, x4, x5, x6, x7, x8, x9, x10, x11, x12, rfl⟩
      exact q H1
end
end G
namespace G
open PySem PySem.Spec PyProof.Rows L2
/-- the defs and the built-in names as the top has left them -/
structure All (K : PySem.W.Frag) (mg : Str → Option Value) : Prop where
  d_wall : Dfd K mg "_wall" s_wall ["k"]
  d_check_nets : Dfd K mg "check_nets" s_check_nets ["circuit", "names"]
  d_with_ranges : Dfd K mg "with_ranges" s_with_ranges ["circuit", "rows"]
  d_all_names : Dfd K mg "_all_names" s_all_names ["circuit"]
  d_loaded : ∃ (f : Addr) (fd : FuncData), Fun K "loaded" "loaded" s_loaded f fd ∧ mg "loaded" = some (.ref f) ∧ KBn K fd ["circuit", "wires", "unit"] 2 ["unit"] (fun us ws => us ++ ws) (fun vs zs => vs ++ zs) ∧ ∃ ds, Vals [V.int 1] ds ∧ Binds K fd ["circuit", "wires", "unit"] ds
  d_check_connected : Dfd K mg "_check_connected" s_check_connected ["circuit", "net", "g", "pin"]
  d_added : Dfd K mg "_added" s_added ["pair", "delay"]
  d_law_pool : Dfd K mg "_law_pool" s_law_pool ["script"]
  d_law_spread : Dfd K mg "_law_spread" s_law_spread ["cell"]
  d_law_draw : Dfd K mg "_law_draw" s_law_draw ["pool", "many"]
  d_law_same : Dfd K mg "_law_same" s_law_same ["actual", "due"]
  d_law_bits : Dfd K mg "_law_bits" s_law_bits ["index", "many"]
  d_law_table : Dfd K mg "_law_table" s_law_table ["pool", "many"]
  d_law_register : Dfd K mg "_law_register" s_law_register ["pool", "name", "net"]
  d_law_shuffled : Dfd K mg "_law_shuffled" s_law_shuffled ["pool", "rows"]
  d_law_circuit : Dfd K mg "_law_circuit" s_law_circuit ["pool", "most"]
  d_law_segments : Dfd K mg "_law_segments" s_law_segments ["pool", "most"]
  d_law_path : Dfd K mg "_law_path" s_law_path ["segments", "node"]
  d_law_delay : Dfd K mg "_law_delay" s_law_delay ["segments", "node", "resistances", "capacitances"]
  d_law_told : Dfd K mg "_law_told" s_law_told ["circuit", "wires", "unit"]
  d_law_pins : Dfd K mg "_law_pins" s_law_pins ["circuit", "net"]
  d_law_wired : Dfd K mg "_law_wired" s_law_wired ["pool", "circuit", "unit"]
  d_law_wrong : Dfd K mg "_law_wrong" s_law_wrong ["pool", "circuit", "wires"]
  z_tuple : mg "tuple" = none
  z_zip : mg "zip" = none
  z_list : mg "list" = none
  z_enumerate : mg "enumerate" = none
  z_len : mg "len" = none
  z_range : mg "range" = none
  z_sum : mg "sum" = none
  z_int : mg "int" = none
  z_isinstance : mg "isinstance" = none
  z_bool : mg "bool" = none
  z_str : mg "str" = none
  z_ValueError : mg "ValueError" = none
  k_WireTree : ∃ C : Addr, Cl_WireTree K mg C
  i_BadArgument : ∃ C : Addr, ExcI K mg "BadArgument" C ∧ IsK K mg C "UnknownName" false ∧ IsK K mg C "BadArgument" true ∧ CatchK K mg C "SignoffError"
  i_UnknownName : ∃ C : Addr, ExcI K mg "UnknownName" C ∧ IsK K mg C "UnknownName" true ∧ IsK K mg C "BadArgument" false ∧ CatchK K mg C "SignoffError"
  i_WrongCount : ∃ C : Addr, ExcI K mg "WrongCount" C
  i_BadRange : ∃ C : Addr, ExcI K mg "BadRange" C
end G
namespace G
open PySem PySem.Spec PyProof.Rows L2
theorem glue {P : Program} {w : World} {K : PySem.W.Frag} {mg : Str → Option Value} {base : Heap} (A : All K mg) {f : Addr} {fd : FuncData} (F : Fun K "law" "law" s_law f fd) : FnOk P w K mg base CX0 9 f fd ["script"] (spLaw K) := by
  have TL : TxtL mg := ⟨A.z_int, A.z_len, A.z_list, A.z_range⟩
  have TS : TxtS mg := ⟨A.z_isinstance, A.z_tuple, A.z_list, A.z_len, A.z_range, A.z_bool, A.z_int, A.z_str⟩
  have TT : TxtT mg := ⟨A.z_len, A.z_list, A.z_tuple, A.z_range, A.z_enumerate⟩
  have TD : TxtD mg := ⟨A.z_len, A.z_range, A.z_sum⟩
  have TA : TxtA mg := ⟨A.z_zip, A.z_tuple⟩
  have TN : TxtN mg := ⟨A.z_list⟩
  have TW : TxtLd mg := ⟨A.z_len, A.z_list, A.z_range, A.z_enumerate, A.z_tuple, A.z_isinstance⟩
  obtain ⟨Bc, UB, b0, b1, b2⟩ := A.i_BadArgument
  obtain ⟨Uc, UU, u0, u1, u2⟩ := A.i_UnknownName
  obtain ⟨WC, UW⟩ := A.i_WrongCount
  obtain ⟨R, UR⟩ := A.i_BadRange
  obtain ⟨S, gS, hS⟩ := id b2
  have gb := UB.u.gC
  have gu := UU.u.gC
  have t0 : Duo K Uc Uc Bc S true false := ⟨UU.isc, u0.at_ gu, u1.at_ gb, u2.at_ gS⟩
  have t1 : Duo K Bc Uc Bc S false true := ⟨UB.isc, b0.at_ gu, b1.at_ gb, b2.at_ gS⟩
  obtain ⟨C, W⟩ := A.k_WireTree
  obtain ⟨fi, di, Mi, Fi, bi⟩ := W.m_init
  obtain ⟨fc, dc, Mc, Fc, bc⟩ := W.m_check_node
  obtain ⟨f0, d0, M0, F0, k0⟩ := W.m_path
  obtain ⟨f1, d1, M1, F1, k1⟩ := W.m_delay
  obtain ⟨f2, d2, M2, F2, k2, ds, dv, bd⟩ := W.m_delay_range
  obtain ⟨fl, dl, Fl, gl, kl, ds2, dv2, bd2⟩ := A.d_loaded
  have hd := drawX (P := P) (w := w) (base := base) (ok_law_draw A.d_law_draw TL (ok_law_spread A.d_law_spread TL))
  have hb := ok_law_bits (P := P) (w := w) (base := base) A.d_law_bits TS
  have gc := ok_WireTree_check_node (P := P) (w := w) (base := base) Fc W TT UB.u
  have gi := ok_WireTree_init (P := P) (w := w) (base := base) Fi W TT UB.u UR.u
  have g0 := ok_WireTree_path (P := P) (w := w) (base := base) F0 W Mc gc bc
  have g1 := ok_WireTree_delay (P := P) (w := w) (base := base) F1 W TD UW.u Mc gc bc M0 g0 k0
  have g2 := FnOk.or2 (ok_WireTree_delay_range (P := P) (w := w) (base := base) F2 W UB.u Mc gc bc M1 g1 k1) (ok_no_node (P := P) (w := w) (base := base) F2 W UB.u Mc gc bc M1 g1 k1)
  have hld := fn_loaded Fl TW UB.u W.cl (ok_check_nets A.d_check_nets UU.u (ok_all_names A.d_all_names TN)) (ok_check_connected A.d_check_connected UB.u TW) (ok_added A.d_added) (ok_with_ranges A.d_with_ranges TA) M2 g2 k2
  have hpn := ok_law_pins (P := P) (w := w) (base := base) A.d_law_pins TW
  have htd := ok_law_told A.d_law_told TW gu gb gS t0 t1 (FnOk.loadU hld) gl Fl.kp kl
  have hsg := ok_law_segments A.d_law_segments TS hd
  exact fn_law F TS (ok_law_pool A.d_law_pool TL) hd (ok_law_circuit A.d_law_circuit TS hd (ok_law_table A.d_law_table TS hd hb) (ok_law_register A.d_law_register hd) (ok_law_shuffled A.d_law_shuffled TS hd))
    (ok_law_wired A.d_law_wired TW hd hsg hpn (ok_law_delay A.d_law_delay TS (ok_law_path A.d_law_path TS)) W.gC Mi gi bi) (ok_law_same A.d_law_same TS 6) (ok_law_wrong A.d_law_wrong TW hd htd hpn W.gC Mi gi bi) hld gl Fl.kp kl dv2 bd2
end G
namespace G
open PySem PySem.Spec PyProof.Rows L2
theorem all_mk {l : PySem.W.OpenLaw} {w : World} {K : PySem.W.Frag} {h : Heap} {mg : Str → Option Value} {fa f0 f1 f2 f3 f4 f5 f6 f7 f8 f9 f10 f11 f12 f13 f14 f15 f16 f17 f18 f19 f20 f21 f22 f23 : Addr} (X : K.In h) (G : h.Ns mainGlobals mg) (hfa : mg "law" = some (.ref fa))
    {od0 an0 od1 an1 od2 an2 od3 an3 od4 an4 od5 an5 od6 an6 od7 an7 od8 an8 od9 an9 od10 an10 od11 an11 od12 an12 od13 an13 od14 an14 od15 an15 od16 an16 od17 an17 od18 an18 od19 an19 od20 an20 od21 an21 od22 an22 od23 an23 : Option Addr} {sl0 sl1 sl2 sl3 sl4 sl5 sl6 sl7 sl8 sl9 sl10 sl11 sl12 sl13 sl14 sl15 sl16 sl17 sl18 sl19 sl20 sl21 sl22 sl23 : Array (Option Value)} {oc0 kv0 dc0 pm0 cd0 ct0 oc1 kv1 dc1 pm1 cd1 ct1 oc2 kv2 dc2 pm2 cd2 ct2 oc3 kv3 dc3 pm3 cd3 ct3 oc4 dc4 pm4 cd4 ct4 oc5 kv5 dc5 pm5 cd5 ct5 oc6 kv6 dc6 pm6 cd6 ct6 oc7 kv7 dc7 pm7 cd7 ct7 oc8 kv8 dc8 pm8 cd8 ct8 oc9 kv9 dc9 pm9 cd9 ct9 oc10 kv10 dc10 pm10 cd10 ct10 oc11 kv11 dc11 pm11 cd11 ct11 oc12 kv12 dc12 pm12 cd12 ct12 oc13 kv13 dc13 pm13 cd13 ct13 oc14 kv14 dc14 pm14 cd14 ct14 oc15 kv15 dc15 pm15 cd15 ct15 oc16 kv16 dc16 pm16 cd16 ct16 oc17 kv17 dc17 pm17 cd17 ct17 oc18 kv18 dc18 pm18 cd18 ct18 oc19 kv19 dc19 pm19 cd19 ct19 oc20 kv20 dc20 pm20 cd20 ct20 oc21 kv21 dc21 pm21 cd21 ct21 oc22 kv22 dc22 pm22 cd22 ct22 oc23 kv23 dc23 pm23 cd23 ct23 : Value}
    (a0 : PySem.W.nsIn K mainGlobals "_wall" = some (some (.ref f0))) (l0 : K.lookup f0 = some ⟨oc0, od0, .func (PySem.W.fnOf "_wall" "_wall" (defArgs s_wall) (defBody s_wall) (defScope s_wall) .none kv0 dc0 pm0 an0 cd0 ct0), sl0⟩) (c0 : PySem.W.codeIn K cd0 "_wall" = true) (k0 : PySem.W.keepIn K (.ref f0) = true)
    (a1 : PySem.W.nsIn K mainGlobals "check_nets" = some (some (.ref f1))) (l1 : K.lookup f1 = some ⟨oc1, od1, .func (PySem.W.fnOf "check_nets" "check_nets" (defArgs s_check_nets) (defBody s_check_nets) (defScope s_check_nets) .none kv1 dc1 pm1 an1 cd1 ct1), sl1⟩) (c1 : PySem.W.codeIn K cd1 "check_nets" = true) (k1 : PySem.W.keepIn K (.ref f1) = true)
    (a2 : PySem.W.nsIn K mainGlobals "with_ranges" = some (some (.ref f2))) (l2 : K.lookup f2 = some ⟨oc2, od2, .func (PySem.W.fnOf "with_ranges" "with_ranges" (defArgs s_with_ranges) (defBody s_with_ranges) (defScope s_with_ranges) .none kv2 dc2 pm2 an2 cd2 ct2), sl2⟩) (c2 : PySem.W.codeIn K cd2 "with_ranges" = true) (k2 : PySem.W.keepIn K (.ref f2) = true)
    (a3 : PySem.W.nsIn K mainGlobals "_all_names" = some (some (.ref f3))) (l3 : K.lookup f3 = some ⟨oc3, od3, .func (PySem.W.fnOf "_all_names" "_all_names" (defArgs s_all_names) (defBody s_all_names) (defScope s_all_names) .none kv3 dc3 pm3 an3 cd3 ct3), sl3⟩) (c3 : PySem.W.codeIn K cd3 "_all_names" = true) (k3 : PySem.W.keepIn K (.ref f3) = true)
    {kD4 : Addr} {kT4 : Tok}
    (a4 : PySem.W.nsIn K mainGlobals "loaded" = some (some (.ref f4))) (l4 : K.lookup f4 = some ⟨oc4, od4, .func (PySem.W.fnOf "loaded" "loaded" (defArgs s_loaded) (defBody s_loaded) (defScope s_loaded) .none (.ref kD4) dc4 pm4 an4 cd4 ct4), sl4⟩) (c4 : PySem.W.codeIn K cd4 "loaded" = true) (k4 : PySem.W.keepIn K (.ref f4) = true) (w4 : PySem.W.nsIn K kD4 "unit" = some (some (.int 1 kT4)))
    (a5 : PySem.W.nsIn K mainGlobals "_check_connected" = some (some (.ref f5))) (l5 : K.lookup f5 = some ⟨oc5, od5, .func (PySem.W.fnOf "_check_connected" "_check_connected" (defArgs s_check_connected) (defBody s_check_connected) (defScope s_check_connected) .none kv5 dc5 pm5 an5 cd5 ct5), sl5⟩) (c5 : PySem.W.codeIn K cd5 "_check_connected" = true) (k5 : PySem.W.keepIn K (.ref f5) = true)
    (a6 : PySem.W.nsIn K mainGlobals "_added" = some (some (.ref f6))) (l6 : K.lookup f6 = some ⟨oc6, od6, .func (PySem.W.fnOf "_added" "_added" (defArgs s_added) (defBody s_added) (defScope s_added) .none kv6 dc6 pm6 an6 cd6 ct6), sl6⟩) (c6 : PySem.W.codeIn K cd6 "_added" = true) (k6 : PySem.W.keepIn K (.ref f6) = true)
    (a7 : PySem.W.nsIn K mainGlobals "_law_pool" = some (some (.ref f7))) (l7 : K.lookup f7 = some ⟨oc7, od7, .func (PySem.W.fnOf "_law_pool" "_law_pool" (defArgs s_law_pool) (defBody s_law_pool) (defScope s_law_pool) .none kv7 dc7 pm7 an7 cd7 ct7), sl7⟩) (c7 : PySem.W.codeIn K cd7 "_law_pool" = true) (k7 : PySem.W.keepIn K (.ref f7) = true)
    (a8 : PySem.W.nsIn K mainGlobals "_law_spread" = some (some (.ref f8))) (l8 : K.lookup f8 = some ⟨oc8, od8, .func (PySem.W.fnOf "_law_spread" "_law_spread" (defArgs s_law_spread) (defBody s_law_spread) (defScope s_law_spread) .none kv8 dc8 pm8 an8 cd8 ct8), sl8⟩) (c8 : PySem.W.codeIn K cd8 "_law_spread" = true) (k8 : PySem.W.keepIn K (.ref f8) = true)
    (a9 : PySem.W.nsIn K mainGlobals "_law_draw" = some (some (.ref f9))) (l9 : K.lookup f9 = some ⟨oc9, od9, .func (PySem.W.fnOf "_law_draw" "_law_draw" (defArgs s_law_draw) (defBody s_law_draw) (defScope s_law_draw) .none kv9 dc9 pm9 an9 cd9 ct9), sl9⟩) (c9 : PySem.W.codeIn K cd9 "_law_draw" = true) (k9 : PySem.W.keepIn K (.ref f9) = true)
    (a10 : PySem.W.nsIn K mainGlobals "_law_same" = some (some (.ref f10))) (l10 : K.lookup f10 = some ⟨oc10, od10, .func (PySem.W.fnOf "_law_same" "_law_same" (defArgs s_law_same) (defBody s_law_same) (defScope s_law_same) .none kv10 dc10 pm10 an10 cd10 ct10), sl10⟩) (c10 : PySem.W.codeIn K cd10 "_law_same" = true) (k10 : PySem.W.keepIn K (.ref f10) = true)
    (a11 : PySem.W.nsIn K mainGlobals "_law_bits" = some (some (.ref f11))) (l11 : K.lookup f11 = some ⟨oc11, od11, .func (PySem.W.fnOf "_law_bits" "_law_bits" (defArgs s_law_bits) (defBody s_law_bits) (defScope s_law_bits) .none kv11 dc11 pm11 an11 cd11 ct11), sl11⟩) (c11 : PySem.W.codeIn K cd11 "_law_bits" = true) (k11 : PySem.W.keepIn K (.ref f11) = true)
    (a12 : PySem.W.nsIn K mainGlobals "_law_table" = some (some (.ref f12))) (l12 : K.lookup f12 = some ⟨oc12, od12, .func (PySem.W.fnOf "_law_table" "_law_table" (defArgs s_law_table) (defBody s_law_table) (defScope s_law_table) .none kv12 dc12 pm12 an12 cd12 ct12), sl12⟩) (c12 : PySem.W.codeIn K cd12 "_law_table" = true) (k12 : PySem.W.keepIn K (.ref f12) = true)
    (a13 : PySem.W.nsIn K mainGlobals "_law_register" = some (some (.ref f13))) (l13 : K.lookup f13 = some ⟨oc13, od13, .func (PySem.W.fnOf "_law_register" "_law_register" (defArgs s_law_register) (defBody s_law_register) (defScope s_law_register) .none kv13 dc13 pm13 an13 cd13 ct13), sl13⟩) (c13 : PySem.W.codeIn K cd13 "_law_register" = true) (k13 : PySem.W.keepIn K (.ref f13) = true)
    (a14 : PySem.W.nsIn K mainGlobals "_law_shuffled" = some (some (.ref f14))) (l14 : K.lookup f14 = some ⟨oc14, od14, .func (PySem.W.fnOf "_law_shuffled" "_law_shuffled" (defArgs s_law_shuffled) (defBody s_law_shuffled) (defScope s_law_shuffled) .none kv14 dc14 pm14 an14 cd14 ct14), sl14⟩) (c14 : PySem.W.codeIn K cd14 "_law_shuffled" = true) (k14 : PySem.W.keepIn K (.ref f14) = true)
    (a15 : PySem.W.nsIn K mainGlobals "_law_circuit" = some (some (.ref f15))) (l15 : K.lookup f15 = some ⟨oc15, od15, .func (PySem.W.fnOf "_law_circuit" "_law_circuit" (defArgs s_law_circuit) (defBody s_law_circuit) (defScope s_law_circuit) .none kv15 dc15 pm15 an15 cd15 ct15), sl15⟩) (c15 : PySem.W.codeIn K cd15 "_law_circuit" = true) (k15 : PySem.W.keepIn K (.ref f15) = true)
    (a16 : PySem.W.nsIn K mainGlobals "_law_segments" = some (some (.ref f16))) (l16 : K.lookup f16 = some ⟨oc16, od16, .func (PySem.W.fnOf "_law_segments" "_law_segments" (defArgs s_law_segments) (defBody s_law_segments) (defScope s_law_segments) .none kv16 dc16 pm16 an16 cd16 ct16), sl16⟩) (c16 : PySem.W.codeIn K cd16 "_law_segments" = true) (k16 : PySem.W.keepIn K (.ref f16) = true)
    (a17 : PySem.W.nsIn K mainGlobals "_law_path" = some (some (.ref f17))) (l17 : K.lookup f17 = some ⟨oc17, od17, .func (PySem.W.fnOf "_law_path" "_law_path" (defArgs s_law_path) (defBody s_law_path) (defScope s_law_path) .none kv17 dc17 pm17 an17 cd17 ct17), sl17⟩) (c17 : PySem.W.codeIn K cd17 "_law_path" = true) (k17 : PySem.W.keepIn K (.ref f17) = true)
    (a18 : PySem.W.nsIn K mainGlobals "_law_delay" = some (some (.ref f18))) (l18 : K.lookup f18 = some ⟨oc18, od18, .func (PySem.W.fnOf "_law_delay" "_law_delay" (defArgs s_law_delay) (defBody s_law_delay) (defScope s_law_delay) .none kv18 dc18 pm18 an18 cd18 ct18), sl18⟩) (c18 : PySem.W.codeIn K cd18 "_law_delay" = true) (k18 : PySem.W.keepIn K (.ref f18) = true)
    (a19 : PySem.W.nsIn K mainGlobals "_law_told" = some (some (.ref f19))) (l19 : K.lookup f19 = some ⟨oc19, od19, .func (PySem.W.fnOf "_law_told" "_law_told" (defArgs s_law_told) (defBody s_law_told) (defScope s_law_told) .none kv19 dc19 pm19 an19 cd19 ct19), sl19⟩) (c19 : PySem.W.codeIn K cd19 "_law_told" = true) (k19 : PySem.W.keepIn K (.ref f19) = true)
    (a20 : PySem.W.nsIn K mainGlobals "_law_pins" = some (some (.ref f20))) (l20 : K.lookup f20 = some ⟨oc20, od20, .func (PySem.W.fnOf "_law_pins" "_law_pins" (defArgs s_law_pins) (defBody s_law_pins) (defScope s_law_pins) .none kv20 dc20 pm20 an20 cd20 ct20), sl20⟩) (c20 : PySem.W.codeIn K cd20 "_law_pins" = true) (k20 : PySem.W.keepIn K (.ref f20) = true)
    (a21 : PySem.W.nsIn K mainGlobals "_law_wired" = some (some (.ref f21))) (l21 : K.lookup f21 = some ⟨oc21, od21, .func (PySem.W.fnOf "_law_wired" "_law_wired" (defArgs s_law_wired) (defBody s_law_wired) (defScope s_law_wired) .none kv21 dc21 pm21 an21 cd21 ct21), sl21⟩) (c21 : PySem.W.codeIn K cd21 "_law_wired" = true) (k21 : PySem.W.keepIn K (.ref f21) = true)
    (a22 : PySem.W.nsIn K mainGlobals "_law_wrong" = some (some (.ref f22))) (l22 : K.lookup f22 = some ⟨oc22, od22, .func (PySem.W.fnOf "_law_wrong" "_law_wrong" (defArgs s_law_wrong) (defBody s_law_wrong) (defScope s_law_wrong) .none kv22 dc22 pm22 an22 cd22 ct22), sl22⟩) (c22 : PySem.W.codeIn K cd22 "_law_wrong" = true) (k22 : PySem.W.keepIn K (.ref f22) = true)
    (a23 : PySem.W.nsIn K mainGlobals "law" = some (some (.ref f23))) (l23 : K.lookup f23 = some ⟨oc23, od23, .func (PySem.W.fnOf "law" "law" (defArgs s_law) (defBody s_law) (defScope s_law) .none kv23 dc23 pm23 an23 cd23 ct23), sl23⟩) (c23 : PySem.W.codeIn K cd23 "law" = true) (k23 : PySem.W.keepIn K (.ref f23) = true)
    {iC0 iD0_0 iD0_1 iD0_2 : Addr} (w0_0 : PySem.W.nsIn K mainGlobals "BadArgument" = some (some (.ref iC0))) (w0_1 : PySem.W.excIn K iC0 [.type "ValueError", .type "Exception", .type "BaseException", .type "object"] "ValueError.__new__" = true) (w0_2 : PySem.W.keepIn K (.ref iC0) = true) (w0_3 : PySem.W.subIn K (.ref iC0) (.type "BaseException") = some true) (w0_4 : PySem.W.typeIn K (.ref iC0) = some (.type "type")) (w0_5 : PySem.W.hasDictIn K iC0 = true) (w0_6 : PySem.W.subIn K (.ref iC0) (.ref iC0) = some true) (w0_7 : PySem.W.findIn K (.ref iC0) "__getattribute__" = some (some (.builtin "BaseException.__getattribute__"))) (w0_8 : PySem.W.findIn K (.ref iC0) "__getattr__" = some none) (w0_9 : PySem.W.findIn K (.ref iC0) "__class__" = some (some (.builtin "object.__class__"))) (w0_10 : PySem.W.specialIn K (.builtin "object.__class__") "__get__" = some (some (.builtin "getset_descriptor.__get__"))) (w0_11 : PySem.W.takesIn K (.builtin "object.__class__") = some true) (w0_12 : PySem.W.mroIn K iC0 (.type "object") = some true) (w0_13 : PySem.W.nsIn K mainGlobals "UnknownName" = some (some (.ref iD0_0))) (w0_14 : PySem.W.kitOne K (.ref iC0) (.ref iD0_0) = some false) (w0_15 : PySem.W.nsIn K mainGlobals "BadArgument" = some (some (.ref iD0_1))) (w0_16 : PySem.W.kitOne K (.ref iC0) (.ref iD0_1) = some true) (w0_17 : PySem.W.nsIn K mainGlobals "SignoffError" = some (some (.ref iD0_2))) (w0_18 : PySem.W.subIn K (.ref iD0_2) (.type "BaseException") = some true) (w0_19 : PySem.W.hasDictIn K iD0_2 = true) (w0_20 : PySem.W.typeIn K (.ref iD0_2) = some (.type "type")) (w0_21 : PySem.W.subIn K (.ref iC0) (.ref iD0_2) = some true)
    {iC1 iD1_0 iD1_1 iD1_2 : Addr} (w1_0 : PySem.W.nsIn K mainGlobals "UnknownName" = some (some (.ref iC1))) (w1_1 : PySem.W.excIn K iC1 [.type "ValueError", .type "Exception", .type "BaseException", .type "object"] "ValueError.__new__" = true) (w1_2 : PySem.W.keepIn K (.ref iC1) = true) (w1_3 : PySem.W.subIn K (.ref iC1) (.type "BaseException") = some true) (w1_4 : PySem.W.typeIn K (.ref iC1) = some (.type "type")) (w1_5 : PySem.W.hasDictIn K iC1 = true) (w1_6 : PySem.W.subIn K (.ref iC1) (.ref iC1) = some true) (w1_7 : PySem.W.findIn K (.ref iC1) "__getattribute__" = some (some (.builtin "BaseException.__getattribute__"))) (w1_8 : PySem.W.findIn K (.ref iC1) "__getattr__" = some none) (w1_9 : PySem.W.findIn K (.ref iC1) "__class__" = some (some (.builtin "object.__class__"))) (w1_10 : PySem.W.specialIn K (.builtin "object.__class__") "__get__" = some (some (.builtin "getset_descriptor.__get__"))) (w1_11 : PySem.W.takesIn K (.builtin "object.__class__") = some true) (w1_12 : PySem.W.mroIn K iC1 (.type "object") = some true) (w1_13 : PySem.W.nsIn K mainGlobals "UnknownName" = some (some (.ref iD1_0))) (w1_14 : PySem.W.kitOne K (.ref iC1) (.ref iD1_0) = some true) (w1_15 : PySem.W.nsIn K mainGlobals "BadArgument" = some (some (.ref iD1_1))) (w1_16 : PySem.W.kitOne K (.ref iC1) (.ref iD1_1) = some false) (w1_17 : PySem.W.nsIn K mainGlobals "SignoffError" = some (some (.ref iD1_2))) (w1_18 : PySem.W.subIn K (.ref iD1_2) (.type "BaseException") = some true) (w1_19 : PySem.W.hasDictIn K iD1_2 = true) (w1_20 : PySem.W.typeIn K (.ref iD1_2) = some (.type "type")) (w1_21 : PySem.W.subIn K (.ref iC1) (.ref iD1_2) = some true)
    {iC2 : Addr} (w2_0 : PySem.W.nsIn K mainGlobals "WrongCount" = some (some (.ref iC2))) (w2_1 : PySem.W.excIn K iC2 [.type "ValueError", .type "Exception", .type "BaseException", .type "object"] "ValueError.__new__" = true) (w2_2 : PySem.W.keepIn K (.ref iC2) = true) (w2_3 : PySem.W.subIn K (.ref iC2) (.type "BaseException") = some true) (w2_4 : PySem.W.typeIn K (.ref iC2) = some (.type "type")) (w2_5 : PySem.W.hasDictIn K iC2 = true) (w2_6 : PySem.W.subIn K (.ref iC2) (.ref iC2) = some true) (w2_7 : PySem.W.findIn K (.ref iC2) "__getattribute__" = some (some (.builtin "BaseException.__getattribute__"))) (w2_8 : PySem.W.findIn K (.ref iC2) "__getattr__" = some none) (w2_9 : PySem.W.findIn K (.ref iC2) "__class__" = some (some (.builtin "object.__class__"))) (w2_10 : PySem.W.specialIn K (.builtin "object.__class__") "__get__" = some (some (.builtin "getset_descriptor.__get__"))) (w2_11 : PySem.W.takesIn K (.builtin "object.__class__") = some true) (w2_12 : PySem.W.mroIn K iC2 (.type "object") = some true)
    {iC3 : Addr} (w3_0 : PySem.W.nsIn K mainGlobals "BadRange" = some (some (.ref iC3))) (w3_1 : PySem.W.excIn K iC3 [.type "ValueError", .type "Exception", .type "BaseException", .type "object"] "ValueError.__new__" = true) (w3_2 : PySem.W.keepIn K (.ref iC3) = true) (w3_3 : PySem.W.subIn K (.ref iC3) (.type "BaseException") = some true) (w3_4 : PySem.W.typeIn K (.ref iC3) = some (.type "type")) (w3_5 : PySem.W.hasDictIn K iC3 = true) (w3_6 : PySem.W.subIn K (.ref iC3) (.ref iC3) = some true) (w3_7 : PySem.W.findIn K (.ref iC3) "__getattribute__" = some (some (.builtin "BaseException.__getattribute__"))) (w3_8 : PySem.W.findIn K (.ref iC3) "__getattr__" = some none) (w3_9 : PySem.W.findIn K (.ref iC3) "__class__" = some (some (.builtin "object.__class__"))) (w3_10 : PySem.W.specialIn K (.builtin "object.__class__") "__get__" = some (some (.builtin "getset_descriptor.__get__"))) (w3_11 : PySem.W.takesIn K (.builtin "object.__class__") = some true) (w3_12 : PySem.W.mroIn K iC3 (.type "object") = some true)
    {yC0 : Addr} {f0m0 : Addr} {od0m0 an0m0 : Option Addr} {sl0m0 : Array (Option Value)} {oc0m0 kv0m0 dc0m0 pm0m0 cd0m0 ct0m0 : Value} {f0m1 : Addr} {od0m1 an0m1 : Option Addr} {sl0m1 : Array (Option Value)} {oc0m1 kv0m1 dc0m1 pm0m1 cd0m1 ct0m1 : Value} {f0m2 : Addr} {od0m2 an0m2 : Option Addr} {sl0m2 : Array (Option Value)} {oc0m2 kv0m2 dc0m2 pm0m2 cd0m2 ct0m2 : Value} {f0m3 kd0m3 : Addr} {od0m3 an0m3 : Option Addr} {sl0m3 : Array (Option Value)} {oc0m3 dc0m3 pm0m3 cd0m3 ct0m3 : Value} {kt0m3 : Tok} {f0m4 : Addr} {od0m4 an0m4 : Option Addr} {sl0m4 : Array (Option Value)} {oc0m4 kv0m4 dc0m4 pm0m4 cd0m4 ct0m4 : Value}
    (y0_0 : PySem.W.nsIn K mainGlobals "WireTree" = some (some (.ref yC0))) (y0_4 : PySem.W.findIn K (.ref yC0) "__setattr__" = some (some (.builtin "object.__setattr__"))) (y0_10 : PySem.W.findIn K (.ref yC0) "__init__" = some (some (.ref f0m0))) (y0_15 : PySem.W.findIn K (.ref yC0) "path" = some (some (.ref f0m1))) (y0_20 : PySem.W.findIn K (.ref yC0) "delay" = some (some (.ref f0m2))) (y0_26 : PySem.W.findIn K (.ref yC0) "delay_range" = some (some (.ref f0m3))) (y0_31 : PySem.W.findIn K (.ref yC0) "_check_node" = some (some (.ref f0m4))) (y0_33 : PySem.W.findIn K (.ref yC0) "_parents" = some none) (y0_34 : PySem.W.findIn K (.ref yC0) "_resistances" = some none) (y0_35 : PySem.W.findIn K (.ref yC0) "_capacitances" = some none) (y0_1 : PySem.W.plainGet K yC0 Str.empty = true) (y0_2 : PySem.W.hasDictIn K yC0 = true) (y0_3 : PySem.W.plainOver K yC0 = true) (y0_5 : PySem.W.makesIn K yC0 = true) (y0_6 : PySem.W.keepIn K (.ref yC0) = true) (y0_7 : K.lookup f0m0 = some ⟨oc0m0, od0m0, .func (PySem.W.fnOf "__init__" "WireTree.__init__" (defArgs s_WireTree_init) (defBody s_WireTree_init) (defScope s_WireTree_init) .none kv0m0 dc0m0 pm0m0 an0m0 cd0m0 ct0m0), sl0m0⟩) (y0_8 : PySem.W.codeIn K cd0m0 "WireTree.__init__" = true) (y0_9 : PySem.W.keepIn K (.ref f0m0) = true) (y0_11 : PySem.W.isFn K (.ref f0m0) = true) (y0_12 : K.lookup f0m1 = some ⟨oc0m1, od0m1, .func (PySem.W.fnOf "path" "WireTree.path" (defArgs s_WireTree_path) (defBody s_WireTree_path) (defScope s_WireTree_path) .none kv0m1 dc0m1 pm0m1 an0m1 cd0m1 ct0m1), sl0m1⟩) (y0_13 : PySem.W.codeIn K cd0m1 "WireTree.path" = true) (y0_14 : PySem.W.keepIn K (.ref f0m1) = true) (y0_16 : PySem.W.isFn K (.ref f0m1) = true) (y0_17 : K.lookup f0m2 = some ⟨oc0m2, od0m2, .func (PySem.W.fnOf "delay" "WireTree.delay" (defArgs s_WireTree_delay) (defBody s_WireTree_delay) (defScope s_WireTree_delay) .none kv0m2 dc0m2 pm0m2 an0m2 cd0m2 ct0m2), sl0m2⟩) (y0_18 : PySem.W.codeIn K cd0m2 "WireTree.delay" = true) (y0_19 : PySem.W.keepIn K (.ref f0m2) = true) (y0_21 : PySem.W.isFn K (.ref f0m2) = true) (y0_22 : K.lookup f0m3 = some ⟨oc0m3, od0m3, .func (PySem.W.fnOf "delay_range" "WireTree.delay_range" (defArgs s_WireTree_delay_range) (defBody s_WireTree_delay_range) (defScope s_WireTree_delay_range) .none (.ref kd0m3) dc0m3 pm0m3 an0m3 cd0m3 ct0m3), sl0m3⟩) (y0_23 : PySem.W.codeIn K cd0m3 "WireTree.delay_range" = true) (y0_24 : PySem.W.keepIn K (.ref f0m3) = true) (y0_25 : PySem.W.nsIn K kd0m3 "unit" = some (some (.int 1 kt0m3))) (y0_27 : PySem.W.isFn K (.ref f0m3) = true) (y0_28 : K.lookup f0m4 = some ⟨oc0m4, od0m4, .func (PySem.W.fnOf "_check_node" "WireTree._check_node" (defArgs s_WireTree_check_node) (defBody s_WireTree_check_node) (defScope s_WireTree_check_node) .none kv0m4 dc0m4 pm0m4 an0m4 cd0m4 ct0m4), sl0m4⟩) (y0_29 : PySem.W.codeIn K cd0m4 "WireTree._check_node" = true) (y0_30 : PySem.W.keepIn K (.ref f0m4) = true) (y0_32 : PySem.W.isFn K (.ref f0m4) = true)
    (z0 : PySem.W.nsIn K mainGlobals "tuple" = some none) (z1 : PySem.W.nsIn K mainGlobals "zip" = some none) (z2 : PySem.W.nsIn K mainGlobals "list" = some none) (z3 : PySem.W.nsIn K mainGlobals "enumerate" = some none) (z4 : PySem.W.nsIn K mainGlobals "len" = some none) (z5 : PySem.W.nsIn K mainGlobals "range" = some none) (z6 : PySem.W.nsIn K mainGlobals "sum" = some none) (z7 : PySem.W.nsIn K mainGlobals "int" = some none) (z8 : PySem.W.nsIn K mainGlobals "isinstance" = some none) (z9 : PySem.W.nsIn K mainGlobals "bool" = some none) (z10 : PySem.W.nsIn K mainGlobals "str" = some none) (z11 : PySem.W.nsIn K mainGlobals "ValueError" = some none) :
    ∃ fd : FuncData, (∀ (s : Shared) (v : Value), BindsTo s fd ⟨[v], []⟩ [("script", v)]) ∧ ∀ base : Heap, K.In base → base.Ns mainGlobals mg → FnOk l.prog w K mg base CX0 9 fa fd ["script"] (spLaw K) := by
  have e := hfa.symm.trans (PySem.W.mg_of X G a23)
  cases e
  have F0 := fun_mk (st := s_wall) l0 c0 k0
  have F1 := fun_mk (st := s_check_nets) l1 c1 k1
  have F2 := fun_mk (st := s_with_ranges) l2 c2 k2
  have F3 := fun_mk (st := s_all_names) l3 c3 k3
  have F4 := fun_mk (st := s_loaded) l4 c4 k4
  have F5 := fun_mk (st := s_check_connected) l5 c5 k5
  have F6 := fun_mk (st := s_added) l6 c6 k6
  have F7 := fun_mk (st := s_law_pool) l7 c7 k7
  have F8 := fun_mk (st := s_law_spread) l8 c8 k8
  have F9 := fun_mk (st := s_law_draw) l9 c9 k9
  have F10 := fun_mk (st := s_law_same) l10 c10 k10
  have F11 := fun_mk (st := s_law_bits) l11 c11 k11
  have F12 := fun_mk (st := s_law_table) l12 c12 k12
  have F13 := fun_mk (st := s_law_register) l13 c13 k13
  have F14 := fun_mk (st := s_law_shuffled) l14 c14 k14
  have F15 := fun_mk (st := s_law_circuit) l15 c15 k15
  have F16 := fun_mk (st := s_law_segments) l16 c16 k16
  have F17 := fun_mk (st := s_law_path) l17 c17 k17
  have F18 := fun_mk (st := s_law_delay) l18 c18 k18
  have F19 := fun_mk (st := s_law_told) l19 c19 k19
  have F20 := fun_mk (st := s_law_pins) l20 c20 k20
  have F21 := fun_mk (st := s_law_wired) l21 c21 k21
  have F22 := fun_mk (st := s_law_wrong) l22 c22 k22
  have F23 := fun_mk (st := s_law) l23 c23 k23
  have A : All K mg := ⟨⟨f0, _, F0, PySem.W.mg_of X G a0, F0.binds (ps := ["k"]) fun _ _ _ _ _ _ us hl => match us, hl with | [_], _ => rfl⟩,
    ⟨f1, _, F1, PySem.W.mg_of X G a1, F1.binds (ps := ["circuit", "names"]) fun _ _ _ _ _ _ us hl => match us, hl with | [_, _], _ => rfl⟩,
    ⟨f2, _, F2, PySem.W.mg_of X G a2, F2.binds (ps := ["circuit", "rows"]) fun _ _ _ _ _ _ us hl => match us, hl with | [_, _], _ => rfl⟩,
    ⟨f3, _, F3, PySem.W.mg_of X G a3, F3.binds (ps := ["circuit"]) fun _ _ _ _ _ _ us hl => match us, hl with | [_], _ => rfl⟩,
    ⟨f4, _, F4, PySem.W.mg_of X G a4, Fun.kbn1 (n := 2) (ps := ["circuit", "wires", "unit"]) F4 fun _ _ _ _ _ _ _ us hl => match us, hl with | [_, _], _ => rfl, kwd1 (y := "unit") (n := 2) (ps := ["circuit", "wires", "unit"]) (st := s_loaded) l4 c4 k4 ⟨_, w4, ⟨_, rfl⟩⟩ fun _ _ _ _ _ _ us ks h1 h2 => match us, ks, h1, h2 with | [_, _], [_], _, _ => ⟨_, _, _, _, _, _, rfl, rfl, rfl⟩⟩,
    ⟨f5, _, F5, PySem.W.mg_of X G a5, F5.binds (ps := ["circuit", "net", "g", "pin"]) fun _ _ _ _ _ _ us hl => match us, hl with | [_, _, _, _], _ => rfl⟩,
    ⟨f6, _, F6, PySem.W.mg_of X G a6, F6.binds (ps := ["pair", "delay"]) fun _ _ _ _ _ _ us hl => match us, hl with | [_, _], _ => rfl⟩,
    ⟨f7, _, F7, PySem.W.mg_of X G a7, F7.binds (ps := ["script"]) fun _ _ _ _ _ _ us hl => match us, hl with | [_], _ => rfl⟩,
    ⟨f8, _, F8, PySem.W.mg_of X G a8, F8.binds (ps := ["cell"]) fun _ _ _ _ _ _ us hl => match us, hl with | [_], _ => rfl⟩,
    ⟨f9, _, F9, PySem.W.mg_of X G a9, F9.binds (ps := ["pool", "many"]) fun _ _ _ _ _ _ us hl => match us, hl with | [_, _], _ => rfl⟩,
    ⟨f10, _, F10, PySem.W.mg_of X G a10, F10.binds (ps := ["actual", "due"]) fun _ _ _ _ _ _ us hl => match us, hl with | [_, _], _ => rfl⟩,
    ⟨f11, _, F11, PySem.W.mg_of X G a11, F11.binds (ps := ["index", "many"]) fun _ _ _ _ _ _ us hl => match us, hl with | [_, _], _ => rfl⟩,
    ⟨f12, _, F12, PySem.W.mg_of X G a12, F12.binds (ps := ["pool", "many"]) fun _ _ _ _ _ _ us hl => match us, hl with | [_, _], _ => rfl⟩,
    ⟨f13, _, F13, PySem.W.mg_of X G a13, F13.binds (ps := ["pool", "name", "net"]) fun _ _ _ _ _ _ us hl => match us, hl with | [_, _, _], _ => rfl⟩,
    ⟨f14, _, F14, PySem.W.mg_of X G a14, F14.binds (ps := ["pool", "rows"]) fun _ _ _ _ _ _ us hl => match us, hl with | [_, _], _ => rfl⟩,
    ⟨f15, _, F15, PySem.W.mg_of X G a15, F15.binds (ps := ["pool", "most"]) fun _ _ _ _ _ _ us hl => match us, hl with | [_, _], _ => rfl⟩,
    ⟨f16, _, F16, PySem.W.mg_of X G a16, F16.binds (ps := ["pool", "most"]) fun _ _ _ _ _ _ us hl => match us, hl with | [_, _], _ => rfl⟩,
    ⟨f17, _, F17, PySem.W.mg_of X G a17, F17.binds (ps := ["segments", "node"]) fun _ _ _ _ _ _ us hl => match us, hl with | [_, _], _ => rfl⟩,
    ⟨f18, _, F18, PySem.W.mg_of X G a18, F18.binds (ps := ["segments", "node", "resistances", "capacitances"]) fun _ _ _ _ _ _ us hl => match us, hl with | [_, _, _, _], _ => rfl⟩,
    ⟨f19, _, F19, PySem.W.mg_of X G a19, F19.binds (ps := ["circuit", "wires", "unit"]) fun _ _ _ _ _ _ us hl => match us, hl with | [_, _, _], _ => rfl⟩,
    ⟨f20, _, F20, PySem.W.mg_of X G a20, F20.binds (ps := ["circuit", "net"]) fun _ _ _ _ _ _ us hl => match us, hl with | [_, _], _ => rfl⟩,
    ⟨f21, _, F21, PySem.W.mg_of X G a21, F21.binds (ps := ["pool", "circuit", "unit"]) fun _ _ _ _ _ _ us hl => match us, hl with | [_, _, _], _ => rfl⟩,
    ⟨f22, _, F22, PySem.W.mg_of X G a22, F22.binds (ps := ["pool", "circuit", "wires"]) fun _ _ _ _ _ _ us hl => match us, hl with | [_, _, _], _ => rfl⟩,
    PySem.W.mg_none_of X G z0,
    PySem.W.mg_none_of X G z1,
    PySem.W.mg_none_of X G z2,
    PySem.W.mg_none_of X G z3,
    PySem.W.mg_none_of X G z4,
    PySem.W.mg_none_of X G z5,
    PySem.W.mg_none_of X G z6,
    PySem.W.mg_none_of X G z7,
    PySem.W.mg_none_of X G z8,
    PySem.W.mg_none_of X G z9,
    PySem.W.mg_none_of X G z10,
    PySem.W.mg_none_of X G z11,
    ⟨yC0, ⟨PySem.W.mg_of X G y0_0, ⟨y0_1, y0_2, y0_3, y0_4⟩, ⟨f0m0, _, ⟨y0_5, y0_10, y0_11, y0_6⟩, (fun_mk (st := s_WireTree_init) y0_7 y0_8 y0_9), (fun_mk (st := s_WireTree_init) y0_7 y0_8 y0_9).binds (ps := ["self", "segments"]) fun _ _ _ _ _ _ us hl => match us, hl with | [_, _], _ => rfl⟩, ⟨f0m1, _, ⟨y0_15, y0_16, y0_14⟩, (fun_mk (st := s_WireTree_path) y0_12 y0_13 y0_14), (fun_mk (st := s_WireTree_path) y0_12 y0_13 y0_14).binds (ps := ["self", "node"]) fun _ _ _ _ _ _ us hl => match us, hl with | [_, _], _ => rfl⟩, ⟨f0m2, _, ⟨y0_20, y0_21, y0_19⟩, (fun_mk (st := s_WireTree_delay) y0_17 y0_18 y0_19), (fun_mk (st := s_WireTree_delay) y0_17 y0_18 y0_19).binds (ps := ["self", "node", "resistances", "capacitances"]) fun _ _ _ _ _ _ us hl => match us, hl with | [_, _, _, _], _ => rfl⟩, ⟨f0m3, _, ⟨y0_26, y0_27, y0_24⟩, (fun_mk (st := s_WireTree_delay_range) y0_22 y0_23 y0_24), Fun.kbn1 (n := 2) (ps := ["self", "node", "unit"]) (fun_mk (st := s_WireTree_delay_range) y0_22 y0_23 y0_24) fun _ _ _ _ _ _ _ us hl => match us, hl with | [_, _], _ => rfl, kwd1 (y := "unit") (n := 2) (ps := ["self", "node", "unit"]) (st := s_WireTree_delay_range) y0_22 y0_23 y0_24 ⟨_, y0_25, ⟨_, rfl⟩⟩ fun _ _ _ _ _ _ us ks h1 h2 => match us, ks, h1, h2 with | [_, _], [_], _, _ => ⟨_, _, _, _, _, _, rfl, rfl, rfl⟩⟩, ⟨f0m4, _, ⟨y0_31, y0_32, y0_30⟩, (fun_mk (st := s_WireTree_check_node) y0_28 y0_29 y0_30), (fun_mk (st := s_WireTree_check_node) y0_28 y0_29 y0_30).binds (ps := ["self", "node"]) fun _ _ _ _ _ _ us hl => match us, hl with | [_, _], _ => rfl⟩, y0_33, y0_34, y0_35⟩⟩,
    ⟨iC0, ⟨⟨PySem.W.mg_of X G w0_0, w0_1, w0_2, w0_3, w0_4⟩, w0_5, w0_6, ⟨w0_7, w0_8, w0_3, w0_5, w0_9, w0_10, w0_11, w0_12⟩⟩, ⟨iD0_0, PySem.W.mg_of X G w0_13, w0_14⟩, ⟨iD0_1, PySem.W.mg_of X G w0_15, w0_16⟩, ⟨iD0_2, PySem.W.mg_of X G w0_17, PySem.W.exm_ref w0_18 w0_19 w0_20 w0_21⟩⟩,
    ⟨iC1, ⟨⟨PySem.W.mg_of X G w1_0, w1_1, w1_2, w1_3, w1_4⟩, w1_5, w1_6, ⟨w1_7, w1_8, w1_3, w1_5, w1_9, w1_10, w1_11, w1_12⟩⟩, ⟨iD1_0, PySem.W.mg_of X G w1_13, w1_14⟩, ⟨iD1_1, PySem.W.mg_of X G w1_15, w1_16⟩, ⟨iD1_2, PySem.W.mg_of X G w1_17, PySem.W.exm_ref w1_18 w1_19 w1_20 w1_21⟩⟩,
    ⟨iC2, ⟨⟨PySem.W.mg_of X G w2_0, w2_1, w2_2, w2_3, w2_4⟩, w2_5, w2_6, ⟨w2_7, w2_8, w2_3, w2_5, w2_9, w2_10, w2_11, w2_12⟩⟩⟩,
    ⟨iC3, ⟨⟨PySem.W.mg_of X G w3_0, w3_1, w3_2, w3_3, w3_4⟩, w3_5, w3_6, ⟨w3_7, w3_8, w3_3, w3_5, w3_9, w3_10, w3_11, w3_12⟩⟩⟩⟩
  exact ⟨_, fun s v => .of_eq rfl, fun base _ _ => glue A F23⟩
end G
open PySem PySem.W PyProof.Rows
set_option maxRecDepth 100000 in
set_option maxHeartbeats 0 in
theorem PySem.Challenge.cw_signoff_k30_loaded_circuits_holds : PySem.Challenge.rw_signoff_k30_loaded_circuits.Holds := by
  w_on; o_law; k_head; (case hw => w_witness2)
  k_fill
  refine L2.walk_of (l := PySem.Challenge.rw_signoff_k30_loaded_circuits) (n := 63) (k := 9) (x := "script") (CX := fun _ => L2.CX0) (sp := fun w => G.spLaw _) rfl (by decide) rfl ⟨rfl, by decide, by decide⟩ (fun w h Y => PySem.W.kIn_of Y) ?F (fun _ _ a ns hl _ hS => ⟨a, ns, rfl, hS, hl, fun _ => rfl⟩) (fun _ _ _ _ _ h => h)
  case F =>
    intro w mg fa h KX GN hmg
    refine' G.all_mk KX GN hmg ?a0 ?l0 ?c0 ?k0 ?a1 ?l1 ?c1 ?k1 ?a2 ?l2 ?c2 ?k2 ?a3 ?l3 ?c3 ?k3 ?a4 ?l4 ?c4 ?k4 ?w4 ?a5 ?l5 ?c5 ?k5 ?a6 ?l6 ?c6 ?k6 ?a7 ?l7 ?c7 ?k7 ?a8 ?l8 ?c8 ?k8 ?a9 ?l9 ?c9 ?k9 ?a10 ?l10 ?c10 ?k10 ?a11 ?l11 ?c11 ?k11 ?a12 ?l12 ?c12 ?k12 ?a13 ?l13 ?c13 ?k13 ?a14 ?l14 ?c14 ?k14 ?a15 ?l15 ?c15 ?k15 ?a16 ?l16 ?c16 ?k16 ?a17 ?l17 ?c17 ?k17 ?a18 ?l18 ?c18 ?k18 ?a19 ?l19 ?c19 ?k19 ?a20 ?l20 ?c20 ?k20 ?a21 ?l21 ?c21 ?k21 ?a22 ?l22 ?c22 ?k22 ?a23 ?l23 ?c23 ?k23 ?xw0_0 ?xw0_1 ?xw0_2 ?xw0_3 ?xw0_4 ?xw0_5 ?xw0_6 ?xw0_7 ?xw0_8 ?xw0_9 ?xw0_10 ?xw0_11 ?xw0_12 ?xw0_13 ?xw0_14 ?xw0_15 ?xw0_16 ?xw0_17 ?xw0_18 ?xw0_19 ?xw0_20 ?xw0_21 ?xw1_0 ?xw1_1 ?xw1_2 ?xw1_3 ?xw1_4 ?xw1_5 ?xw1_6 ?xw1_7 ?xw1_8 ?xw1_9 ?xw1_10 ?xw1_11 ?xw1_12 ?xw1_13 ?xw1_14 ?xw1_15 ?xw1_16 ?xw1_17 ?xw1_18 ?xw1_19 ?xw1_20 ?xw1_21 ?xw2_0 ?xw2_1 ?xw2_2 ?xw2_3 ?xw2_4 ?xw2_5 ?xw2_6 ?xw2_7 ?xw2_8 ?xw2_9 ?xw2_10 ?xw2_11 ?xw2_12 ?xw3_0 ?xw3_1 ?xw3_2 ?xw3_3 ?xw3_4 ?xw3_5 ?xw3_6 ?xw3_7 ?xw3_8 ?xw3_9 ?xw3_10 ?xw3_11 ?xw3_12 ?vy0_0 ?vy0_4 ?vy0_10 ?vy0_15 ?vy0_20 ?vy0_26 ?vy0_31 ?vy0_33 ?vy0_34 ?vy0_35 ?vy0_1 ?vy0_2 ?vy0_3 ?vy0_5 ?vy0_6 ?vy0_7 ?vy0_8 ?vy0_9 ?vy0_11 ?vy0_12 ?vy0_13 ?vy0_14 ?vy0_16 ?vy0_17 ?vy0_18 ?vy0_19 ?vy0_21 ?vy0_22 ?vy0_23 ?vy0_24 ?vy0_25 ?vy0_27 ?vy0_28 ?vy0_29 ?vy0_30 ?vy0_32 ?z0 ?z1 ?z2 ?z3 ?z4 ?z5 ?z6 ?z7 ?z8 ?z9 ?z10 ?z11
    (case a0 => k_is)
    (case l0 => k_is)
    (case c0 => k_is)
    (case k0 => k_is)
    (case a1 => k_is)
    (case l1 => k_is)
    (case c1 => k_is)
    (case k1 => k_is)
    (case a2 => k_is)
    (case l2 => k_is)
    (case c2 => k_is)
    (case k2 => k_is)
    (case a3 => k_is)
    (case l3 => k_is)
    (case c3 => k_is)
    (case k3 => k_is)
    (case a4 => k_is)
    (case l4 => k_is)
    (case c4 => k_is)
    (case k4 => k_is)
    (case w4 => k_is)
    (case a5 => k_is)
    (case l5 => k_is)
    (case c5 => k_is)
    (case k5 => k_is)
    (case a6 => k_is)
    (case l6 => k_is)
    (case c6 => k_is)
    (case k6 => k_is)
    (case a7 => k_is)
    (case l7 => k_is)
    (case c7 => k_is)
    (case k7 => k_is)
    (case a8 => k_is)
    (case l8 => k_is)
    (case c8 => k_is)
    (case k8 => k_is)
    (case a9 => k_is)
    (case l9 => k_is)
    (case c9 => k_is)
    (case k9 => k_is)
    (case a10 => k_is)
    (case l10 => k_is)
    (case c10 => k_is)
    (case k10 => k_is)
    (case a11 => k_is)
    (case l11 => k_is)
    (case c11 => k_is)
    (case k11 => k_is)
    (case a12 => k_is)
    (case l12 => k_is)
    (case c12 => k_is)
    (case k12 => k_is)
    (case a13 => k_is)
    (case l13 => k_is)
    (case c13 => k_is)
    (case k13 => k_is)
    (case a14 => k_is)
    (case l14 => k_is)
    (case c14 => k_is)
    (case k14 => k_is)
    (case a15 => k_is)
    (case l15 => k_is)
    (case c15 => k_is)
    (case k15 => k_is)
    (case a16 => k_is)
    (case l16 => k_is)
    (case c16 => k_is)
    (case k16 => k_is)
    (case a17 => k_is)
    (case l17 => k_is)
    (case c17 => k_is)
    (case k17 => k_is)
    (case a18 => k_is)
    (case l18 => k_is)
    (case c18 => k_is)
    (case k18 => k_is)
    (case a19 => k_is)
    (case l19 => k_is)
    (case c19 => k_is)
    (case k19 => k_is)
    (case a20 => k_is)
    (case l20 => k_is)
    (case c20 => k_is)
    (case k20 => k_is)
    (case a21 => k_is)
    (case l21 => k_is)
    (case c21 => k_is)
    (case k21 => k_is)
    (case a22 => k_is)
    (case l22 => k_is)
    (case c22 => k_is)
    (case k22 => k_is)
    (case a23 => k_is)
    (case l23 => k_is)
    (case c23 => k_is)
    (case k23 => k_is)
    (case xw0_0 => first | k_exc | k_is | rfl)
    (case xw0_1 => first | k_exc | k_is | rfl)
    (case xw0_2 => first | k_exc | k_is | rfl)
    (case xw0_3 => first | k_exc | k_is | rfl)
    (case xw0_4 => first | k_exc | k_is | rfl)
    (case xw0_5 => first | k_exc | k_is | rfl)
    (case xw0_6 => first | k_exc | k_is | rfl)
    (case xw0_7 => first | k_exc | k_is | rfl)
    (case xw0_8 => first | k_exc | k_is | rfl)
    (case xw0_9 => first | k_exc | k_is | rfl)
    (case xw0_10 => first | k_exc | k_is | rfl)
    (case xw0_11 => first | k_exc | k_is | rfl)
    (case xw0_12 => first | k_exc | k_is | rfl)
    (case xw0_13 => first | k_exc | k_is | rfl)
    (case xw0_14 => first | k_exc | k_is | rfl)
    (case xw0_15 => first | k_exc | k_is | rfl)
    (case xw0_16 => first | k_exc | k_is | rfl)
    (case xw0_17 => first | k_exc | k_is | rfl)
    (case xw0_18 => first | k_exc | k_is | rfl)
    (case xw0_19 => first | k_exc | k_is | rfl)
    (case xw0_20 => first | k_exc | k_is | rfl)
    (case xw0_21 => first | k_exc | k_is | rfl)
    (case xw1_0 => first | k_exc | k_is | rfl)
    (case xw1_1 => first | k_exc | k_is | rfl)
    (case xw1_2 => first | k_exc | k_is | rfl)
    (case xw1_3 => first | k_exc | k_is | rfl)
    (case xw1_4 => first | k_exc | k_is | rfl)
    (case xw1_5 => first | k_exc | k_is | rfl)
    (case xw1_6 => first | k_exc | k_is | rfl)
    (case xw1_7 => first | k_exc | k_is | rfl)
    (case xw1_8 => first | k_exc | k_is | rfl)
    (case xw1_9 => first | k_exc | k_is | rfl)
    (case xw1_10 => first | k_exc | k_is | rfl)
    (case xw1_11 => first | k_exc | k_is | rfl)
    (case xw1_12 => first | k_exc | k_is | rfl)
    (case xw1_13 => first | k_exc | k_is | rfl)
    (case xw1_14 => first | k_exc | k_is | rfl)
    (case xw1_15 => first | k_exc | k_is | rfl)
    (case xw1_16 => first | k_exc | k_is | rfl)
    (case xw1_17 => first | k_exc | k_is | rfl)
    (case xw1_18 => first | k_exc | k_is | rfl)
    (case xw1_19 => first | k_exc | k_is | rfl)
    (case xw1_20 => first | k_exc | k_is | rfl)
    (case xw1_21 => first | k_exc | k_is | rfl)
    (case xw2_0 => first | k_exc | k_is | rfl)
    (case xw2_1 => first | k_exc | k_is | rfl)
    (case xw2_2 => first | k_exc | k_is | rfl)
    (case xw2_3 => first | k_exc | k_is | rfl)
    (case xw2_4 => first | k_exc | k_is | rfl)
    (case xw2_5 => first | k_exc | k_is | rfl)
    (case xw2_6 => first | k_exc | k_is | rfl)
    (case xw2_7 => first | k_exc | k_is | rfl)
    (case xw2_8 => first | k_exc | k_is | rfl)
    (case xw2_9 => first | k_exc | k_is | rfl)
    (case xw2_10 => first | k_exc | k_is | rfl)
    (case xw2_11 => first | k_exc | k_is | rfl)
    (case xw2_12 => first | k_exc | k_is | rfl)
    (case xw3_0 => first | k_exc | k_is | rfl)
    (case xw3_1 => first | k_exc | k_is | rfl)
    (case xw3_2 => first | k_exc | k_is | rfl)
    (case xw3_3 => first | k_exc | k_is | rfl)
    (case xw3_4 => first | k_exc | k_is | rfl)
    (case xw3_5 => first | k_exc | k_is | rfl)
    (case xw3_6 => first | k_exc | k_is | rfl)
    (case xw3_7 => first | k_exc | k_is | rfl)
    (case xw3_8 => first | k_exc | k_is | rfl)
    (case xw3_9 => first | k_exc | k_is | rfl)
    (case xw3_10 => first | k_exc | k_is | rfl)
    (case xw3_11 => first | k_exc | k_is | rfl)
    (case xw3_12 => first | k_exc | k_is | rfl)
    (case vy0_0 => k_is)
    (case vy0_4 => k_is)
    (case vy0_10 => k_is)
    (case vy0_15 => k_is)
    (case vy0_20 => k_is)
    (case vy0_26 => k_is)
    (case vy0_31 => k_is)
    (case vy0_33 => k_is)
    (case vy0_34 => k_is)
    (case vy0_35 => k_is)
    (case vy0_1 => k_is)
    (case vy0_2 => k_is)
    (case vy0_3 => k_is)
    (case vy0_5 => k_is)
    (case vy0_6 => k_is)
    (case vy0_7 => k_is)
    (case vy0_8 => k_is)
    (case vy0_9 => k_is)
    (case vy0_11 => k_is)
    (case vy0_12 => k_is)
    (case vy0_13 => k_is)
    (case vy0_14 => k_is)
    (case vy0_16 => k_is)
    (case vy0_17 => k_is)
    (case vy0_18 => k_is)
    (case vy0_19 => k_is)
    (case vy0_21 => k_is)
    (case vy0_22 => k_is)
    (case vy0_23 => k_is)
    (case vy0_24 => k_is)
    (case vy0_25 => k_is)
    (case vy0_27 => k_is)
    (case vy0_28 => k_is)
    (case vy0_29 => k_is)
    (case vy0_30 => k_is)
    (case vy0_32 => k_is)
    (case z0 => k_is)
    (case z1 => k_is)
    (case z2 => k_is)
    (case z3 => k_is)
    (case z4 => k_is)
    (case z5 => k_is)
    (case z6 => k_is)
    (case z7 => k_is)
    (case z8 => k_is)
    (case z9 => k_is)
    (case z10 => k_is)
    (case z11 => k_is)
#print axioms PySem.Challenge.cw_signoff_k30_loaded_circuits_holds
