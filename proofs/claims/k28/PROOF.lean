import PyProof.Rows.All
import Wide.All
import OpenK.AllK
import Wide.FinOn
import HandS.ForMost
import HandS.Evl
import HandS.Wide
import HandS.WideBits
import HandS.Flow
import HandS.IsInst
import HandS.TupAny
import HandS.Walk
import HandS.Zip
import HandS.Steps
import KE.GoesMore
import KE.GoesEnum
import KE.KEqSeq
import HandS.ForExc
import HandS.ExcIs
import HandS.Property
import HandS.Style
import HandS.Small
import HandS.FStr
import HandS.StrMore
import HandS.SetKeys
import HandS.Strs
import HandS.DictComp
import PyProof.StrLawsFirst
import HandS.CallSlots
import HandS.Defaults
import PySem.Challenge.RW_signoff_k28_wire_trees
set_option Elab.async false
set_option linter.all false
set_option maxRecDepth 100000
set_option maxHeartbeats 4000000
set_option Elab.async false
set_option linter.all false
set_option maxRecDepth 100000
set_option maxHeartbeats 4000000
namespace G
open PySem PySem.Spec PyProof.Rows L2 Evl
/-! ## defs by name -/
def Dfd (K : PySem.W.Frag) (mg : Str → Option Value) (x : Str) (st : Stmt) (ps : List Str) : Prop := ∃ (f : Addr) (fd : FuncData), Fun K x x st f fd ∧ mg x = some (.ref f) ∧ Binds K fd ps []
def Has (P : Program) (w : World) (K : PySem.W.Frag) (mg : Str → Option Value) (base : Heap) (k : Nat) (x : Str) (ps : List Str) (sp : Sp) : Prop :=
  ∃ (f : Addr) (fd : FuncData), FnOk P w K mg base CX0 k f fd ps sp ∧ mg x = some (.ref f) ∧ PySem.W.keepIn K (.ref f) = true ∧ Binds K fd ps []
section
variable {P : Program} {w : World} {K : PySem.W.Frag} {mg : Str → Option Value} {base : Heap}
theorem Dfd.has {x : Str} {st : Stmt} {ps : List Str} {k : Nat} {sp : Sp} (d : Dfd K mg x st ps) (h : ∀ f fd, Fun K x x st f fd → FnOk P w K mg base CX0 k f fd ps sp) : Has P w K mg base k x ps sp := by
  obtain ⟨f, fd, F, g, b⟩ := d
  exact ⟨f, fd, h f fd F, g, F.kp, b⟩
theorem Has.mono {x : Str} {ps : List Str} {j k : Nat} {sp : Sp} (h : Has P w K mg base j x ps sp) (l : j ≤ k) : Has P w K mg base k x ps sp := by
  obtain ⟨f, fd, F, g⟩ := h
  exact ⟨f, fd, F.mono l, g⟩
theorem Has.imp {x : Str} {ps : List Str} {k : Nat} {sp sp' : Sp} (h : Has P w K mg base k x ps sp) (i : ∀ vs H Q E, sp' vs H Q E → sp vs H Q E) : Has P w K mg base k x ps sp' := by
  obtain ⟨f, fd, F, g⟩ := h
  exact ⟨f, fd, F.imp i, g⟩
end
/-! ## heaps -/
theorem sq_ex {K : PySem.W.Frag} {H H' : Hp} {a : Addr} {xs : List V} (e : Ex H H') (h : SqL K H a xs) : SqL K H' a xs := ex_l e h
/-- the heap without what stands at p -/
def hid (p : Addr) (H : Hp) : Hp := fun b => if b = p then none else H b
theorem hid_self {p : Addr} {H : Hp} : hid p H p = none := by unfold hid; rw [if_pos rfl]
theorem hid_ne {p b : Addr} {H : Hp} (h : b ≠ p) : hid p H b = H b := by unfold hid; rw [if_neg h]
theorem hid_get {p b : Addr} {H : Hp} {o : HO} (h : hid p H b = some o) : H b = some o := by
  by_cases e : b = p
  · subst e; rw [hid_self] at h; cases h
  · rw [hid_ne e] at h; exact h
theorem hid_neq {p b : Addr} {H : Hp} {o : HO} (h : hid p H b = some o) : b ≠ p := by
  intro e; subst e; rw [hid_self] at h; cases h
theorem hid_ex {p : Addr} {H : Hp} : Ex (hid p H) H := fun _ _ h => hid_get h
theorem hid_upd {p : Addr} {H : Hp} {o : HO} : hid p (upd H p o) = hid p H := by
  funext b
  by_cases e : b = p
  · subst e; rw [hid_self, hid_self]
  · rw [hid_ne e, hid_ne e, upd_ne e]
theorem hid_upd_ne {p q : Addr} {H : Hp} {o : HO} (h : q ≠ p) : hid p (upd H q o) = upd (hid p H) q o := by
  funext b
  by_cases e2 : b = q
  · subst e2; rw [hid_ne h, upd_same, upd_same]
  · rw [upd_ne e2]
    by_cases e : b = p
    · subst e; rw [hid_self, hid_self]
    · rw [hid_ne e, hid_ne e, upd_ne e2]
theorem hid_none {p b : Addr} {H : Hp} (h : H b = none) : hid p H b = none := by
  unfold hid; split
  · rfl
  · exact h
/-! ## the pool of draws: the list at p, the script's copy at a -/
def PoolOk (p a : Addr) (H : Hp) : Prop := ∃ (ns : List Int) (i : Nat) (c k s : Int), H p = some (.lst [.ref a, .int i, .int c, .int k, .int s]) ∧ hid p H a = some (.lst (ns.map V.int)) ∧ ns.length ≤ 1000
/-- from H to H' all but the pool is kept, and the pool is a pool -/
structure Px (p a : Addr) (H H' : Hp) : Prop where
  was : PoolOk p a H
  pool : PoolOk p a H'
  ex : Ex (hid p H) (hid p H')
section
variable {p a : Addr} {H H1 H2 H' : Hp}
theorem Px.refl (h : PoolOk p a H) : Px p a H H := ⟨h, h, Ex.refl _⟩
theorem Px.trans (x : Px p a H H1) (y : Px p a H1 H2) : Px p a H H2 := ⟨x.was, y.pool, x.ex.trans y.ex⟩
theorem PoolOk.ne {b : Addr} (h : PoolOk p a H) (n : H b = none) : b ≠ p := by
  obtain ⟨_, _, _, _, _, e, _⟩ := h
  exact (ne_of_none e n).symm
theorem PoolOk.ne2 {b : Addr} (h : PoolOk p a H) (n : H b = none) : a ≠ b := by
  obtain ⟨_, _, _, _, _, _, e, _⟩ := h
  exact ne_of_none (hid_get e) n
theorem PoolOk.kept (h : PoolOk p a H) (e : Ex H H') : PoolOk p a H' := by
  obtain ⟨ns, i, c, k, s, h1, h2, h3⟩ := h
  exact ⟨ns, i, c, k, s, e _ _ h1, by rw [hid_ne (hid_neq h2)]; exact e _ _ (hid_get h2), h3⟩
theorem Px.ofEx (h : PoolOk p a H) (e : Ex H H') : Px p a H H' := ⟨h, h.kept e, fun b o hb => by rw [hid_ne (hid_neq hb)]; exact e _ _ (hid_get hb)⟩
theorem Px.more (x : Px p a H H1) (e : Ex H1 H2) : Px p a H H2 := x.trans (Px.ofEx x.pool e)
theorem Px.draw {o : HO} (w : PoolOk p a H) (h : PoolOk p a (upd H p o)) : Px p a H (upd H p o) := ⟨w, h, by rw [hid_upd]; exact Ex.refl _⟩
theorem Px.new (x : Px p a H H1) {l : Addr} {o : HO} (n : H1 l = none) : Px p a H (upd H1 l o) := x.more (Ex.new n)
/-- what H has is kept -/
theorem Px.get (x : Px p a H H1) {b : Addr} {o : HO} (h : hid p H b = some o) : hid p H1 b = some o := x.ex _ _ h
theorem Px.at_ (x : Px p a H H1) {b : Addr} {o : HO} (h : hid p H b = some o) : H1 b = some o := hid_get (x.ex _ _ h)
theorem Px.free (x : Px p a H H1) {b : Addr} (n : H1 b = none) : H b = none := by
  cases e : H b with
  | none => rfl
  | some o =>
    have hb : b ≠ p := x.pool.ne n
    have := x.ex b o (by rw [hid_ne hb]; exact e)
    rw [hid_get this] at n; cases n
/-- an object that H does not have may change -/
theorem Px.mut (x : Px p a H H1) {l : Addr} {o : HO} (n : H l = none) : Px p a H (upd H1 l o) := by
  have hl : l ≠ p := x.was.ne n
  have ha : a ≠ l := x.was.ne2 n
  refine ⟨x.was, ?_, ?_⟩
  · obtain ⟨ns, i, c, k, s, h1, h2, h3⟩ := x.pool
    exact ⟨ns, i, c, k, s, by rw [upd_ne hl.symm]; exact h1, by rw [hid_upd_ne hl, upd_ne ha]; exact h2, h3⟩
  · rw [hid_upd_ne hl]; exact Ex.mut x.ex (hid_none n)
/-- a fresh object stands apart from the pool -/
theorem Px.seen (x : Px p a H H1) {l : Addr} {o : HO} (n : H l = none) (e : H1 l = some o) : hid p H1 l = some o := by
  rw [hid_ne (x.was.ne n)]; exact e
end
end G
namespace G
open PySem PySem.Spec PyProof.Rows L2 Evl
/-! ## comprehensions whose elements are plain values -/
theorem given_all {n : Nat} {v : Nat → V} : given n (fun _ => true) v = (List.range n).map v := by
  unfold given
  rw [List.filter_eq_self.mpr (fun _ _ => rfl)]
section
variable {lo : Int} {n j : Nat} {tt : TT} {te : TE} {vs : List Nat} {σ : L2.St} {H1 : Hp} {D : Addr} {Qd : Hp → Prop} {K : PySem.W.Frag} {a : Addr} {xs : List V}
theorem lc_turn {f : Nat → Bool} {v : Nat → V} {i : Nat} {H : Hp} {σ2 : L2.St} (e : H = upd H1 D (.lst (given i f v))) (hi : i < 100000) (ht : Ans tt σ2 H (f i)) (he : f i = true → Val te σ2 H (v i)) :
    tt σ2 H fun b H3 => if b = true then te σ2 H3 fun y H4 => ∃ acc, H4 D = some (.lst acc) ∧ acc.length < sizeLine ∧ (upd H4 D (.lst (acc ++ [y]))) = upd H1 D (.lst (given (i + 1) f v)) else H3 = upd H1 D (.lst (given (i + 1) f v)) := by
  refine ht _ ?_
  subst e
  cases hf : f i with
  | true =>
    refine iteT (he hf _ ⟨_, upd_same, sz_lt (by have := given_len i f v; omega), ?_⟩)
    rw [given_yes hf, upd_upd]
  | false =>
    refine iteF ?_
    rw [given_no hf]
theorem lcR (f : Nat → Bool) (v : Nat → V) (hn : n ≤ 100000) (hw : ∀ x, wipe ((wipe σ vs).set j (some x)) vs = wipe σ vs)
    (ht : ∀ (i : Nat) (H : Hp), i < n → H = upd H1 D (.lst (given i f v)) → Ans tt ((wipe σ vs).set j (some (.int (lo + i)))) H (f i))
    (he : ∀ (i : Nat) (H : Hp), i < n → H = upd H1 D (.lst (given i f v)) → f i = true → Val te ((wipe σ vs).set j (some (.int (lo + i)))) H (v i)) (q : Qd (upd H1 D (.lst (given n f v)))) :
    ∃ W : Nat → Nat → Hp → Prop, (∃ m, W 0 m (upd H1 D (.lst []))) ∧ ∀ i m H, W i m H →
      ((Itr lo n).stop i H ∧ Qd H) ∨ ((Itr lo n).go i H ∧ ∃ Nx : Hp → Prop, (∀ H', Nx H' → ∃ m', m' < m ∧ W (i + 1) m' H') ∧ ∀ x H', (Itr lo n).yld i H x H' → gName j x (wipe σ vs) H' fun σ2 H2 => wipe σ2 vs = wipe σ vs ∧ tt σ2 H2 fun b H3 =>
        if b = true then te σ2 H3 fun y H4 => ∃ acc, H4 D = some (.lst acc) ∧ acc.length < sizeLine ∧ Nx (upd H4 D (.lst (acc ++ [y]))) else Nx H3) :=
  lc_range (fun i H => H = upd H1 D (.lst (given i f v))) rfl (fun i H hi e => ⟨hw _, lc_turn e (by omega) (ht i H hi e) (he i H hi e)⟩) (fun H e => by rw [e]; exact q)
theorem lcRv (v : Nat → V) (hn : n ≤ 100000) (hw : ∀ x, wipe ((wipe σ vs).set j (some x)) vs = wipe σ vs)
    (he : ∀ (i : Nat) (H : Hp), i < n → H = upd H1 D (.lst (given i (fun _ => true) v)) → Val te ((wipe σ vs).set j (some (.int (lo + i)))) H (v i)) (q : Qd (upd H1 D (.lst ((List.range n).map v)))) :
    ∃ W : Nat → Nat → Hp → Prop, (∃ m, W 0 m (upd H1 D (.lst []))) ∧ ∀ i m H, W i m H →
      ((Itr lo n).stop i H ∧ Qd H) ∨ ((Itr lo n).go i H ∧ ∃ Nx : Hp → Prop, (∀ H', Nx H' → ∃ m', m' < m ∧ W (i + 1) m' H') ∧ ∀ x H', (Itr lo n).yld i H x H' → gName j x (wipe σ vs) H' fun σ2 H2 => wipe σ2 vs = wipe σ vs ∧ tYes σ2 H2 fun b H3 =>
        if b = true then te σ2 H3 fun y H4 => ∃ acc, H4 D = some (.lst acc) ∧ acc.length < sizeLine ∧ Nx (upd H4 D (.lst (acc ++ [y]))) else Nx H3) :=
  lcR (fun _ => true) v hn hw (fun _ _ _ _ => fun _ q => q) (fun i H hi e _ => he i H hi e) (by rw [given_all]; exact q)
theorem lcL (f : Nat → Bool) (v : Nat → V) (hx : SqL K H1 a xs) (hD : H1 D = none) (hn : xs.length ≤ 100000) (hw : ∀ x, wipe ((wipe σ vs).set j (some x)) vs = wipe σ vs)
    (ht : ∀ (i : Nat) (x : V) (H : Hp), xs[i]? = some x → H = upd H1 D (.lst (given i f v)) → Ans tt ((wipe σ vs).set j (some x)) H (f i))
    (he : ∀ (i : Nat) (x : V) (H : Hp), xs[i]? = some x → H = upd H1 D (.lst (given i f v)) → f i = true → Val te ((wipe σ vs).set j (some x)) H (v i)) (q : Qd (upd H1 D (.lst (given xs.length f v)))) :
    ∃ W : Nat → Nat → Hp → Prop, (∃ m, W 0 m (upd H1 D (.lst []))) ∧ ∀ i m H, W i m H →
      ((Itl K a).stop i H ∧ Qd H) ∨ ((Itl K a).go i H ∧ ∃ Nx : Hp → Prop, (∀ H', Nx H' → ∃ m', m' < m ∧ W (i + 1) m' H') ∧ ∀ x H', (Itl K a).yld i H x H' → gName j x (wipe σ vs) H' fun σ2 H2 => wipe σ2 vs = wipe σ vs ∧ tt σ2 H2 fun b H3 =>
        if b = true then te σ2 H3 fun y H4 => ∃ acc, H4 D = some (.lst acc) ∧ acc.length < sizeLine ∧ Nx (upd H4 D (.lst (acc ++ [y]))) else Nx H3) :=
  lc_list (fun i H => H = upd H1 D (.lst (given i f v))) rfl (fun i H hi e => by rw [e]; exact ex_l (Ex.new hD) hx) (fun i x H hi e => ⟨hw _, lc_turn e (by have := (List.getElem?_eq_some_iff.mp hi).1; omega) (ht i x H hi e) (he i x H hi e)⟩) (fun H e => by rw [e]; exact q)
theorem lcT (f : Nat → Bool) (v : Nat → V) (hx : SqT K H1 a xs) (hD : H1 D = none) (hn : xs.length ≤ 100000) (hw : ∀ x, wipe ((wipe σ vs).set j (some x)) vs = wipe σ vs)
    (ht : ∀ (i : Nat) (x : V) (H : Hp), xs[i]? = some x → H = upd H1 D (.lst (given i f v)) → Ans tt ((wipe σ vs).set j (some x)) H (f i))
    (he : ∀ (i : Nat) (x : V) (H : Hp), xs[i]? = some x → H = upd H1 D (.lst (given i f v)) → f i = true → Val te ((wipe σ vs).set j (some x)) H (v i)) (q : Qd (upd H1 D (.lst (given xs.length f v)))) :
    ∃ W : Nat → Nat → Hp → Prop, (∃ m, W 0 m (upd H1 D (.lst []))) ∧ ∀ i m H, W i m H →
      ((Itt K a).stop i H ∧ Qd H) ∨ ((Itt K a).go i H ∧ ∃ Nx : Hp → Prop, (∀ H', Nx H' → ∃ m', m' < m ∧ W (i + 1) m' H') ∧ ∀ x H', (Itt K a).yld i H x H' → gName j x (wipe σ vs) H' fun σ2 H2 => wipe σ2 vs = wipe σ vs ∧ tt σ2 H2 fun b H3 =>
        if b = true then te σ2 H3 fun y H4 => ∃ acc, H4 D = some (.lst acc) ∧ acc.length < sizeLine ∧ Nx (upd H4 D (.lst (acc ++ [y]))) else Nx H3) :=
  lc_tup (fun i H => H = upd H1 D (.lst (given i f v))) rfl (fun i H hi e => by rw [e]; exact ex_t (Ex.new hD) hx) (fun i x H hi e => ⟨hw _, lc_turn e (by have := (List.getElem?_eq_some_iff.mp hi).1; omega) (ht i x H hi e) (he i x H hi e)⟩) (fun H e => by rw [e]; exact q)
theorem lcLm (g : V → V) (hx : SqL K H1 a xs) (hD : H1 D = none) (hn : xs.length ≤ 100000) (hw : ∀ x, wipe ((wipe σ vs).set j (some x)) vs = wipe σ vs)
    (he : ∀ (i : Nat) (x : V) (H : Hp), xs[i]? = some x → H = upd H1 D (.lst ((xs.take i).map g)) → Val te ((wipe σ vs).set j (some x)) H (g x)) (q : Qd (upd H1 D (.lst (xs.map g)))) :
    ∃ W : Nat → Nat → Hp → Prop, (∃ m, W 0 m (upd H1 D (.lst []))) ∧ ∀ i m H, W i m H →
      ((Itl K a).stop i H ∧ Qd H) ∨ ((Itl K a).go i H ∧ ∃ Nx : Hp → Prop, (∀ H', Nx H' → ∃ m', m' < m ∧ W (i + 1) m' H') ∧ ∀ x H', (Itl K a).yld i H x H' → gName j x (wipe σ vs) H' fun σ2 H2 => wipe σ2 vs = wipe σ vs ∧ tYes σ2 H2 fun b H3 =>
        if b = true then te σ2 H3 fun y H4 => ∃ acc, H4 D = some (.lst acc) ∧ acc.length < sizeLine ∧ Nx (upd H4 D (.lst (acc ++ [y]))) else Nx H3) :=
  lc_list (fun i H => H = upd H1 D (.lst ((xs.take i).map g))) (by rw [List.take_zero]; rfl) (fun i H hi e => by rw [e]; exact ex_l (Ex.new hD) hx)
    (fun i x H hi e => ⟨hw _, by
      refine iteT (B := H = upd H1 D (.lst ((xs.take (i + 1)).map g))) ?_
      refine he i x H hi e _ ?_
      subst e
      refine ⟨_, upd_same, sz_lt ?_, ?_⟩
      · rw [List.length_map, List.length_take]; have := (List.getElem?_eq_some_iff.mp hi).1; omega
      · rw [upd_upd, List.take_add_one, hi, List.map_append]; rfl⟩) (fun H e => by rw [e, List.take_length]; exact q)
theorem lcTm (g : V → V) (hx : SqT K H1 a xs) (hD : H1 D = none) (hn : xs.length ≤ 100000) (hw : ∀ x, wipe ((wipe σ vs).set j (some x)) vs = wipe σ vs)
    (he : ∀ (i : Nat) (x : V) (H : Hp), xs[i]? = some x → H = upd H1 D (.lst ((xs.take i).map g)) → Val te ((wipe σ vs).set j (some x)) H (g x)) (q : Qd (upd H1 D (.lst (xs.map g)))) :
    ∃ W : Nat → Nat → Hp → Prop, (∃ m, W 0 m (upd H1 D (.lst []))) ∧ ∀ i m H, W i m H →
      ((Itt K a).stop i H ∧ Qd H) ∨ ((Itt K a).go i H ∧ ∃ Nx : Hp → Prop, (∀ H', Nx H' → ∃ m', m' < m ∧ W (i + 1) m' H') ∧ ∀ x H', (Itt K a).yld i H x H' → gName j x (wipe σ vs) H' fun σ2 H2 => wipe σ2 vs = wipe σ vs ∧ tYes σ2 H2 fun b H3 =>
        if b = true then te σ2 H3 fun y H4 => ∃ acc, H4 D = some (.lst acc) ∧ acc.length < sizeLine ∧ Nx (upd H4 D (.lst (acc ++ [y]))) else Nx H3) :=
  lc_tup (fun i H => H = upd H1 D (.lst ((xs.take i).map g))) (by rw [List.take_zero]; rfl) (fun i H hi e => by rw [e]; exact ex_t (Ex.new hD) hx)
    (fun i x H hi e => ⟨hw _, by
      refine iteT (B := H = upd H1 D (.lst ((xs.take (i + 1)).map g))) ?_
      refine he i x H hi e _ ?_
      subst e
      refine ⟨_, upd_same, sz_lt ?_, ?_⟩
      · rw [List.length_map, List.length_take]; have := (List.getElem?_eq_some_iff.mp hi).1; omega
      · rw [upd_upd, List.take_add_one, hi, List.map_append]; rfl⟩) (fun H e => by rw [e, List.take_length]; exact q)
end
end G
namespace G
open PySem PySem.Spec PyProof.Rows L2 Evl
/-! ## rules within a comprehension's block: the written part by its letter -/
section
variable {X : Cx} {K : PySem.W.Frag}
theorem kIxT (h : X.K = K) : IxR X (rIxT K) := by subst h; exact ix_tup
theorem kIxL (h : X.K = K) : IxR X (rIxL K) := by subst h; exact ix_list
theorem kIx (h : X.K = K) : IxR X (rIx K) := by subst h; exact ix_seq
theorem kIn (h : X.K = K) : OpR X (compareOp .In) (rIn K false) := by subst h; exact op_in_seq
theorem kNotIn (h : X.K = K) : OpR X (compareOp .NotIn) (rIn K true) := by subst h; exact op_notIn_seq
theorem kLen (h : X.K = K) : CallR X (.builtin "len") (rLenS K) := by subst h; exact call_len_seq
theorem gStr {x s : Str} {t : Tok} {pos : Pos} (hg : Gl X x) (h : X.mg x = some (.str s t)) (hd : (x == ("__debug__" : Str)) = false := by decide) : PE X (.Name x pos) (tC (.str s)) := pe_glob (v := .str s) hg h ⟨t, rfl⟩ hd
theorem gInt {x : Str} {i : Int} {t : Tok} {pos : Pos} (hg : Gl X x) (h : X.mg x = some (.int i t)) (hd : (x == ("__debug__" : Str)) = false := by decide) : PE X (.Name x pos) (tC (.int i)) := pe_glob (v := .int i) hg h ⟨t, rfl⟩ hd
theorem gRef {x : Str} {a : Addr} {pos : Pos} (hg : Gl X x) (h : X.mg x = some (.ref a)) (hd : (x == ("__debug__" : Str)) = false := by decide) : PE X (.Name x pos) (tC (.ref a)) := pe_glob (v := .ref a) hg h rfl hd
theorem kSlL (h : X.K = K) : SlR X (rSlL K) := by subst h; exact sl_list
theorem kCatA (h : X.K = K) : OpR X (binaryOp .Add) (rCatA K) := by subst h; exact op_catA
theorem kAny (h : X.K = K) (hc : X.calm = true) : CallR X (.builtin "any") (rAny K) := by subst h; exact cr_any hc
theorem kAll (h : X.K = K) (hc : X.calm = true) : CallR X (.builtin "all") (rAll K) := by subst h; exact cr_all hc
theorem kLtT (h : X.K = K) (hu : X.A.units < cLine) : OpR X (compareOp .Lt) (rLtT K) := by subst h; exact op_ltT hu
theorem kPiT {e tg : Expr} {te : TE} (h : X.K = K) (he : PE X e te) : PI X tg e (iTup K te) := by subst h; exact pi_tup he
theorem kPiL {e tg : Expr} {te : TE} (h : X.K = K) (he : PE X e te) : PI X tg e (iList K te) := by subst h; exact pi_list he
theorem kSlA (h : X.K = K) : SlR X (rSlA K) := by subst h; exact sl_tupA
end
end G
namespace G
open PySem PySem.Spec PyProof.Rows L2 Evl
theorem dpAll_map {α : Type} {K : PySem.W.Frag} {H : Hp} {f : α → V} {g : α → PyData} (h : ∀ x, Dp K H (f x) (g x)) : ∀ l : List α, DpAll K H (l.map f) (l.map g)
  | [] => .nil
  | x :: r => .cons (h x) (dpAll_map h r)
theorem dp_ints {K : PySem.W.Frag} {H : Hp} {a : Addr} {ns : List Int} (h : SqL K H a (ns.map V.int)) : Dp K H (.ref a) (.list (ns.map PyData.int)) := .lst h (dpAll_map (fun i => .int i) ns)
theorem dp_nil {K : PySem.W.Frag} {H : Hp} {a : Addr} (h : SqL K H a []) : Dp K H (.ref a) (.list []) := .lst h .nil
theorem eqv_nil (l : List PyData) : PyData.eqv (.list l) (.list []) = l.isEmpty := by cases l <;> rfl
theorem shaped_nil : SeqAt.shaped (.list []) = true := by decide +kernel
end G
/-! enumerate over a tuple -/
namespace PySem
section
variable {prog : Program} {w : World} {A : Around} {E : Value → Shared → Prop} {s : Shared}
theorem G_tupOf {h : Heap} {a : Addr} {xs : Array Value} (p : PyProof.Rows.IsTup h a xs) : h.IsTuple a xs := p
set_option maxHeartbeats 2000000 in
theorem G_enumNew {v : Value} {o : Obj} {Hh : Heap → Prop} (B : Begins v o Hh) :
    Meets (Builtin.«enumerate.__new__» ⟨[.type "enumerate", v], []⟩) (fun _ R s => Hh s.heap ∧
      R (.ok (.ret (.ref (s.heap.push o).objs.size))) { s with heap := (s.heap.push o).push { cls := .type "enumerate", data := .fields #[.none, .bool false, .ref s.heap.objs.size, rawInt 0, .none, .none] } }) :=
  .of_wp fun pr wo ar rr sh hh => by
    obtain ⟨hp, gg, dd, tk, os⟩ := sh; obtain ⟨h1, h2⟩ := hh
    have sub0 := sub_enumerate
    have qq : ∀ {A' : Around} {E : Value → Shared → Prop} {Q : Value → Shared → Prop}, Q (.ref hp.objs.size) ⟨hp.push o, gg, dd, tk, os⟩ → wpAny (model pr wo) A' (pyIter v) Q E ⟨hp, gg, dd, tk, os⟩ :=
      fun z => B.iter pr wo _ _ ⟨hp, gg, dd, tk, os⟩ _ h1 z
    wp_walk using qq
    refine wpAny_stack_any fun _ => wpAny_pure ?_
    split
    · rename_i cc _ _ _ _ _
      cases (cc == Value.type "enumerate") <;> (wp_walk using qq; exact ⟨_, rfl, h2⟩)
    · wp_walk using qq
      exact ⟨_, rfl, h2⟩
theorem G_enumCall {v : Value} {o : Obj} {Hh : Heap → Prop} {Q : Value → Shared → Prop} (B : Begins v o Hh) (h1 : Hh s.heap)
    (k : ∀ h', IsEnum h' (s.heap.objs.size + 1) s.heap.objs.size 0 .none → h'.get? s.heap.objs.size = some o → (∀ b u, s.heap.get? b = some u → h'.get? b = some u) → Q (.ref (s.heap.objs.size + 1)) { s with heap := h' }) :
    wpAny (model prog w) A (call (.type "enumerate") [v]) Q E s := by
  refine callType_new F.called_enumerate (by decide) (F.typeCall_enumerate_1 _) (F.newCall_enumerate_1 _) (fun y => F.args_object_init_2 y _) F.entry_enumerate_new (G_enumNew B) ⟨h1, ?_⟩
  have hz : (s.heap.push o).objs.size = s.heap.objs.size + 1 := Heap.size_push ..
  show _ ∧ _
  rw [hz]
  have he : IsEnum ((s.heap.push o).push { cls := .type "enumerate", data := .fields #[.none, .bool false, .ref s.heap.objs.size, rawInt 0, .none, .none] }) (s.heap.objs.size + 1) s.heap.objs.size 0 .none := by
    have hs := Heap.get?_push_size (s.heap.push o) (o := { cls := .type "enumerate", data := .fields #[.none, .bool false, .ref s.heap.objs.size, rawInt 0, .none, .none] }) rfl
    rw [hz] at hs; exact hs
  exact ⟨⟨_, he, rfl⟩, k _ he (Heap.get?_push_of_some _ (Heap.get?_push_size _ B.free)) fun b u x => Heap.get?_push_of_some _ (Heap.get?_push_of_some _ x)⟩
end
end PySem
namespace G
open PySem PySem.Spec PyProof.Rows L2 Evl
/-- the tuple at a at each turn, each item in a new pair -/
def IteT (K : PySem.W.Frag) (a : Addr) : It :=
  ⟨fun i H => ∃ (xs : List V) (x : V), SqT K H a xs ∧ xs[i]? = some x,
   fun i H v H' => ∃ T x, v = .ref T ∧ H T = none ∧ H' = upd H T (.tup [.int (i : Nat), x]) ∧ ∀ xs, SqT K H a xs → xs[i]? = some x,
   fun i H => ∃ xs : List V, SqT K H a xs ∧ xs.length = i⟩
theorem turn_enumT {P : Program} {w : World} {K : PySem.W.Frag} {elts : List Expr} {kk : Nat} {tpos : Pos} (a e it : Addr) :
    Turn P w K (.Tuple elts kk tpos) (IteT K a) [e, it] e (fun i h => (∃ old, IsEnum h e it ((i : Nat) : Int) old) ∧ h.IsTupleIter it a i ∧ e ≠ it ∧ a ≠ it ∧ a ≠ e) where
  mem := by simp
  obj := fun i h st b hb => by
    obtain ⟨⟨old, he⟩, ⟨o, ho, hc, hd⟩, _⟩ := st
    have hb' : b = e ∨ b = it := by simpa using hb
    rcases hb' with z | z
    · rw [z]; exact ⟨_, he, fun v q => nomatch q⟩
    · rw [z]; exact ⟨o, ho, fun v q => by rw [hd] at q; cases q⟩
  keep := fun i h h' st k => by
    obtain ⟨⟨old, he⟩, hi, hne⟩ := st
    exact ⟨⟨old, k e (by simp) _ he⟩, hi.at fun o q => k it (by simp) o q, hne⟩
  item := by
    intro X hP hw hK hc i pins s σ H E I hf st hg
    subst hP hw hK
    obtain ⟨⟨old, he⟩, hit, hne, hai, hae⟩ := st
    obtain ⟨xs, x, hq, hx⟩ := hg
    obtain ⟨its, rv, p, hz⟩ := I.tuple hq
    obtain ⟨u, hu, ru⟩ := rv.get hx
    have hel : e < s.heap.objs.size := Heap.lt_size he
    have hil : it < s.heap.objs.size := by obtain ⟨_, q, _⟩ := hit; exact Heap.lt_size q
    have hh : X.A.handled = none := I.ok.hd hc
    refine wpAny_pyNext_enum_itemD (Draws.tuple (A := X.A.in1) hh it a hai its.toArray) he ⟨hit, p⟩ ?_ hne ?_ fun y h' tk hy ho hst hT hsz hk => ?_
    · have := (List.getElem?_eq_some_iff.mp hu).1
      simpa using this
    · intro hm
      have hm' : e = it ∨ e = a := by simpa using hm
      rcases hm' with z | z
      · exact hne z
      · exact hae z.symm
    · have ey : y = u := by
        have hy' : its[i]? = some y := by simpa using hy
        exact Option.some.inj (hy'.symm.trans hu)
      subst ey
      refine ⟨_, rfl, wpAny_letOwnedTupleGo_enum (s := { s with heap := h', toks := tk + 1 }) ho fun h'' he' sb => ?_⟩
      have hT2 : h''.get? s.heap.objs.size = some { cls := .type "tuple", data := .seq #[.int i tk, y] } := (sb.2 _ (Nat.ne_of_gt hel)).trans hT
      have new : ObjOk X.prog X.w (upd H s.heap.objs.size (.tup [.int (i : Nat), x])) h'' s.heap.objs.size (.tup [.int (i : Nat), x]) :=
        ⟨by show 2 ≤ sizeLine; decide, [.int i tk, y], .cons ⟨_, rfl⟩ (.cons ru .nil), ⟨_, hT2, rfl, _, rfl⟩⟩
      have I1 : Inv X pins σ (upd H s.heap.objs.size (.tup [.int (i : Nat), x])) { s with heap := h'', toks := tk + 1 } :=
        I.turnedNew (ch := [e, it]) (fun b ob hb q => (sb.2 b (fun z => hb (by simp [z]))).trans (hk b ob (fun z => hb (by simp [z])) (fun z => hb (by simp [z])) q)) hf (Nat.le_refl _) new
      refine ⟨.ref s.heap.objs.size, _, I1, rfl, ⟨_, x, rfl, I.hok.fresh (Nat.le_refl _), rfl, fun ys hy => by rw [I.tuple_inj hy hq]; exact hx⟩, ⟨⟨y, ?_⟩, hst.1.at fun o q => (sb.2 it (Ne.symm hne)).trans q, hne, hai, hae⟩, fun b hb => ?_⟩
      · have e1 : ((i + 1 : Nat) : Int) = (i : Int) + 1 := by omega
        rw [e1]; exact he'
      · have hb' : b < s.heap.objs.size := by
          have hb2 : b = e ∨ b = it := by simpa using hb
          rcases hb2 with z | z
          · rw [z]; exact hel
          · rw [z]; exact hil
        rw [upd_ne (Nat.ne_of_lt hb')]
        exact (hf b hb).1
  done := by
    intro X hP hw hK hc i pins s σ H E I hf st hg
    subst hP hw hK
    obtain ⟨⟨old, he⟩, hit, hne, hai, hae⟩ := st
    obtain ⟨xs, hq, hx⟩ := hg
    obtain ⟨its, rv, p, hz⟩ := I.tuple hq
    obtain ⟨f0, f1, f2, f3, f4, f5⟩ := hf it (by simp)
    have hl := rv.length
    have hh : X.A.handled = none := I.ok.hd hc
    have ei : its.toArray.size = i := by rw [List.size_toArray, ← hl]; exact hx
    have st2 : s.heap.IsTupleIter it a its.toArray.size ∧ s.heap.IsTuple a its.toArray := by rw [ei]; exact ⟨hit, p⟩
    exact wpAny_pyNext_enum_endD (Draws.tuple (A := X.A.in1) hh it a hai its.toArray) he st2 fun h' eb => ⟨rfl, I.turned (t' := s.toks) (fun b o hb q => eb b o hb q) f0 f1 f3 f4 f5⟩
  self := fun A i s Q E st h => by
    obtain ⟨⟨_, he⟩, _⟩ := st
    exact wpAny_pyIter_enum he h
def iEnumT (K : PySem.W.Frag) (ta : TA) : TI := fun σ H R => ta σ H fun vs H1 => ∃ a xs, vs = [.ref a] ∧ SqT K H1 a xs ∧ R (IteT K a) H1
theorem pi_enumT {X : Cx} {e : Expr} {ta : TA} {p pos tpos : Pos} {elts : List Expr} {kk : Nat} (hg : Gl X "enumerate") (hm : X.mg "enumerate" = none) (ha : PA X [e] ta) (hs : starEach [e] X.env = [(false, eval e X.env)] := by rfl) :
    PI X (.Tuple elts kk tpos) (.Call (.Name "enumerate" p) [e] [] pos) (iEnumT X.K ta) := by
  refine ⟨fun pins s σ H R I h => Call_ (ld_blt I hg hm boot_enumerate (PyProof.Rows.callWith_type1 (thn (ha.run pos pins s σ H _ I h) fun us s1 ⟨vs, H1, I1, r1, q1⟩ => ?_) hs rfl))⟩
  obtain ⟨a, xs, rfl, hq, q⟩ := q1
  cases r1 with
  | cons r rr =>
    cases rr
    cases r
    obtain ⟨its, rv, p', hz⟩ := I1.tuple hq
    have hal : a < s1.heap.objs.size := by obtain ⟨o, ho, _⟩ := p'; exact Heap.lt_size ho
    refine G_enumCall (begins_tuple a its.toArray) p' fun h' he hit hk => wpAny_pyIter_enum he ?_
    have I2 : Inv X pins σ H1 { s1 with heap := h' } := I1.kept (t' := s1.toks) hk
    refine ⟨s1.heap.objs.size + 1, [s1.heap.objs.size + 1, s1.heap.objs.size], _, _, H1, rfl, I2, turn_enumT a (s1.heap.objs.size + 1) s1.heap.objs.size,
      ⟨⟨.none, he⟩, ⟨_, hit, rfl, rfl⟩, Nat.succ_ne_self _, Nat.ne_of_lt hal, Nat.ne_of_lt (Nat.lt_succ_of_lt hal)⟩, fun b hb => ?_, q⟩
    have hb' : b = s1.heap.objs.size + 1 ∨ b = s1.heap.objs.size := by simpa using hb
    have hle : s1.heap.objs.size ≤ b := by
      rcases hb' with z | z
      · rw [z]; exact Nat.le_add_right _ _
      · rw [z]; exact Nat.le_refl _
    exact I1.fpOk hle (I1.hok.fresh hle)
theorem walk_enumT {K : PySem.W.Frag} {a : Addr} {xs : List V} : Walk (IteT K a) xs.length (fun H => SqT K H a xs) (YPair (fun i => some (.int (i : Nat))) (fun i => xs[i]?)) := by
  refine ⟨fun i _ hi q => ⟨xs, xs[i], q, by simp [hi]⟩, fun _ q => ⟨xs, q, rfl⟩, fun i H v H' _ q y => ?_⟩
  obtain ⟨T, x, h1, h2, h3, h4⟩ := y
  exact ⟨T, .int (i : Nat), x, h1, h2, h3, rfl, h4 xs q⟩
theorem kPiEnumT {X : Cx} {K : PySem.W.Frag} {e : Expr} {ta : TA} {p pos tpos : Pos} {elts : List Expr} {kk : Nat} (h : X.K = K) (hg : Gl X "enumerate") (hm : X.mg "enumerate" = none) (ha : PA X [e] ta) (hs : starEach [e] X.env = [(false, eval e X.env)] := by rfl) :
    PI X (.Tuple elts kk tpos) (.Call (.Name "enumerate" p) [e] [] pos) (iEnumT K ta) := by subst h; exact pi_enumT hg hm ha hs
end G
/-! t[a::2], t a tuple -/
namespace HT
open PySem PySem.Spec PyProof.Rows L2
section
variable {prog : Program} {w : World} {A : Around} {E : Value → Shared → Prop} {s : Shared}
theorem g_applied {sl : Addr} {vl vu vs : Value} {lo hi : Option Int} {st : Int} {n : Nat} {Q : Int × Int × Nat → Shared → Prop} (hs : s.heap.IsSliceOf sl vl vu vs) (pl : IsPart vl lo) (pu : IsPart vu hi) (ps : IsPart vs (some st)) (h0 : st ≠ 0)
    (h : Q ((Builtin.Slice.sliceAdjust lo hi st (n : Int)).1, st, Builtin.Slice.slicePlaces (Builtin.Slice.sliceAdjust lo hi st (n : Int)).1 (Builtin.Slice.sliceAdjust lo hi st (n : Int)).2 st) s) :
    wpAny (model prog w) A (Builtin.Slice.sliceApplied (.ref sl) (pure (n : Int))) Q E s := by
  obtain ⟨ob, hob, _, hd⟩ := id hs
  unfold Builtin.Slice.sliceApplied Builtin.Slice.sliceFields
  refine wpAny_bind (wpAny_bind (wpAny_field hob hd (x := vl) rfl (wpAny_bind (wpAny_field hob hd (x := vu) rfl (wpAny_bind (wpAny_field hob hd (x := vs) rfl (wpAny_pure ?_)))))))
  refine wpAny_bind (slicePart_ ps ?_)
  show wpAny _ _ (if (st == 0) = true then _ else _) _ _ s
  rw [if_neg (by intro q; exact h0 (eq_of_beq q))]
  exact wpAny_bind (slicePart_ pl (wpAny_bind (slicePart_ pu (wpAny_bind (wpAny_pure (wpAny_pure h))))))
def stepped (xs : List Value) (lo st : Int) (n : Nat) : List Value := (List.range n).filterMap fun (k : Nat) => xs.toArray[(lo + (k : Int) * st).toNat]?
theorem g_getStep {t sl : Addr} {its : List Value} {vl vu vs : Value} {lo hi : Option Int} {st : Int} {Q : Value → Shared → Prop} (ht : IsTup s.heap t its.toArray) (hs : s.heap.IsSliceOf sl vl vu vs) (pl : IsPart vl lo) (pu : IsPart vu hi) (ps : IsPart vs (some st)) (h0 : st ≠ 0) (h1 : st ≠ 1)
    (hz : (stepped its (Builtin.Slice.sliceAdjust lo hi st (its.toArray.size : Int)).1 st (Builtin.Slice.slicePlaces (Builtin.Slice.sliceAdjust lo hi st (its.toArray.size : Int)).1 (Builtin.Slice.sliceAdjust lo hi st (its.toArray.size : Int)).2 st)).length ≤ sizeLine)
    (h : Q (.ref s.heap.objs.size) { s with heap := s.heap.push { cls := .type "tuple", data := .seq (stepped its (Builtin.Slice.sliceAdjust lo hi st (its.toArray.size : Int)).1 st (Builtin.Slice.slicePlaces (Builtin.Slice.sliceAdjust lo hi st (its.toArray.size : Int)).1 (Builtin.Slice.sliceAdjust lo hi st (its.toArray.size : Int)).2 st)).toArray } }) :
    wpAny (model prog w) A (getItem (.ref t) (.ref sl)) Q E s := by
  have ok : sizeOk (.seq (stepped its (Builtin.Slice.sliceAdjust lo hi st (its.toArray.size : Int)).1 st (Builtin.Slice.slicePlaces (Builtin.Slice.sliceAdjust lo hi st (its.toArray.size : Int)).1 (Builtin.Slice.sliceAdjust lo hi st (its.toArray.size : Int)).2 st)).toArray) := by
    show (stepped its _ st _).toArray.size ≤ sizeLine
    rw [List.size_toArray]; exact hz
  obtain ⟨ob, hob, hc, hd⟩ := id hs
  have hTs : s.TypeIs (.ref sl) "slice" := ⟨ob, hob, hc⟩
  unfold getItem
  try with_reducible refine wpAny_holding ?_
  first | refine wpAny_bind (wpAny_pure ?_) | skip
  refine wpAny_bind (wpAny_sequenceKey ht.typeIs (by decide) ?_)
  refine wpAny_bind (wpAny_callSpecial?_slot (name := Str.ofString "__getitem__") ht.typeIs slot_tuple_getitem (wpAny_call_entry slot_tuple_getitem ht.typeIs entry_tuple_getitem ?_ (args_tuple_getitem _ _)))
  show wpAny _ _ (Builtin.Tuple.tupleItemsOf (.ref t) >>= _) _ _ s
  refine wpAny_bind (tupleItemsOf_ ht (wpAny_bind (wpAny_typeOf hTs ?_)))
  rw [if_pos (by decide)]
  refine wpAny_bind (g_applied hs pl pu ps h0 ?_)
  generalize (Builtin.Slice.sliceAdjust lo hi st (its.toArray.size : Int)).1 = l0 at *
  generalize Builtin.Slice.slicePlaces l0 (Builtin.Slice.sliceAdjust lo hi st (its.toArray.size : Int)).2 st = n0 at *
  have hno : ¬ ((l0 == 0 && st == 1 && n0 == its.toArray.size) = true) := by
    intro q
    rw [Bool.and_eq_true, Bool.and_eq_true] at q
    exact h1 (eq_of_beq q.1.2)
  show wpAny _ _ (if (l0 == 0 && st == 1 && n0 == its.toArray.size) = true then _ else _) _ _ s
  rw [if_neg hno]
  first
    | exact wpAny_bind (m := Builtin.Tuple.tupleExact _) (wpAny_newObj_type (wpAny_pure ⟨_, rfl, wpAny_pure h⟩) ok)
    | exact wpAny_bind (m := Builtin.Tuple.tupleExact _) (wpAny_newObj_type (wpAny_bind (wpAny_pure (wpAny_pure ⟨_, rfl, wpAny_pure h⟩))) ok)
    | exact wpAny_bind (wpAny_bind (m := Builtin.Tuple.tupleExact _) (wpAny_newObj_type (wpAny_pure (wpAny_pure ⟨_, rfl, wpAny_pure h⟩)) ok))
    | exact wpAny_bind (wpAny_bind (m := Builtin.Tuple.tupleExact _) (wpAny_newObj_type (wpAny_pure ⟨_, rfl, wpAny_pure h⟩) ok))
end
end HT
namespace G
open PySem PySem.Spec PyProof.Rows L2 Evl
/-- every second item from a on -/
def halfL {α : Type} (a : Nat) (xs : List α) : List α := (List.range ((xs.length - a + 1) / 2)).filterMap fun k => xs[a + 2 * k]?
theorem halfL_len {α : Type} (a : Nat) (xs : List α) : (halfL a xs).length ≤ xs.length + 1 := by
  unfold halfL
  refine Nat.le_trans (List.length_filterMap_le _ _) ?_
  rw [List.length_range]; omega
theorem vals_filterMap {f : Nat → Option V} {g : Nat → Option Value} : ∀ {l : List Nat}, (∀ k, k ∈ l → RelO (f k) (g k)) → Vals (l.filterMap f) (l.filterMap g)
  | [], _ => .nil
  | k :: r, h => by
    have hk := h k (List.mem_cons_self ..)
    have ih := vals_filterMap (l := r) fun j hj => h j (List.mem_cons_of_mem _ hj)
    rw [List.filterMap_cons, List.filterMap_cons]
    cases e : f k with
    | none =>
      cases e2 : g k with
      | none => exact ih
      | some u => rw [e, e2] at hk; exact hk.elim
    | some v =>
      cases e2 : g k with
      | none => rw [e, e2] at hk; exact hk.elim
      | some u => rw [e, e2] at hk; exact .cons hk ih
def tHalf (K : PySem.W.Frag) (a : Nat) (te : TE) : TE := fun σ H Q => te σ H fun x H1 => ∃ t xs, x = .ref t ∧ SqT K H1 t xs ∧ xs.length ≤ 100000 ∧ ∀ p, H1 p = none → Q (.ref p) (upd H1 p (.tup (halfL a xs)))
theorem half_places {a n : Nat} (h : a ≤ 1) : (Builtin.Slice.sliceAdjust (some (a : Int)) none 2 (n : Int)).1 = ((min a n : Nat) : Int) ∧
    Builtin.Slice.slicePlaces (Builtin.Slice.sliceAdjust (some (a : Int)) none 2 (n : Int)).1 (Builtin.Slice.sliceAdjust (some (a : Int)) none 2 (n : Int)).2 2 = (n - a + 1) / 2 := by
  have h2 : ¬ ((2 : Int) < 0) := by omega
  have h3 : (2 : Int) > 0 := by omega
  have ha : ¬ ((a : Int) < 0) := by omega
  have e : Builtin.Slice.sliceAdjust (some (a : Int)) none 2 (n : Int) = (((min a n : Nat) : Int), (n : Int)) := by
    unfold Builtin.Slice.sliceAdjust
    simp only [h2, if_false, ha]
    refine Prod.ext ?_ rfl
    show min (a : Int) (n : Int) = ((min a n : Nat) : Int)
    omega
  rw [e]
  refine ⟨rfl, ?_⟩
  show Builtin.Slice.slicePlaces ((min a n : Nat) : Int) (n : Int) 2 = (n - a + 1) / 2
  unfold Builtin.Slice.slicePlaces
  simp only [h3, if_true]
  split <;> omega
section
variable {X : Cx}
theorem pe_half {e : Expr} {te : TE} {a : Nat} {k1 k2 : Nat} {p1 p2 p3 pos : Pos} (ha : a ≤ 1) (he : PE X e te) : PE X (.Subscript e (.Slice (some (.Constant (.int (a : Int)) k1 p1)) none (some (.Constant (.int 2) k2 p2)) p3) pos) (tHalf X.K a te) := by
  refine ⟨fun pins s σ H Q I h => Subscript_ (thn (he.run pins s σ H _ I h) fun v s1 ⟨x, H1, I1, r1, q1⟩ => ?_)⟩
  obtain ⟨t, xs, rfl, hx, hlen, q⟩ := q1
  cases r1
  have hlo : PO X (some (.Constant (.int (a : Int)) k1 p1)) (tPart (tC (.int (a : Int)))) := po_some pe_int
  have hst : PO X (some (.Constant (.int 2) k2 p2)) (tPart (tC (.int 2))) := po_some pe_int
  refine wpAny_Slice (thn (hlo.run pins s1 σ H1 (fun o H2 => o = some (a : Int) ∧ H2 = H1) I1 ⟨_, rfl, rfl, rfl⟩) fun vl s2 ⟨l, H2, I2, pl, el, e2⟩ => ?_)
  subst el e2
  refine thn (po_none.run pins s2 σ H2 (fun o H3 => o = none ∧ H3 = H2) I2 ⟨rfl, rfl⟩) fun vu s3 ⟨u, H3, I3, pu, eu, e3⟩ => ?_
  subst eu e3
  refine thn (hst.run pins s3 σ H3 (fun o H4 => o = some 2 ∧ H4 = H3) I3 ⟨_, rfl, rfl, rfl⟩) fun vs s4 ⟨o, H4, I4, ps, eo, e4⟩ => ?_
  subst eo e4
  have I5 : Inv X pins σ H4 { s4 with heap := s4.heap.push { cls := .type "slice", data := .fields #[vl, vu, vs] } } := I4.kept (t' := s4.toks) fun b ob q => Heap.get?_push_of_some _ q
  obtain ⟨its, r, ht, hz⟩ := I5.tuple hx
  have hl : its.toArray.size = xs.length := by rw [List.size_toArray]; exact r.length.symm
  obtain ⟨hp1, hp2⟩ := half_places (n := xs.length) ha
  have hrel : Vals (halfL a xs) (HT.stepped its ((min a xs.length : Nat) : Int) 2 ((xs.length - a + 1) / 2)) := by
    unfold halfL HT.stepped
    refine vals_filterMap fun k hk => ?_
    have hk' := List.mem_range.mp hk
    have hi : a + 2 * k < xs.length := by omega
    have en : (((min a xs.length : Nat) : Int) + (k : Int) * 2).toNat = a + 2 * k := by omega
    rw [en, List.getElem?_eq_getElem hi]
    obtain ⟨u, hu, ru⟩ := r.get (List.getElem?_eq_getElem hi)
    rw [List.getElem?_toArray, hu]
    exact ru
  have hsz : (halfL a xs).length ≤ sizeLine := sz_of (by
    unfold halfL
    refine Nat.le_trans (List.length_filterMap_le _ _) ?_
    rw [List.length_range]
    omega)
  show wpAny (model X.prog X.w) X.A (subscriptTail e (.Slice (some (.Constant (.int (a : Int)) k1 p1)) none (some (.Constant (.int 2) k2 p2)) p3) (.ref t) (.ref s4.heap.objs.size)) (EP X pins σ Q) X.xe { s4 with heap := s4.heap.push { cls := .type "slice", data := .fields #[vl, vu, vs] } }
  refine tail_any (ops := [.ref t, .ref s4.heap.objs.size]) ht.typeIs PyProof.Rows.slot_tuple_getitem.lookup ?_ (by with_unfolding_all rfl)
  refine HT.g_getStep ht (Heap.IsSliceOf.new _ vl vu vs) pl pu ps (by decide) (by decide) ?_ ?_
  · rw [hl, hp2, hp1, ← hrel.length]; exact hsz
  · rw [hl, hp2, hp1]
    refine ⟨.ref _, _, I5.laid (t' := s4.toks) (o := .tup (halfL a xs)) (fun b ob q => Heap.get?_push_of_some _ q) (Nat.le_refl _) ?_, rfl, q _ (I5.hok.fresh (Nat.le_refl _))⟩
    exact ⟨hsz, _, hrel, ⟨_, Heap.get?_push_size _ rfl, rfl, _, rfl⟩⟩
end
end G
namespace G
open PySem PySem.Spec PyProof.Rows L2 Evl
theorem tYes_in {σ : L2.St} {H : Hp} {A B : Hp → Prop} (h : A H) : tYes σ H (fun b H3 => if b = true then A H3 else B H3) := by
  show if true = true then A H else B H
  exact iteT h
def tabV (bs : List Bool) : HO := .tup (bs.map V.bl)
theorem inV_ints {k : Int} {l : List Int} : inV (.int k) (l.map V.int) = l.contains k := by
  unfold inV
  rw [List.any_map, List.contains_eq_any_beq]
  congr 1
  funext y
  show (y == k) = (k == y)
  rw [Bool.eq_iff_iff]; simp; exact eq_comm
theorem inV_bls {k : Bool} {l : List Bool} : inV (.bl k) (l.map V.bl) = l.contains k := by
  unfold inV
  rw [List.any_map, List.contains_eq_any_beq]
  congr 1
  funext y
  show (y == k) = (k == y)
  cases y <;> cases k <;> rfl
theorem flat_map {α : Type} {f : α → V} (h : ∀ x, flatV (f x) = true) (l : List α) : (l.map f).all flatV = true := by
  rw [List.all_map]
  exact List.all_eq_true.mpr fun x _ => h x
theorem tif_by {tt : TE} {σ : L2.St} {H : Hp} {Q : VK} (R : V → Hp → Prop) (h : ∀ Q' : VK, (∀ v H', R v H' → Q' v H') → tt σ H Q') (rest : ∀ v H', R v H' → Q v H') : tt σ H Q := h Q rest
theorem bl_eq (a b : Bool) : decide (V.bl a = V.bl b) = decide (a = b) := by cases a <;> cases b <;> rfl
end G
namespace G
open PySem PySem.Spec PyProof.Rows L2
def topS (i : Nat) : Stmt := PySem.Challenge.pw_signoff_k28_wire_trees.main.body.getD i (.Pass ⟨0, 0, 0, 0⟩)
abbrev s_WireTree_init : Stmt := inClass (topS 7) 0
abbrev s_WireTree_len : Stmt := inClass (topS 7) 1
abbrev s_WireTree_parent : Stmt := inClass (topS 7) 2
abbrev s_WireTree_path : Stmt := inClass (topS 7) 3
abbrev s_WireTree_below : Stmt := inClass (topS 7) 4
abbrev s_WireTree_delay : Stmt := inClass (topS 7) 5
abbrev s_WireTree_delay_range : Stmt := inClass (topS 7) 6
abbrev s_WireTree_check_node : Stmt := inClass (topS 7) 7
abbrev s_law_pool : Stmt := topS 9
abbrev s_law_spread : Stmt := topS 10
abbrev s_law_draw : Stmt := topS 11
abbrev s_law_same : Stmt := topS 12
abbrev s_law_segments : Stmt := topS 13
abbrev s_law_path : Stmt := topS 14
abbrev s_law_delay : Stmt := topS 15
abbrev s_law_refused : Stmt := topS 16
abbrev s_law_away : Stmt := topS 17
abbrev s_law : Stmt := topS 18
end G
namespace G
open PySem PySem.Spec PyProof.Rows L2 Evl
structure TxtL (mg : Str → Option Value) : Prop where
  int : mg "int" = none
  len : mg "len" = none
  list : mg "list" = none
  range : mg "range" = none
section
variable {P : Program} {w : World} {K : PySem.W.Frag} {mg : Str → Option Value} {base : Heap}
def spSpread : Sp := fun vs H Q _ => ∃ (c : Int), vs = [.int c] ∧ ∀ v : Int, Q (.int v) H
theorem sc_law_spread : FnScope ["cell", "mixed", "total", "k"] ["cell"] (defScope s_law_spread) := ⟨rfl, rfl, rfl, by decide +kernel, rfl, by decide +kernel, by decide +kernel⟩
theorem ok_law_spread (D : Dfd K mg "_law_spread" s_law_spread ["cell"]) (T : TxtL mg) : Has P w K mg base 1 "_law_spread" ["cell"] spSpread := by
  refine D.has fun f fd F => F.ok sc_law_spread (fun vs H Q E h => ?_) (fun cdv A outer s H vs Q E hr h => ?_)
  · obtain ⟨c, rfl, _⟩ := h
    rfl
  · obtain ⟨c, rfl, q⟩ := h
    refine ⟨_, (pss_cons (ps_set (i := 1) sc_law_spread.nd rfl (.inl rfl) (pe_op op_mod (pe_callTy call_int1 (by rfl) T.int (by decide +kernel) (pa_cons (pv 0) pa_nil)) pe_int))
      (pss_cons (ps_set (i := 2) sc_law_spread.nd rfl (.inl rfl) pe_int)
      (pss_cons (ps_for PassesOwn.never rfl (pi_range1 rfl T.range (pa_cons pe_int pa_nil)) (pg_name (i := 3) sc_law_spread.nd rfl (.inl rfl))
        (pss_cons (ps_set (i := 1) sc_law_spread.nd rfl (.inl rfl) (pe_op op_mod (pe_callTy call_int1 (by rfl) T.int (by decide +kernel) (pa_cons (pe_op op_add (pe_op op_add (pe_op op_mul (pv 1) pe_int) pe_int) (pv 3)) pa_nil)) pe_int))
        (pss_one (ps_set (i := 2) sc_law_spread.nd rfl (.inl rfl) (pe_op op_add (pe_op op_mul (pv 2) pe_int) (pv 1))))))
      (pss_one (ps_ret (pv 2)))))), ?_⟩
    refine ⟨_, rfl, .inl ⟨_, rfl, _, _, rfl, rfl, (by show (0 : Int) < 2147483647; decide), 4, rfl, by decide, by decide, for_range (n := 4) (fun _ σ H' => H' = H ∧ ∃ (x y : Int) (z : Option V), σ = [some (.int c), some (.int x), some (.int y), z]) ⟨rfl, _, _, _, rfl⟩ ?_ ?_⟩⟩
    · rintro i σ H' hi ⟨rfl, x, y, z, rfl⟩
      refine ⟨_, rfl, _, _, rfl, rfl, .inr ⟨by decide, by decide⟩, _, _, rfl, rfl, _, rfl, _, _, rfl, rfl, .inl ⟨_, rfl, _, _, rfl, rfl, (by show (0 : Int) < 2147483647; decide), _, rfl, _, _, rfl, rfl, .inr ⟨by decide, by decide⟩, _, rfl, _, _, rfl, rfl, rfl, _, _, _, rfl⟩⟩
    · rintro σ H' ⟨rfl, x, y, z, rfl⟩
      exact ⟨_, rfl, q y⟩
/-- a draw below n -/
def spDraw : Sp := fun vs H Q _ => ∃ (p a : Addr) (n : Int), vs = [.ref p, .int n] ∧ 0 < n ∧ n.natAbs.log2 < 9000 ∧ PoolOk p a H ∧ ∀ (v : Int) (o : HO), 0 ≤ v → v < n → PoolOk p a (upd H p o) → Q (.int v) (upd H p o)
theorem sc_law_draw : FnScope ["pool", "many", "cell", "mixed", "value"] ["pool", "many"] (defScope s_law_draw) := ⟨rfl, rfl, rfl, by decide +kernel, rfl, by decide +kernel, by decide +kernel⟩
theorem ok_law_draw (D : Dfd K mg "_law_draw" s_law_draw ["pool", "many"]) (T : TxtL mg) (C : Has P w K mg base 1 "_law_spread" ["cell"] spSpread) : Has P w K mg base 2 "_law_draw" ["pool", "many"] spDraw := by
  obtain ⟨f_law_spread, d_law_spread, G_law_spread, g_law_spread, k_law_spread, b_law_spread⟩ := C
  refine D.has fun f fd F => F.ok sc_law_draw (fun vs H Q E h => ?_) (fun cdv A outer s H vs Q E hr h => ?_)
  · obtain ⟨p, a, n, rfl, _⟩ := h
    rfl
  · obtain ⟨p, a, n, rfl, n0, n9, hp, q⟩ := h
    refine ⟨_, (pss_cut (ps_if (PW.pt (pw_and (pt_cmpR op_le (pe_ix ix_list (pv 0) pe_int (fun _ _ => rfl)) pe_int (nomark _)) (pw_and1 (pt_cmpR op_lt (pe_ix ix_list (pv 0) pe_int (fun _ _ => rfl)) (pe_callB call_len_seq (by rfl) T.len (by decide +kernel) (pa_cons (pe_ix ix_list (pv 0) pe_int (fun _ _ => rfl)) pa_nil)) (nomark _)))))
      (pss_cons (ps_set (i := 2) sc_law_draw.nd rfl (.inl rfl) (pe_ix ix_list (pe_ix ix_list (pv 0) pe_int (fun _ _ => rfl)) (pe_ix ix_list (pv 0) pe_int (fun _ _ => rfl)) (fun _ _ => rfl)))
      (pss_cons (ps_asg (pe_op op_add (pe_ix ix_list (pv 0) pe_int (fun _ _ => rfl)) pe_int) (pg_sub (pv 0) pe_int set_list))
      (pss_cons (ps_asg (pv 2) (pg_sub (pv 0) pe_int set_list))
      (pss_one (ps_if (pt_cmpR op_lt (pv 2) pe_int (nomark _))
        (pss_one (ps_asg (pe_call G_law_spread hr (by rfl) g_law_spread k_law_spread b_law_spread .nil pass0 (pa_cons (pv 2) pa_nil)) (pg_sub (pv 0) pe_int set_list)))
        pss_nil)))))
      pss_nil)
    (pss_cons (ps_asg (pe_op op_add (pe_ix ix_list (pv 0) pe_int (fun _ _ => rfl)) pe_int) (pg_sub (pv 0) pe_int set_list))
    (pss_cons (ps_if (pt_cmpR op_le (pe_ix ix_list (pv 0) pe_int (fun _ _ => rfl)) pe_int (nomark _))
      (pss_cons (ps_set (i := 3) sc_law_draw.nd rfl (.inl rfl) (pe_op op_mod (pe_callTy call_int1 (by rfl) T.int (by decide +kernel) (pa_cons (pe_op op_add (pe_op op_add (pe_op op_mul (pe_ix ix_list (pv 0) pe_int (fun _ _ => rfl)) pe_int) (pe_op op_mul (pe_ix ix_list (pv 0) pe_int (fun _ _ => rfl)) pe_int)) pe_int) pa_nil)) pe_int))
      (pss_cons (ps_set (i := 3) sc_law_draw.nd rfl (.inl rfl) (pe_op op_mod (pe_callTy call_int1 (by rfl) T.int (by decide +kernel) (pa_cons (pe_op op_add (pe_op op_mul (pv 3) pe_int) (pe_ix ix_list (pv 0) pe_int (fun _ _ => rfl))) pa_nil)) pe_int))
      (pss_one (ps_ret (pe_op op_mod (pe_op op_fdiv (pv 3) pe_int) (pv 1))))))
      pss_nil)
    (pss_cons (ps_set (i := 4) sc_law_draw.nd rfl (.inl rfl) (pe_op op_mod (pe_callTy call_int1 (by rfl) T.int (by decide +kernel) (pa_cons (pe_ix ix_list (pv 0) pe_int (fun _ _ => rfl)) pa_nil)) (pv 1)))
    (pss_cons (ps_asg (pe_op op_fdivW (pe_ix ix_list (pv 0) pe_int (fun _ _ => rfl)) (pv 1)) (pg_sub (pv 0) pe_int set_list))
    (pss_one (ps_ret (pv 4)))))))), ?_⟩
    obtain ⟨ns, i, c, k, s5, hl, ha, hn⟩ := hp
    have hap : a ≠ p := hid_neq ha
    have haH := hid_get ha
    -- the pool as it stands after writes
    have pk : ∀ (i' : Nat) (c' k' s' : Int), PoolOk p a (upd H p (.lst [.ref a, .int i', .int c', .int k', .int s'])) := fun i' c' k' s' =>
      ⟨ns, i', c', k', s', upd_same, by rw [hid_upd]; exact ha, hn⟩
    refine ⟨fun σ H' => ∃ (i' : Nat) (c' k' s' : Int) (o1 : Option V), σ = [some (.ref p), some (.int n), o1, none, none] ∧ H' p = some (.lst [.ref a, .int i', .int c', .int k', .int s']) ∧ (∀ o, upd H' p o = upd H p o), ?_, ?_⟩
    · refine ⟨_, rfl, _, _, _, _, rfl, rfl, SqL.of hl, atI_nat (j := 2) rfl, _, _, rfl, rfl, _, rfl, ite2 (fun e1 => ?_) (fun e1 => ?_)⟩
      · refine ⟨_, rfl, _, _, _, _, rfl, rfl, SqL.of hl, atI_nat (j := 1) rfl, _, rfl, _, _, _, _, rfl, rfl, SqL.of hl, atI_nat (j := 0) rfl, _, _, rfl, .inl (SqL.of haH), _, _, rfl, rfl, _, rfl, ite2 (fun e2 => ?_) (fun e2 => ?_)⟩
        · have hi : i < (ns.map V.int).length := by have := of_decide_eq_true e2; omega
          have hi' : i < ns.length := by rw [List.length_map] at hi; exact hi
          have gi : (ns.map V.int)[i]? = some (.int ns[i]) := by rw [List.getElem?_map, List.getElem?_eq_getElem hi']; rfl
          refine ⟨_, rfl, _, _, _, _, rfl, rfl, SqL.of hl, atI_nat (j := 0) rfl, _, rfl, _, _, _, _, rfl, rfl, SqL.of hl, atI_nat (j := 1) rfl, _, _, _, _, rfl, rfl, SqL.of haH, atI_nat gi, ?_⟩
          refine ⟨_, rfl, _, _, _, _, rfl, rfl, SqL.of hl, atI_nat (j := 1) rfl, _, _, rfl, rfl, _, rfl, _, _, _, 1, rfl, rfl, hl, rfl, ?_⟩
          refine ⟨_, rfl, _, rfl, _, _, _, 2, rfl, rfl, upd_same, rfl, ?_⟩
          refine ⟨_, rfl, _, _, rfl, rfl, _, rfl, ite2 (fun e3 => ?_) (fun e3 => ?_)⟩
          · refine ⟨_, rfl, _, rfl, fun v => ⟨_, rfl, _, _, _, 2, rfl, rfl, upd_same, rfl, ?_⟩⟩
            exact ⟨i + 1, v, k, s5, _, rfl, upd_same, fun o => by rw [upd_upd, upd_upd, upd_upd]⟩
          · exact ⟨i + 1, ns[i], k, s5, _, rfl, upd_same, fun o => by rw [upd_upd, upd_upd]⟩
        · exact ⟨i, c, k, s5, _, rfl, hl, fun _ => rfl⟩
      · exact iteF ⟨i, c, k, s5, _, rfl, hl, fun _ => rfl⟩
    · rintro σ H' ⟨i, c, k, s5, o1, rfl, hl', hu⟩
      refine ⟨_, rfl, _, _, _, _, rfl, rfl, SqL.of hl', atI_nat (j := 3) rfl, _, _, rfl, rfl, _, rfl, _, _, _, 3, rfl, rfl, hl', rfl, ?_⟩
      refine ⟨_, rfl, _, _, _, _, rfl, rfl, SqL.of upd_same, atI_nat (j := 2) rfl, _, _, rfl, rfl, _, rfl, ite2 (fun e1 => ?_) (fun e1 => ?_)⟩
      · refine ⟨_, rfl, _, _, _, _, rfl, rfl, SqL.of upd_same, atI_nat (j := 4) rfl, _, _, rfl, rfl, .inr ⟨by decide, by decide⟩, _, rfl, _, _, _, _, rfl, rfl, SqL.of upd_same, atI_nat (j := 3) rfl, _, _, rfl, rfl, .inr ⟨by decide, by decide⟩, _, _, rfl, rfl, _, _, rfl, rfl, .inl ⟨_, rfl, _, _, rfl, rfl, (by show (0 : Int) < 2147483647; decide), ?_⟩⟩
        refine ⟨_, rfl, _, _, rfl, rfl, .inr ⟨by decide, by decide⟩, _, rfl, _, _, _, _, rfl, rfl, SqL.of upd_same, atI_nat (j := 3) rfl, _, _, rfl, rfl, .inl ⟨_, rfl, _, _, rfl, rfl, (by show (0 : Int) < 2147483629; decide), ?_⟩⟩
        refine ⟨_, rfl, _, _, rfl, rfl, ⟨by decide, by decide⟩, _, rfl, _, _, rfl, rfl, n0, ?_⟩
        show Q _ _
        rw [hu]
        exact q _ _ (Int.emod_nonneg _ (by omega)) (Int.emod_lt_of_pos _ n0) (pk i c (k + 1) s5)
      · refine ⟨_, rfl, _, _, _, _, rfl, rfl, SqL.of upd_same, atI_nat (j := 2) rfl, .inl ⟨_, rfl, _, rfl, _, _, rfl, rfl, n0, ?_⟩⟩
        refine ⟨_, rfl, _, _, _, _, rfl, rfl, SqL.of upd_same, atI_nat (j := 2) rfl, _, rfl, _, _, rfl, rfl, ⟨n0, n9⟩, _, rfl, _, _, _, 2, rfl, rfl, upd_same, rfl, _, rfl, ?_⟩
        show Q _ _
        rw [upd_upd, hu]
        exact q _ _ (Int.emod_nonneg _ (by omega)) (Int.emod_lt_of_pos _ n0) (pk i (c / n) (k + 1) s5)
/-- the same, the heap behind it a letter -/
def spDrawX : Sp := fun vs H Q _ => ∃ (p a : Addr) (n : Int), vs = [.ref p, .int n] ∧ 0 < n ∧ n ≤ 2 ^ 70 ∧ PoolOk p a H ∧ ∀ (v : Nat) (H' : Hp), (v : Int) < n → Px p a H H' → (∀ b, b ≠ p → H' b = H b) → Q (.int v) H'
theorem log2_small {n : Int} (h0 : 0 < n) (h : n ≤ 2 ^ 70) : n.natAbs.log2 < 9000 := by
  have h1 : n.natAbs < 2 ^ 71 := by omega
  have := PySem.Flt.log2_lt_of (by decide : 0 < 71) h1
  omega
theorem drawX (C : Has P w K mg base 2 "_law_draw" ["pool", "many"] spDraw) : Has P w K mg base 2 "_law_draw" ["pool", "many"] spDrawX :=
  C.imp fun vs H Q E h => by
    obtain ⟨p, a, n, rfl, h0, h1, hp, q⟩ := h
    refine ⟨p, a, n, rfl, h0, log2_small h0 h1, hp, fun v o v0 v1 hq => ?_⟩
    have e : v = ((v.toNat : Nat) : Int) := by omega
    rw [e]
    exact q v.toNat _ (by omega) (Px.draw hp hq) fun b hb => upd_ne hb
end
end G
namespace G
open PySem PySem.Spec PyProof.Rows L2 Evl
section
variable {P : Program} {w : World} {K : PySem.W.Frag} {mg : Str → Option Value} {base : Heap}
theorem cutV_mem {xs : List V} {lo hi : Option Int} {i : Nat} {x : V} (h : (cutV xs lo hi)[i]? = some x) : x ∈ xs := by
  unfold cutV at h
  exact List.mem_of_mem_drop (List.mem_of_mem_take (List.mem_of_getElem? h))
theorem int_of {ns : List Int} {x : V} (h : x ∈ ns.map V.int) : ∃ z, x = .int z := by
  obtain ⟨z, _, e⟩ := List.mem_map.mp h
  exact ⟨z, e.symm⟩
def spPool (K : PySem.W.Frag) : Sp := fun vs H Q _ => ∃ (s : Addr) (ns : List Int), vs = [.ref s] ∧ SqL K H s (ns.map V.int) ∧ ns.length ≤ 1000 ∧ ∀ (p a : Addr) (H' : Hp), PoolOk p a H' → Ex H H' → H p = none → Q (.ref p) H'
theorem sc_law_pool : FnScope ["script", "salt", "cell"] ["script"] (defScope s_law_pool) := ⟨rfl, rfl, rfl, by decide +kernel, rfl, by decide +kernel, by decide +kernel⟩
theorem ok_law_pool (D : Dfd K mg "_law_pool" s_law_pool ["script"]) (T : TxtL mg) : Has P w K mg base 1 "_law_pool" ["script"] (spPool K) := by
  refine D.has fun f fd F => F.ok sc_law_pool (fun vs H Q E h => ?_) (fun cdv A outer s H vs Q E hr h => ?_)
  · obtain ⟨c, _, rfl, _⟩ := h
    rfl
  · obtain ⟨sa, ns, rfl, hs, hn, q⟩ := h
    refine ⟨_, (pss_cons (ps_set (i := 1) sc_law_pool.nd rfl (.inl rfl) pe_int)
      (pss_cons (ps_for PassesOwn.never rfl (pi_list (pe_slice sl_list (pv 0) po_none (po_some pe_int))) (pg_name (i := 2) sc_law_pool.nd rfl (.inl rfl))
        (pss_one (ps_set (i := 1) sc_law_pool.nd rfl (.inl rfl) (pe_op op_mod (pe_callTy call_int1 (by rfl) T.int (by decide +kernel) (pa_cons (pe_op op_add (pe_op op_mul (pv 1) pe_int) (pv 2)) pa_nil)) pe_int))))
      (pss_one (ps_ret (pe_lst (pa_cons (pe_callTy call_list_of (by rfl) T.list (by decide +kernel) (pa_cons (pv 0) pa_nil)) (pa_cons pe_int (pa_cons pe_int (pa_cons pe_int (pa_cons (pv 1) pa_nil)))))))))), ?_⟩
    refine ⟨_, rfl, _, rfl, sa, _, rfl, hs, fun c nc => ⟨c, rfl, ⟨_, SqL.of upd_same⟩, for_list (K := K) (a := c) (xs := cutV (ns.map V.int) none (some 63)) (fun _ σ H' => H' = upd H c (.lst (cutV (ns.map V.int) none (some 63))) ∧ ∃ (x : Int) (z : Option V), σ = [some (.ref sa), some (.int x), z]) ⟨rfl, _, _, rfl⟩ ?_ ?_ ?_⟩⟩
    · rintro i σ H' _ ⟨rfl, _⟩
      exact SqL.of upd_same
    · rintro i x σ H' hi ⟨rfl, y, z, rfl⟩
      obtain ⟨m, rfl⟩ := int_of (cutV_mem hi)
      exact ⟨_, rfl, _, _, rfl, rfl, .inr ⟨by decide, by decide⟩, _, rfl, _, _, rfl, rfl, .inl ⟨_, rfl, _, _, rfl, rfl, (by show (0 : Int) < 1000003; decide), rfl, _, _, rfl⟩⟩
    · rintro σ H' ⟨rfl, y, z, rfl⟩
      have e1 : Ex H (upd H c (.lst (cutV (ns.map V.int) none (some 63)))) := Ex.new nc
      refine ⟨_, rfl, _, _, rfl, .inl (ex_l e1 hs), fun l nl => ⟨_, rfl, (by show 5 ≤ sizeLine; decide), fun p np => ?_⟩⟩
      have e2 := e1.trans (Ex.new (o := .lst (ns.map V.int)) nl)
      have npl : l ≠ p := ne_of_none upd_same np
      exact q p l _ ⟨ns, 0, 0, 0, y, upd_same, by rw [hid_ne npl, upd_ne npl]; exact upd_same, hn⟩ (e2.trans (Ex.new np)) (fresh_back e2 np)
end
end G
namespace G
open PySem PySem.Spec PyProof.Rows L2 Evl
/-! ## data -/
inductive D where
  | non | bl (b : Bool) | int (i : Int) | str (s : Str) | tup (l : List D) | lst (l : List D)
def okD : Nat → D → Prop
  | 0, .tup _ => False
  | 0, .lst _ => False
  | n + 1, .tup l => l.length < 2 ^ 61 ∧ ∀ d ∈ l, okD n d
  | n + 1, .lst l => l.length < 2 ^ 61 ∧ ∀ d ∈ l, okD n d
  | _, _ => True
inductive Rep (H : Hp) : V → D → Prop where
  | non : Rep H .non .non
  | bl (b : Bool) : Rep H (.bl b) (.bl b)
  | int (i : Int) : Rep H (.int i) (.int i)
  | str (s : Str) : Rep H (.str s) (.str s)
  | tup {a : Addr} {xs : List V} {ds : List D} (h : H a = some (.tup xs)) (hl : xs.length = ds.length) (hr : ∀ (i : Nat) (x : V) (d : D), xs[i]? = some x → ds[i]? = some d → Rep H x d) : Rep H (.ref a) (.tup ds)
  | lst {a : Addr} {xs : List V} {ds : List D} (h : H a = some (.lst xs)) (hl : xs.length = ds.length) (hr : ∀ (i : Nat) (x : V) (d : D), xs[i]? = some x → ds[i]? = some d → Rep H x d) : Rep H (.ref a) (.lst ds)
theorem Rep.ex {H H' : Hp} (e : Ex H H') {x : V} {d : D} (r : Rep H x d) : Rep H' x d := by
  induction r with
  | non => exact .non
  | bl b => exact .bl b
  | int i => exact .int i
  | str s => exact .str s
  | tup h hl _ ih => exact .tup (e _ _ h) hl ih
  | lst h hl _ ih => exact .lst (e _ _ h) hl ih
theorem okD.mono : ∀ {n m : Nat} {d : D}, n ≤ m → okD n d → okD m d
  | 0, 0, d, _, h => h
  | 0, m + 1, .non, _, _ => trivial
  | 0, m + 1, .bl _, _, _ => trivial
  | 0, m + 1, .int _, _, _ => trivial
  | 0, m + 1, .str _, _, _ => trivial
  | 0, m + 1, .tup _, _, h => h.elim
  | 0, m + 1, .lst _, _, h => h.elim
  | n + 1, m + 1, .non, _, _ => trivial
  | n + 1, m + 1, .bl _, _, _ => trivial
  | n + 1, m + 1, .int _, _, _ => trivial
  | n + 1, m + 1, .str _, _, _ => trivial
  | n + 1, m + 1, .tup l, le, h => ⟨h.1, fun d hd => okD.mono (Nat.le_of_succ_le_succ le) (h.2 d hd)⟩
  | n + 1, m + 1, .lst l, le, h => ⟨h.1, fun d hd => okD.mono (Nat.le_of_succ_le_succ le) (h.2 d hd)⟩
structure TxtS (mg : Str → Option Value) : Prop where
  isinstance : mg "isinstance" = none
  tuple : mg "tuple" = none
  list : mg "list" = none
  len : mg "len" = none
  range : mg "range" = none
  bool : mg "bool" = none
  int : mg "int" = none
  str : mg "str" = none
section
variable {P : Program} {w : World} {K : PySem.W.Frag} {mg : Str → Option Value} {base : Heap}
/-- equal data: the answer is True -/
def spSame : Nat → Sp
  | 0 => fun _ _ _ _ => False
  | n + 1 => fun vs H Q _ => ∃ (x y : V) (d : D), vs = [x, y] ∧ Rep H x d ∧ Rep H y d ∧ okD n d ∧ Q (.bl true) H
theorem sc_law_same : FnScope ["actual", "due", "k"] ["actual", "due"] (defScope s_law_same) := ⟨rfl, rfl, rfl, by decide +kernel, rfl, by decide +kernel, by decide +kernel⟩
theorem fn_law_same {f : Addr} {fd : FuncData} (F : Fun K "_law_same" "_law_same" s_law_same f fd) (g_law_same : mg "_law_same" = some (.ref f)) (b_law_same : Binds K fd ["actual", "due"] []) (T : TxtS mg) : ∀ n, FnOk P w K mg base CX0 n f fd ["actual", "due"] (spSame n)
  | 0 => ⟨fun _ _ _ _ h => h.elim, fun _ _ _ _ _ _ _ _ _ _ _ _ _ h => h.elim⟩
  | n + 1 => by
    have G_law_same := fn_law_same F g_law_same b_law_same T n
    have k_law_same := F.kp
    refine F.ok sc_law_same (fun vs H Q E h => ?_) (fun cdv A outer s H vs Q E hr h => ?_)
    · obtain ⟨x, y, d, rfl, _⟩ := h
      rfl
    · obtain ⟨x, y, d, rfl, rx, ry, hd, q⟩ := h
      refine ⟨_, (pss_cons (ps_if (PW.pt (pw_or (pt_val (pe_callB call_isi (by rfl) T.isinstance (by decide +kernel) (pa_cons (pv 1) (pa_cons (pe_bltn (v := .ty "tuple") (by rfl) T.tuple (by decide +kernel) rfl) pa_nil)))) (pw_or1 (pt_val (pe_callB call_isi (by rfl) T.isinstance (by decide +kernel) (pa_cons (pv 1) (pa_cons (pe_bltn (v := .ty "list") (by rfl) T.list (by decide +kernel) rfl) pa_nil)))))))
      (pss_cons (ps_if (PW.pt (pw_or (pt_cmpR op_ne (pe_callB call_isi (by rfl) T.isinstance (by decide +kernel) (pa_cons (pv 1) (pa_cons (pe_bltn (v := .ty "tuple") (by rfl) T.tuple (by decide +kernel) rfl) pa_nil))) (pe_callB call_isi (by rfl) T.isinstance (by decide +kernel) (pa_cons (pv 0) (pa_cons (pe_bltn (v := .ty "tuple") (by rfl) T.tuple (by decide +kernel) rfl) pa_nil))) (nomark _)) (pw_or1 (pt_cmpR op_ne (pe_callB call_isi (by rfl) T.isinstance (by decide +kernel) (pa_cons (pv 1) (pa_cons (pe_bltn (v := .ty "list") (by rfl) T.list (by decide +kernel) rfl) pa_nil))) (pe_callB call_isi (by rfl) T.isinstance (by decide +kernel) (pa_cons (pv 0) (pa_cons (pe_bltn (v := .ty "list") (by rfl) T.list (by decide +kernel) rfl) pa_nil))) (nomark _)))))
        (pss_one (ps_ret pe_bl))
        pss_nil)
      (pss_cons (ps_if (pt_cmpR op_ne (pe_callB call_len_seq (by rfl) T.len (by decide +kernel) (pa_cons (pv 0) pa_nil)) (pe_callB call_len_seq (by rfl) T.len (by decide +kernel) (pa_cons (pv 1) pa_nil)) (nomark _))
        (pss_one (ps_ret pe_bl))
        pss_nil)
      (pss_cons (ps_for PassesOwn.never rfl (pi_range1 rfl T.range (pa_cons (pe_callB call_len_seq (by rfl) T.len (by decide +kernel) (pa_cons (pv 1) pa_nil)) pa_nil)) (pg_name (i := 2) sc_law_same.nd rfl (.inl rfl))
        (pss_one (ps_if (pt_not (pt_val (pe_call G_law_same hr (by rfl) g_law_same k_law_same b_law_same .nil pass0 (pa_cons (pe_ix ix_seq (pv 0) (pv 2) (fun _ _ => rfl)) (pa_cons (pe_ix ix_seq (pv 1) (pv 2) (fun _ _ => rfl)) pa_nil)))))
          (pss_one (ps_ret pe_bl))
          pss_nil)))
      (pss_one (ps_ret pe_bl)))))
      pss_nil)
    (pss_cons (ps_if (pt_cmpR op_isN (pv 1) pe_non (nomark _))
      (pss_one (ps_ret (pe_cmpR op_isN (pv 0) pe_non (nomark _))))
      pss_nil)
    (pss_cons (ps_if (pt_val (pe_callB call_isi (by rfl) T.isinstance (by decide +kernel) (pa_cons (pv 1) (pa_cons (pe_bltn (v := .ty "bool") (by rfl) T.bool (by decide +kernel) rfl) pa_nil))))
      (pss_one (ps_ret (pe_and (pe_callB call_isi (by rfl) T.isinstance (by decide +kernel) (pa_cons (pv 0) (pa_cons (pe_bltn (v := .ty "bool") (by rfl) T.bool (by decide +kernel) rfl) pa_nil))) (pe_one (pe_cmpR op_eq (pv 0) (pv 1) (nomark _))))))
      pss_nil)
    (pss_cons (ps_if (pt_val (pe_callB call_isi (by rfl) T.isinstance (by decide +kernel) (pa_cons (pv 1) (pa_cons (pe_bltn (v := .ty "int") (by rfl) T.int (by decide +kernel) rfl) pa_nil))))
      (pss_one (ps_ret (pe_and (pe_callB call_isi (by rfl) T.isinstance (by decide +kernel) (pa_cons (pv 0) (pa_cons (pe_bltn (v := .ty "int") (by rfl) T.int (by decide +kernel) rfl) pa_nil))) (pe_and (pe_not (pe_callB call_isi (by rfl) T.isinstance (by decide +kernel) (pa_cons (pv 0) (pa_cons (pe_bltn (v := .ty "bool") (by rfl) T.bool (by decide +kernel) rfl) pa_nil)))) (pe_one (pe_cmpR op_eq (pv 0) (pv 1) (nomark _)))))))
      pss_nil)
    (pss_one (ps_ret (pe_and (pe_callB call_isi (by rfl) T.isinstance (by decide +kernel) (pa_cons (pv 0) (pa_cons (pe_bltn (v := .ty "str") (by rfl) T.str (by decide +kernel) rfl) pa_nil))) (pe_one (pe_cmpR op_eq (pv 0) (pv 1) (nomark _)))))))))), ?_⟩
      cases rx with
      | non =>
        cases ry
        refine ⟨_, rfl, _, _, _, _, _, rfl, .ty "tuple", .base .non, kit_ty (a := "NoneType") (r := false) (by decide +kernel), _, rfl, iteF ⟨_, rfl, _, _, _, _, _, rfl, .ty "list", .base .non, kit_ty (a := "NoneType") (r := false) (by decide +kernel), _, rfl, iteF ⟨_, rfl, rfl, _, rfl, iteT ⟨_, rfl, rfl, ?_⟩⟩⟩⟩
        exact q
      | bl b =>
        cases ry
        refine ⟨_, rfl, _, _, _, _, _, rfl, .ty "tuple", .base (.bl _), kit_ty (a := "bool") (r := false) (by decide +kernel), _, rfl, iteF ⟨_, rfl, _, _, _, _, _, rfl, .ty "list", .base (.bl _), kit_ty (a := "bool") (r := false) (by decide +kernel), _, rfl, iteF ⟨_, rfl, rfl, _, rfl, iteF ⟨_, rfl, _, _, _, _, _, rfl, .ty "bool", .base (.bl _), kit_ty (a := "bool") (r := true) (by decide +kernel), _, rfl, iteT ⟨_, rfl, _, _, _, _, _, rfl, .ty "bool", .base (.bl _), kit_ty (a := "bool") (r := true) (by decide +kernel), _, rfl, iteT ⟨_, rfl, _, rfl, rfl, ?_⟩⟩⟩⟩⟩⟩
        rw [decide_eq_true rfl]
        exact q
      | int b =>
        cases ry
        refine ⟨_, rfl, _, _, _, _, _, rfl, .ty "tuple", .base (.int _), kit_ty (a := "int") (r := false) (by decide +kernel), _, rfl, iteF ⟨_, rfl, _, _, _, _, _, rfl, .ty "list", .base (.int _), kit_ty (a := "int") (r := false) (by decide +kernel), _, rfl, iteF ⟨_, rfl, rfl, _, rfl, iteF ⟨_, rfl, _, _, _, _, _, rfl, .ty "bool", .base (.int _), kit_ty (a := "int") (r := false) (by decide +kernel), _, rfl, iteF ⟨_, rfl, _, _, _, _, _, rfl, .ty "int", .base (.int _), kit_ty (a := "int") (r := true) (by decide +kernel), _, rfl, iteT ⟨_, rfl, _, _, _, _, _, rfl, .ty "int", .base (.int _), kit_ty (a := "int") (r := true) (by decide +kernel), _, rfl, iteT ⟨_, rfl, _, _, _, _, _, rfl, .ty "bool", .base (.int _), kit_ty (a := "int") (r := false) (by decide +kernel), _, rfl, _, rfl, iteT ⟨_, rfl, _, rfl, rfl, ?_⟩⟩⟩⟩⟩⟩⟩⟩
        rw [decide_eq_true rfl]
        exact q
      | str b =>
        cases ry
        refine ⟨_, rfl, _, _, _, _, _, rfl, .ty "tuple", .base (.str _), kit_ty (a := "str") (r := false) (by decide +kernel), _, rfl, iteF ⟨_, rfl, _, _, _, _, _, rfl, .ty "list", .base (.str _), kit_ty (a := "str") (r := false) (by decide +kernel), _, rfl, iteF ⟨_, rfl, rfl, _, rfl, iteF ⟨_, rfl, _, _, _, _, _, rfl, .ty "bool", .base (.str _), kit_ty (a := "str") (r := false) (by decide +kernel), _, rfl, iteF ⟨_, rfl, _, _, _, _, _, rfl, .ty "int", .base (.str _), kit_ty (a := "str") (r := false) (by decide +kernel), _, rfl, iteF ⟨_, rfl, _, _, _, _, _, rfl, .ty "str", .base (.str _), kit_ty (a := "str") (r := true) (by decide +kernel), _, rfl, iteT ⟨_, rfl, _, rfl, rfl, ?_⟩⟩⟩⟩⟩⟩⟩
        rw [decide_eq_true rfl]
        exact q
      | @tup a xs ds hx lx rx =>
        cases ry with
        | @tup b ys _ hy ly ry =>
          cases n with
          | zero => exact hd.elim
          | succ m =>
            obtain ⟨hlen, hall⟩ := hd
            refine ⟨_, rfl, _, _, _, _, _, rfl, .ty "tuple", .base (.tup hy), kit_ty (a := "tuple") (r := true) (by decide +kernel), _, rfl, iteT (iteT ⟨_, rfl, _, _, _, _, _, rfl, .ty "tuple", .base (.tup hy), kit_ty (a := "tuple") (r := true) (by decide +kernel), _, rfl, _, _, _, _, _, rfl, .ty "tuple", .base (.tup hx), kit_ty (a := "tuple") (r := true) (by decide +kernel), rfl, _, rfl, iteF ⟨_, rfl, _, _, _, _, _, rfl, .ty "list", .base (.tup hy), kit_ty (a := "tuple") (r := false) (by decide +kernel), _, rfl, _, _, _, _, _, rfl, .ty "list", .base (.tup hx), kit_ty (a := "tuple") (r := false) (by decide +kernel), rfl, _, rfl, iteF ⟨_, rfl, _, _, rfl, .inr (SqT.of hx), _, rfl, _, _, rfl, .inr (SqT.of hy), rfl, _, rfl, ?_⟩⟩⟩)⟩
            have el : decide (V.int (xs.length : Int) = V.int (ys.length : Int)) = true := decide_eq_true (by rw [lx, ly])
            rw [el]
            refine ⟨_, rfl, _, _, rfl, .inr (SqT.of hy), _, rfl, by omega, by omega, for_range (n := (ys.length : Int).toNat) (fun _ σ H' => H' = H ∧ ∃ z : Option V, σ = [some (.ref a), some (.ref b), z]) ⟨rfl, _, rfl⟩ ?_ ?_⟩
            · rintro i σ H' hi ⟨rfl, z, rfl⟩
              have hi' : i < ds.length := by omega
              have e0 : (0 : Int) + (i : Int) = (i : Int) := Int.zero_add _
              have g1 : xs[i]? = some xs[i] := List.getElem?_eq_getElem (by omega)
              have g2 : ys[i]? = some ys[i] := List.getElem?_eq_getElem (by omega)
              have g3 : ds[i]? = some ds[i] := List.getElem?_eq_getElem hi'
              rw [e0]
              refine ⟨_, rfl, _, rfl, .inr (.inl ⟨_, _, _, _, rfl, rfl, SqT.of hx, atI_nat g1, _, rfl, _, rfl, .inr (.inl ⟨_, _, _, _, rfl, rfl, SqT.of hy, atI_nat g2, ?_⟩)⟩)⟩
              exact ⟨_, _, ds[i], rfl, rx i _ _ g1 g3, ry i _ _ g2 g3, hall _ (List.getElem_mem hi'), _, rfl, rfl, _, rfl⟩
            · rintro σ H' ⟨rfl, z, rfl⟩
              exact q
      | @lst a xs ds hx lx rx =>
        cases ry with
        | @lst b ys _ hy ly ry =>
          cases n with
          | zero => exact hd.elim
          | succ m =>
            obtain ⟨hlen, hall⟩ := hd
            refine ⟨_, rfl, _, _, _, _, _, rfl, .ty "tuple", .base (.lst hy), kit_ty (a := "list") (r := false) (by decide +kernel), _, rfl, iteF ⟨_, rfl, _, _, _, _, _, rfl, .ty "list", .base (.lst hy), kit_ty (a := "list") (r := true) (by decide +kernel), _, rfl, iteT ⟨_, rfl, _, _, _, _, _, rfl, .ty "tuple", .base (.lst hy), kit_ty (a := "list") (r := false) (by decide +kernel), _, rfl, _, _, _, _, _, rfl, .ty "tuple", .base (.lst hx), kit_ty (a := "list") (r := false) (by decide +kernel), rfl, _, rfl, iteF ⟨_, rfl, _, _, _, _, _, rfl, .ty "list", .base (.lst hy), kit_ty (a := "list") (r := true) (by decide +kernel), _, rfl, _, _, _, _, _, rfl, .ty "list", .base (.lst hx), kit_ty (a := "list") (r := true) (by decide +kernel), rfl, _, rfl, iteF ⟨_, rfl, _, _, rfl, .inl (SqL.of hx), _, rfl, _, _, rfl, .inl (SqL.of hy), rfl, _, rfl, ?_⟩⟩⟩⟩⟩
            have el : decide (V.int (xs.length : Int) = V.int (ys.length : Int)) = true := decide_eq_true (by rw [lx, ly])
            rw [el]
            refine ⟨_, rfl, _, _, rfl, .inl (SqL.of hy), _, rfl, by omega, by omega, for_range (n := (ys.length : Int).toNat) (fun _ σ H' => H' = H ∧ ∃ z : Option V, σ = [some (.ref a), some (.ref b), z]) ⟨rfl, _, rfl⟩ ?_ ?_⟩
            · rintro i σ H' hi ⟨rfl, z, rfl⟩
              have hi' : i < ds.length := by omega
              have e0 : (0 : Int) + (i : Int) = (i : Int) := Int.zero_add _
              have g1 : xs[i]? = some xs[i] := List.getElem?_eq_getElem (by omega)
              have g2 : ys[i]? = some ys[i] := List.getElem?_eq_getElem (by omega)
              have g3 : ds[i]? = some ds[i] := List.getElem?_eq_getElem hi'
              rw [e0]
              refine ⟨_, rfl, _, rfl, .inl ⟨_, _, _, _, rfl, rfl, SqL.of hx, atI_nat g1, _, rfl, _, rfl, .inl ⟨_, _, _, _, rfl, rfl, SqL.of hy, atI_nat g2, ?_⟩⟩⟩
              exact ⟨_, _, ds[i], rfl, rx i _ _ g1 g3, ry i _ _ g2 g3, hall _ (List.getElem_mem hi'), _, rfl, rfl, _, rfl⟩
            · rintro σ H' ⟨rfl, z, rfl⟩
              exact q
theorem ok_law_same (D : Dfd K mg "_law_same" s_law_same ["actual", "due"]) (T : TxtS mg) (n : Nat) : Has P w K mg base n "_law_same" ["actual", "due"] (spSame n) := by
  obtain ⟨f, fd, F, g, b⟩ := D
  exact ⟨f, fd, fn_law_same F g b T n, g, F.kp, b⟩
end
/-! ## data made of flat lists -/
theorem rep_map {H : Hp} {α : Type} {f : α → V} {g : α → D} {l : List α} (h : ∀ x, Rep H (f x) (g x)) : (l.map f).length = (l.map g).length ∧ ∀ (i : Nat) (x : V) (d : D), (l.map f)[i]? = some x → (l.map g)[i]? = some d → Rep H x d := by
  refine ⟨by rw [List.length_map, List.length_map], fun i x d hx hd => ?_⟩
  rw [List.getElem?_map] at hx hd
  cases e : l[i]? with
  | none => rw [e] at hx; cases hx
  | some y =>
    rw [e] at hx hd
    have e1 : f y = x := Option.some.inj hx
    have e2 : g y = d := Option.some.inj hd
    rw [← e1, ← e2]
    exact h y
theorem rep_ints {H : Hp} {a : Addr} {l : List Int} (h : H a = some (.lst (l.map V.int))) : Rep H (.ref a) (.lst (l.map D.int)) :=
  let r := rep_map (H := H) (f := V.int) (g := D.int) (l := l) fun i => .int i
  .lst h r.1 r.2
theorem rep_bls {H : Hp} {a : Addr} {l : List Bool} (h : H a = some (.tup (l.map V.bl))) : Rep H (.ref a) (.tup (l.map D.bl)) :=
  let r := rep_map (H := H) (f := V.bl) (g := D.bl) (l := l) fun i => .bl i
  .tup h r.1 r.2
theorem okD_ints {l : List Int} (h : l.length < 2 ^ 61) : okD 1 (.lst (l.map D.int)) := ⟨by rw [List.length_map]; exact h, fun d hd => by obtain ⟨_, _, rfl⟩ := List.mem_map.mp hd; trivial⟩
end G
namespace G
open PySem PySem.Spec PyProof.Rows L2 Evl
/-! ## own classes of errors -/
def HasX (P : Program) (w : World) (K : PySem.W.Frag) (mg : Str → Option Value) (base : Heap) (k : Nat) (x : Str) (ps : List Str) (sp : Sp) : Prop :=
  ∃ (f : Addr) (fd : FuncData), FnOk P w K mg base (L2.CX P w) k f fd ps sp ∧ mg x = some (.ref f) ∧ PySem.W.keepIn K (.ref f) = true ∧ Binds K fd ps []
theorem passX0 {X : Cx} {P : Program} {w : World} : Passes (L2.CX P w) X (fun _ _ _ => False) := fun _ _ _ _ _ _ _ h => by
  obtain ⟨_, _, _, _, _, _, _, _, _, _, _, _, h⟩ := h
  exact h.elim
/-- an own class over ValueError without __init__, at C -/
structure ExcT (K : PySem.W.Frag) (mg : Str → Option Value) (x : Str) (C : Addr) : Prop where
  gC : mg x = some (.ref C)
  xP : PySem.W.excIn K C [.type "ValueError", .type "Exception", .type "BaseException", .type "object"] "ValueError.__new__" = true
  kC : PySem.W.keepIn K (.ref C) = true
  bC : PySem.W.subIn K (.ref C) (.type "BaseException") = some true
  tC : PySem.W.typeIn K (.ref C) = some (.type "type")
/-- what an except clause asks of the class that it names -/
structure ExcH (K : PySem.W.Frag) (mg : Str → Option Value) (x : Str) (C : Addr) : Prop where
  u : ExcT K mg x C
  dict : PySem.W.hasDictIn K C = true
  self : PySem.W.subIn K (.ref C) (.ref C) = some true
theorem ExcH.hit {K : PySem.W.Frag} {mg : Str → Option Value} {x : Str} {C : Addr} (U : ExcH K mg x C) : PySem.W.exmOne K (.ref C) (.ref C) = some true := PySem.W.exm_ref U.u.bC U.dict U.u.tC U.self
end G
namespace G
open PySem PySem.Spec PyProof.Rows L2 Evl
/-! ## own errors: caught by name or by a class above, asked for their class -/
structure ExcI (K : PySem.W.Frag) (mg : Str → Option Value) (x : Str) (C : Addr) : Prop where
  u : ExcT K mg x C
  dict : PySem.W.hasDictIn K C = true
  self : PySem.W.subIn K (.ref C) (.ref C) = some true
  isc : ExcC K C
def IsK (K : PySem.W.Frag) (mg : Str → Option Value) (C : Addr) (d : Str) (b : Bool) : Prop := ∃ D : Addr, mg d = some (.ref D) ∧ PySem.W.kitOne K (.ref C) (.ref D) = some b
def CatchK (K : PySem.W.Frag) (mg : Str → Option Value) (C : Addr) (s : Str) : Prop := ∃ D : Addr, mg s = some (.ref D) ∧ PySem.W.exmOne K (.ref C) (.ref D) = some true
theorem ExcI.hit {K : PySem.W.Frag} {mg : Str → Option Value} {x : Str} {C : Addr} (U : ExcI K mg x C) : PySem.W.exmOne K (.ref C) (.ref C) = some true := PySem.W.exm_ref U.u.bC U.dict U.u.tC U.self
theorem IsK.at_ {K : PySem.W.Frag} {mg : Str → Option Value} {C D : Addr} {d : Str} {b : Bool} (h : IsK K mg C d b) (g : mg d = some (.ref D)) : PySem.W.kitOne K (.ref C) (.ref D) = some b := by
  obtain ⟨D', g', k⟩ := h
  rw [g] at g'
  cases g'; exact k
theorem CatchK.at_ {K : PySem.W.Frag} {mg : Str → Option Value} {C D : Addr} {s : Str} (h : CatchK K mg C s) (g : mg s = some (.ref D)) : PySem.W.exmOne K (.ref C) (.ref D) = some true := by
  obtain ⟨D', g', k⟩ := h
  rw [g] at g'
  cases g'; exact k
theorem pe_ex {X : Cx} {e : Expr} {α : Type} {p : α → Prop} {t : α → TE} (h : ∀ x, p x → PE X e (t x)) : PE X e (fun σ H Q => ∃ x, p x ∧ t x σ H Q) := by
  refine ⟨fun ps s σ H Q I z => ?_⟩
  obtain ⟨x, px, hx⟩ := z
  exact (h x px).run ps s σ H Q I hx
/-- isinstance of the error that the suite holds: whichever own error it is -/
theorem pe_isE {X : Cx} {a : Addr} {oe : Obj} {pn : List (Addr × Obj)} {cls : Value} {dd : Option Addr} {e : Expr} {t : Addr → TE} (hz : Zc cls dd oe) (hf : ∃ vs, oe.data = .fields vs)
    (h : ∀ D : Addr, Zc (.ref D) none oe → ExcC X.K D → PE (X.suite a ((a, oe) :: pn)) e (t D)) : PE (X.suite a ((a, oe) :: pn)) e (fun σ H Q => ∃ D : Addr, (cls = .ref D ∧ dd = none ∧ ExcC X.K D) ∧ t D σ H Q) :=
  pe_ex (p := fun D => cls = .ref D ∧ dd = none ∧ ExcC X.K D) fun D z => by
    obtain ⟨rfl, rfl, ic⟩ := z
    exact h D hz ic
/-! ## methods of built-in types within a suite: the written part by its letter -/
theorem kBm {X : Cx} {K : PySem.W.Frag} {T name id : String} {r : V → List V → Hp → VK → Prop} {o e : Expr} {es : List Expr} {to_ : TE} {t : TA} {apos cpos : Pos} (h : X.K = K) (p1 : PlainAttrs T) (p2 : Slot T name id) (p3 : typeOf (.builtin id) = pure (.type "method_descriptor")) (p4 : MtR X id r) (p5 : PE X o to_) (p6 : PA X (e :: es) t)
    (p7 : attributeBase o name X.env (eval o X.env) = eval o X.env := by rfl) (p8 : ((backTo cpos (starEach (e :: es) X.env)).all (fun x => !x.1) && (backToKw cpos (keywordEach [] X.env)).all (fun x => x.1.isSome) && decide ((e :: es).length + ([] : List Keyword).length + (if ([] : List Keyword).isEmpty then 0 else 1) < 30)) = true := by rfl)
    (p9 : (apos.endLine == cpos.line) = true := by rfl) (p10 : starEach (e :: es) X.env = (false, eval e X.env) :: starEach es X.env := by rfl) (p11 : (backTo cpos (starEach es X.env)).any (·.1) = false := by rfl) : PE X (.Call (.Attribute o name apos) (e :: es) [] cpos) (tBM K T r to_ t) := by
  subst h
  exact pe_bm p1 p2 p3 p4 p5 p6 p7 p8 p9 p10 p11
theorem kMtIndex {X : Cx} {K : PySem.W.Frag} (h : X.K = K) : MtR X "list.index" (rIndex K) := by subst h; exact mt_index
/-! ## methods and classes called where what is raised is taken at the slots -/
section
variable {X : Cx} {CX : CXT} {k : Nat} {f C : Addr} {fd : FuncData} {ps : List Str} {sp : Sp} {dvs : List V} {ds : List Value} {E : L2.St → XK} {x m : Str} {p pos apos : Pos} {e o : Expr} {es : List Expr} {to_ : TE} {t : TA}
def tMethX (C : Addr) (m : Str) (sp : Sp) (dvs : List V) (E : L2.St → XK) (to_ : TE) (t : TA) : TE := fun σ H Q => to_ σ H fun x H1 => ∃ a dx fs, x = .ref a ∧ H1 a = some (.ins C dx fs) ∧ fs.lookup m = none ∧ t σ H1 fun vs H2 => sp (x :: (vs ++ dvs)) H2 Q (E σ)
def tMakeX (C : Addr) (sp : Sp) (dvs : List V) (E : L2.St → XK) (t : TA) : TE := fun σ H Q => t σ H fun vs H1 => ∀ x dx, H1 x = none → H1 dx = none → dx ≠ x → sp (.ref x :: (vs ++ dvs)) (upd (upd H1 dx (.own x)) x (.ins C dx [])) (fun v H2 => v = .non ∧ Q (.ref x) H2) (E σ)
theorem pe_methX {pl : Sem Bool} (ho : PE X o to_) (cc : Cls X.K C) (mm : Meth X.K C m f) (Fk : FnOk X.prog X.w X.K X.mg X.base CX k f fd ps sp) (rm : Room k X.A) (bd : Binds X.K fd ps ds) (dv : Vals dvs ds)
    (px : ∀ σ, PassesAt CX X σ (E σ)) (pa : PA X (e :: es) t) (s1 : starEach (e :: es) X.env = (false, eval e X.env) :: starEach es X.env := by rfl) (s2 : (backTo pos (starEach es X.env)).any (·.1) = false := by rfl)
    (s3 : eval (.Call (.Attribute o m apos) (e :: es) [] pos) X.env = (do let ov ← eval o X.env; standAt apos.atName; let (f, first) ← holding [ov] (getMethod ov m pl); callWith pos f first (backTo pos (starEach (e :: es) X.env)) (backToKw pos (keywordEach [] X.env))) := by rfl) :
    PE X (.Call (.Attribute o m apos) (e :: es) [] pos) (tMethX C m sp dvs E to_ t) := by
  refine ⟨fun pins st σ H Q I z => PySem.W.methodCall_KW (pl := pl) (thn (ho.run pins st σ H _ I z) fun q0 st1 ⟨y, H1, I1, ry, b, dx, fl, ey, eb, lk, z1⟩ => ?_) s3⟩
  subst ey
  cases (show q0 = Value.ref b from ry)
  exact getmeth_ok I1 eb cc mm lk (PySem.W.callWith_K (first := [.ref b]) (h₀ := X.base) I.ok.mod.kin mm.kp (thn (pa.run pos pins st1 σ H1 _ I1 z1) fun ws st2 ⟨vs, H2, I2, rs, z2⟩ => ⟨I2.kIn, run_fnSD (us := .ref b :: ws) (vs := .ref b :: vs) Fk rm bd dv (px σ) I2 (.cons rfl rs) z2⟩) s1 s2)
theorem run_makeX {pins : List (Addr × Obj)} {σ : L2.St} {H : Hp} {st : Shared} {Q : VK} {us : List Value} {vs : List V} (M : Mk X.K C f) (Fk : FnOk X.prog X.w X.K X.mg X.base CX k f fd ps sp) (rm : Room (k + 1) X.A) (bd : Binds X.K fd ps ds) (dv : Vals dvs ds)
    (px : PassesAt CX X σ (E σ)) (I : Inv X pins σ H st) (rs : Vals vs us)
    (z : ∀ x dx, H x = none → H dx = none → dx ≠ x → sp (.ref x :: (vs ++ dvs)) (upd (upd H dx (.own x)) x (.ins C dx [])) (fun v H2 => v = .non ∧ Q (.ref x) H2) (E σ)) :
    wpAny (model X.prog X.w) X.A (call (.ref C) us) (EP X pins σ Q) X.xe st := by
  have z1 := z (st.heap.objs.size + 1) st.heap.objs.size (I.hok.fresh (Nat.le_succ _)) (I.hok.fresh (Nat.le_refl _)) (Nat.ne_of_lt (Nat.lt_succ_self _))
  have J := Inv.made (C := C) I
  have rr : Vals (V.ref (st.heap.objs.size + 1) :: (vs ++ dvs)) (Value.ref (st.heap.objs.size + 1) :: (us ++ ds)) := .cons rfl (rs.append dv)
  have len : (Value.ref (st.heap.objs.size + 1) :: us ++ ds).length = ps.length := (rr.length.symm.trans (Fk.len _ _ _ _ z1))
  refine wpAny_call (make_map (f := f) I.kIn M.makes M.init (beq_iff_eq.mp M.fn) (codeAny_mono (Fk.run _ X.stack _ _ ⟨Value.ref (st.heap.objs.size + 1) :: us, []⟩ (Value.ref (st.heap.objs.size + 1) :: (us ++ ds)) _ _ (E σ) (rm.make C us []) (J.env0.make C us []) (bd _ (Value.ref (st.heap.objs.size + 1) :: us) J.kIn len) rr z1) fun r st' h => ?_))
  match r, h with
  | .error er, h => exact px pins _ _ er st' J h
  | .ok (.ret u), h =>
    obtain ⟨v, H', I3, rv, ev, q3⟩ := J.after h
    subst ev
    exact ⟨rv, ⟨V.ref (st.heap.objs.size + 1), H', I3, rfl, q3⟩⟩
  | .ok .next, h => exact h.elim
  | .ok .brk, h => exact h.elim
  | .ok .cont, h => exact h.elim
theorem pe_makeX (M : Mk X.K C f) (Fk : FnOk X.prog X.w X.K X.mg X.base CX k f fd ps sp) (rm : Room (k + 1) X.A) (gl : Gl X x) (gm : X.mg x = some (.ref C)) (bd : Binds X.K fd ps ds) (dv : Vals dvs ds) (px : ∀ σ, PassesAt CX X σ (E σ)) (pa : PA X (e :: es) t)
    (s0 : (x == ("__debug__" : Str)) = false := by decide) (s1 : starEach (e :: es) X.env = (false, eval e X.env) :: starEach es X.env := by rfl) (s2 : (backTo pos (starEach es X.env)).any (·.1) = false := by rfl) : PE X (.Call (.Name x p) (e :: es) [] pos) (tMakeX C sp dvs E t) :=
  ⟨fun pins st σ H Q I z => wpAny_Call_Name_kw (ld_glob I gl gm (PySem.W.callWith_K (h₀ := X.base) I.ok.mod.kin M.kp (thn (pa.run pos pins st σ H _ I z) fun us st1 ⟨vs, H1, I1, r, q⟩ => ⟨I1.kIn, run_makeX M Fk rm bd dv (px σ) I1 r q⟩) s1 s2) s0)⟩
end
end G
namespace G
open PySem PySem.Spec PyProof.Rows L2 Evl
/-! ## own classes: len, methods with keywords -/
/-- statements that are never reached -/
theorem pss_false {X : Cx} {ss : List Stmt} : PSs X ss (fun _ _ _ => False) := ⟨fun _ _ _ _ _ _ h => h.elim⟩
def rLenOwn (C : Addr) (sp : Sp) (E : XK) : List V → Hp → VK → Prop := fun vs H Q => ∃ (a dx : Addr) (fs : List (Str × V)), vs = [.ref a] ∧ H a = some (.ins C dx fs) ∧ sp [.ref a] H (fun v H' => ∃ n : Nat, v = .int n ∧ n < 2 ^ 62 ∧ Q (.int n) H') E
theorem call_lenOwn {X : Cx} {CX : CXT} {C f : Addr} {fd : FuncData} {k : Nat} {sp : Sp} {E : XK} (h1 : PySem.W.findIn X.K (.ref C) "__len__" = some (some (.ref f))) (h2 : PySem.W.isFn X.K (.ref f) = true) (Fk : FnOk X.prog X.w X.K X.mg X.base CX k f fd ["self"] sp) (rm : Room (k + 1) X.A) (bd : Binds X.K fd ["self"] []) (px : Passes CX X.nox E) : CallR X (.builtin "len") (rLenOwn C sp E) := by
  intro pins s σ H vs us Q I r h
  obtain ⟨a, dx, fs, rfl, ea, hq⟩ := h
  obtain _ | ⟨r1, _ | _⟩ := r
  cases r1
  obtain ⟨mA, O, _⟩ := ins_get I.hok ea
  obtain ⟨od, J, _⟩ := O.look
  refine Calls.call_function_entry PySem.kind_len PySem.plain_len PySem.entry_len (PySem.args_len1 _) (by
    unfold Builtin.«len»
    refine wpAny_bind (m := oneArg "len" _) (wpAny_pure (wpAny_bind (m := callSpecial? (.ref a) (Str.ofString "__len__")) (PySem.W.special_fn I.kIn J h1 (beq_iff_eq.mp h2) (wpAny_call (codeAny_mono (Fk.run X.A.in1 X.stack s H ⟨[.ref a], []⟩ [.ref a] [.ref a] _ E rm.in1 I.env0.in1 (bd s [.ref a] I.kIn rfl) (.cons rfl .nil) hq) fun r s' hr => ?_)))))
    match r, hr with
    | .error er, hr => exact False.elim (px pins σ H s er s' (I.wish _) hr)
    | .ok .next, hr => exact hr.elim
    | .ok .brk, hr => exact hr.elim
    | .ok .cont, hr => exact hr.elim
    | .ok (.ret u), hr =>
      obtain ⟨v, H', I3, rv, n, rfl, hn, q3⟩ := I.after hr
      obtain ⟨t, rfl⟩ := rv
      refine wpAny_bind (wpAny_holding (wpAny_pure (wpAny_bind (wpAny_letGo ?_))))
      show wpAny _ _ (if ((n : Nat) : Int) < 0 then _ else _) _ _ _
      rw [if_neg (by omega)]
      show wpAny _ _ (if ((n : Nat) : Int) ≥ 2 ^ 63 then _ else _) _ _ _
      rw [if_neg (by omega)]
      exact wpAny_bind (wpAny_mkInt (wpAny_pure ⟨_, rfl, ⟨.int n, H', I3.tok _, ⟨_, rfl⟩, q3⟩⟩)))
section
variable {X : Cx} {CX : CXT} {k n : Nat} {f C : Addr} {fd : FuncData} {ps ks : List Str} {sp : Sp} {E : L2.St → XK} {m : Str} {pos apos : Pos} {e o : Expr} {es : List Expr} {kws : List Keyword} {to_ : TE} {t tk : TA} {g : List Value → List Value → List Value} {gV : List V → List V → List V}
/-- o.m(e, .., k = v): n arguments besides the object -/
def tMethK (C : Addr) (m : Str) (n q : Nat) (sp : Sp) (gV : List V → List V → List V) (E : L2.St → XK) (to_ : TE) (t tk : TA) : TE := fun σ H Q => to_ σ H fun x H1 => ∃ a dx fs, x = .ref a ∧ H1 a = some (.ins C dx fs) ∧ fs.lookup m = none ∧ t σ H1 fun vs H2 => tk σ H2 fun zs H3 => vs.length = n ∧ zs.length = q ∧ sp (gV (x :: vs) zs) H3 Q (E σ)
theorem pe_methK {pl : Sem Bool} (ho : PE X o to_) (cc : Cls X.K C) (mm : Meth X.K C m f) (Fk : FnOk X.prog X.w X.K X.mg X.base CX k f fd ps sp) (rm : Room k X.A) (kb : KBn X.K fd ps (n + 1) ks g gV)
    (px : ∀ σ, PassesAt CX X σ (E σ)) (pa : PA X (e :: es) t) (pk : PK X kws tk) (s0 : (backToKw pos (keywordEach kws X.env)).all (·.1.isSome) = true := by rfl) (s4 : (backToKw pos (keywordEach kws X.env)).filterMap (·.1) = ks := by rfl)
    (s1 : starEach (e :: es) X.env = (false, eval e X.env) :: starEach es X.env := by rfl) (s2 : ((backTo pos (starEach (e :: es) X.env)).any (·.1) || (backToKw pos (keywordEach kws X.env)).any (·.1.isNone)) = false := by rfl)
    (s3 : eval (.Call (.Attribute o m apos) (e :: es) kws pos) X.env = (do let ov ← eval o X.env; standAt apos.atName; let (f, first) ← holding [ov] (getMethod ov m pl); callWith pos f first (backTo pos (starEach (e :: es) X.env)) (backToKw pos (keywordEach kws X.env))) := by rfl) :
    PE X (.Call (.Attribute o m apos) (e :: es) kws pos) (tMethK C m n ks.length sp gV E to_ t tk) := by
  refine ⟨fun pins st σ H Q I z => PySem.W.methodCall_KW (pl := pl) (thn (ho.run pins st σ H _ I z) fun q0 st1 ⟨y, H1, I1, ry, b, dx, fl, ey, eb, lk, z1⟩ => ?_) s3⟩
  subst ey
  cases (show q0 = Value.ref b from ry)
  refine getmeth_ok I1 eb cc mm lk (PySem.W.callWith_KW (first := [.ref b]) (h₀ := X.base) I.ok.mod.kin mm.kp s0 (thn (pa.run pos pins st1 σ H1 _ I1 z1) fun ws st2 ⟨vs, H2, I2, rs, z2⟩ => thn (pk.run pos pins st2 σ H2 _ I2 z2) fun us st3 ⟨zs, H3, I3, rz, l1, l2, z3⟩ => ⟨I3.kIn, ?_⟩) s2 s1)
  rw [s4]
  have rr : Vals (V.ref b :: vs) (Value.ref b :: ws) := .cons rfl rs
  refine wpAny_call (codeAny_mono (Fk.run X.A X.stack st3 H3 ⟨Value.ref b :: ws, ks.zip us⟩ (g (Value.ref b :: ws) us) (gV (V.ref b :: vs) zs) Q (E σ) rm I3.env0 (kb.to st3 (Value.ref b :: ws) us I3.kIn (by rw [List.length_cons, ← rs.length, l1]) (rz.length.symm.trans l2)) (kb.rel rr rz) z3) fun r st' h => ?_)
  match r, h with
  | .error er, h => exact px σ pins H3 st3 er st' I3 h
  | .ok (.ret u), h => exact I3.after h
  | .ok .next, h => exact h.elim
  | .ok .brk, h => exact h.elim
  | .ok .cont, h => exact h.elim
/-- a keyword-only parameter, given -/
theorem Fun.kbn1 {K : PySem.W.Frag} {x qual y : Str} {st : Stmt} {f : Addr} {fd : FuncData} {ps : List Str} {n : Nat} (F : Fun K x qual st f fd)
    (h : ∀ (kV doc pm : Value) (an : Option Addr) (cdv ct w : Value) (us : List Value), us.length = n → bindArgs (PySem.W.fnOf x qual (defArgs st) (defBody st) (defScope st) .none kV doc pm an cdv ct) ⟨us, [(y, w)]⟩ = pure (ps.zip (us ++ [w]))) : KBn K fd ps n [y] (fun us ws => us ++ ws) (fun vs zs => vs ++ zs) := by
  obtain ⟨oc, od, kV, doc, pm, an, cdv, ct, osl, rfl, lk, hcd⟩ := F.ex
  refine ⟨fun s us ws _ l1 l2 => ?_, fun r1 r2 => r1.append r2⟩
  match ws, l2 with
  | [w], _ => exact .of_eq (h kV doc pm an cdv ct w us l1)
theorem passAt0 {X : Cx} {P : Program} {w : World} {σ : L2.St} : PassesAt (L2.CX P w) X σ (fun _ _ _ => False) := fun pins H s e s' I h => passX0 (X := X) pins σ H s e s' I h
end
end G
namespace G
open PySem PySem.Spec PyProof.Rows L2 Evl
/-! ## two lists side by side -/
def All2 {α β : Type} (R : α → β → Prop) (as : List α) (bs : List β) : Prop := as.length = bs.length ∧ ∀ (i : Nat) (a : α) (b : β), as[i]? = some a → bs[i]? = some b → R a b
theorem All2.nil {α β : Type} {R : α → β → Prop} : All2 R [] [] := ⟨rfl, fun _ _ _ h => nomatch h⟩
theorem All2.imp {α β : Type} {R S : α → β → Prop} {as : List α} {bs : List β} (h : All2 R as bs) (f : ∀ a b, R a b → S a b) : All2 S as bs := ⟨h.1, fun i a b h1 h2 => f _ _ (h.2 i a b h1 h2)⟩
theorem All2.snoc {α β : Type} {R : α → β → Prop} {as : List α} {bs : List β} {a : α} {b : β} (h : All2 R as bs) (r : R a b) : All2 R (as ++ [a]) (bs ++ [b]) := by
  refine ⟨by rw [List.length_append, List.length_append, h.1]; rfl, fun i x y h1 h2 => ?_⟩
  by_cases hi : i < as.length
  · rw [List.getElem?_append_left hi] at h1
    rw [List.getElem?_append_left (h.1 ▸ hi)] at h2
    exact h.2 i x y h1 h2
  · rw [List.getElem?_append_right (by omega)] at h1
    rw [List.getElem?_append_right (by rw [← h.1]; omega), ← h.1] at h2
    cases e : i - as.length with
    | zero =>
      rw [e] at h1 h2
      cases h1; cases h2; exact r
    | succ n => rw [e] at h1; exact nomatch h1
theorem All2.at_ {α β : Type} {R : α → β → Prop} {as : List α} {bs : List β} (h : All2 R as bs) {i : Nat} {a : α} (e : as[i]? = some a) : ∃ b, bs[i]? = some b ∧ R a b := by
  have hi : i < bs.length := by rw [← h.1]; exact (List.getElem?_eq_some_iff.mp e).1
  exact ⟨bs[i], List.getElem?_eq_getElem hi, h.2 i a _ e (List.getElem?_eq_getElem hi)⟩
theorem All2.of {α β : Type} {R : α → β → Prop} {as : List α} {bs : List β} (h : All2 R as bs) {i : Nat} {b : β} (e : bs[i]? = some b) : ∃ a, as[i]? = some a ∧ R a b := by
  have hi : i < as.length := by rw [h.1]; exact (List.getElem?_eq_some_iff.mp e).1
  exact ⟨as[i], List.getElem?_eq_getElem hi, h.2 i _ b (List.getElem?_eq_getElem hi) e⟩
theorem All2.cons {α β : Type} {R : α → β → Prop} {as : List α} {bs : List β} {a : α} {b : β} (r : R a b) (h : All2 R as bs) : All2 R (a :: as) (b :: bs) := by
  refine ⟨by rw [List.length_cons, List.length_cons, h.1], fun i x y h1 h2 => ?_⟩
  cases i with
  | zero => cases h1; cases h2; exact r
  | succ i => exact h.2 i x y h1 h2
theorem take_snoc1 {α : Type} {l : List α} {j : Nat} {x : α} (h : l[j]? = some x) : l.take (j + 1) = l.take j ++ [x] := by rw [List.take_add_one, h]; rfl
theorem refs_get {as : List Addr} {k : Nat} {x : V} (hx : (as.map V.ref)[k]? = some x) : ∃ a, as[k]? = some a ∧ x = .ref a := by
  rw [List.getElem?_map] at hx
  cases e : as[k]? with
  | none => rw [e] at hx; cases hx
  | some a => rw [e] at hx; cases hx; exact ⟨a, rfl, rfl⟩
/-! ## walks: any body -/
theorem wk_list {K : PySem.W.Frag} {a : Addr} {xs : List V} {body : (Hp → Prop) → V → Hp → Prop} {H0 : Hp} {Qd : Hp → Prop} (Pv : Nat → Hp → Prop) (h0 : Pv 0 H0) (hl : ∀ i H, i ≤ xs.length → Pv i H → SqL K H a xs)
    (hs : ∀ i x H, xs[i]? = some x → Pv i H → body (Pv (i + 1)) x H) (hd : ∀ H, Pv xs.length H → Qd H) :
    ∃ W : Nat → Nat → Hp → Prop, (∃ m, W 0 m H0) ∧ ∀ i m H, W i m H → ((Itl K a).stop i H ∧ Qd H) ∨ ((Itl K a).go i H ∧ ∃ Nx : Hp → Prop, (∀ H', Nx H' → ∃ m', m' < m ∧ W (i + 1) m' H') ∧ ∀ x H', (Itl K a).yld i H x H' → body Nx x H') := by
  refine ⟨fun i m H => m = xs.length - i ∧ i ≤ xs.length ∧ Pv i H, ⟨xs.length, by simp, Nat.zero_le _, h0⟩, ?_⟩
  rintro i m H ⟨rfl, hi, p⟩
  have q := hl i H hi p
  rcases Nat.lt_or_ge i xs.length with lt | ge
  · have e : xs[i]? = some xs[i] := List.getElem?_eq_getElem lt
    refine .inr ⟨⟨xs, xs[i], q, e⟩, Pv (i + 1), fun H' p' => ⟨xs.length - (i + 1), by omega, rfl, lt, p'⟩, fun x H' y => ?_⟩
    obtain ⟨rfl, y⟩ := y
    exact hs i x _ (y xs q) p
  · have e : i = xs.length := by omega
    subst e
    exact .inl ⟨⟨xs, q, Nat.le_refl _⟩, hd H p⟩
theorem wk_tup {K : PySem.W.Frag} {a : Addr} {xs : List V} {body : (Hp → Prop) → V → Hp → Prop} {H0 : Hp} {Qd : Hp → Prop} (Pv : Nat → Hp → Prop) (h0 : Pv 0 H0) (hl : ∀ i H, i ≤ xs.length → Pv i H → SqT K H a xs)
    (hs : ∀ i x H, xs[i]? = some x → Pv i H → body (Pv (i + 1)) x H) (hd : ∀ H, Pv xs.length H → Qd H) :
    ∃ W : Nat → Nat → Hp → Prop, (∃ m, W 0 m H0) ∧ ∀ i m H, W i m H → ((Itt K a).stop i H ∧ Qd H) ∨ ((Itt K a).go i H ∧ ∃ Nx : Hp → Prop, (∀ H', Nx H' → ∃ m', m' < m ∧ W (i + 1) m' H') ∧ ∀ x H', (Itt K a).yld i H x H' → body Nx x H') := by
  refine ⟨fun i m H => m = xs.length - i ∧ i ≤ xs.length ∧ Pv i H, ⟨xs.length, by simp, Nat.zero_le _, h0⟩, ?_⟩
  rintro i m H ⟨rfl, hi, p⟩
  have q := hl i H hi p
  rcases Nat.lt_or_ge i xs.length with lt | ge
  · have e : xs[i]? = some xs[i] := List.getElem?_eq_getElem lt
    refine .inr ⟨⟨xs, xs[i], q, e⟩, Pv (i + 1), fun H' p' => ⟨xs.length - (i + 1), by omega, rfl, lt, p'⟩, fun x H' y => ?_⟩
    obtain ⟨rfl, y⟩ := y
    exact hs i x _ (y xs q) p
  · have e : i = xs.length := by omega
    subst e
    exact .inl ⟨⟨xs, q, Nat.le_refl _⟩, hd H p⟩
theorem wk_it {J : It} {n : Nat} {Gd : Hp → Prop} {Y : Nat → Hp → V → Hp → Prop} (w : Walk J n Gd Y) {body : (Hp → Prop) → V → Hp → Prop} {H0 : Hp} {Qd : Hp → Prop} (Pv : Nat → Hp → Prop) (h0 : Pv 0 H0) (hG : ∀ i H, i ≤ n → Pv i H → Gd H)
    (hs : ∀ i x H H', i < n → Pv i H → Y i H x H' → body (Pv (i + 1)) x H') (hd : ∀ H, Pv n H → Qd H) :
    ∃ W : Nat → Nat → Hp → Prop, (∃ m, W 0 m H0) ∧ ∀ i m H, W i m H → (J.stop i H ∧ Qd H) ∨ (J.go i H ∧ ∃ Nx : Hp → Prop, (∀ H', Nx H' → ∃ m', m' < m ∧ W (i + 1) m' H') ∧ ∀ x H', J.yld i H x H' → body Nx x H') := by
  refine ⟨fun i m H => m = n - i ∧ i ≤ n ∧ Pv i H, ⟨n, by simp, Nat.zero_le _, h0⟩, ?_⟩
  rintro i m H ⟨rfl, hi, p⟩
  rcases Nat.lt_or_ge i n with lt | ge
  · exact .inr ⟨w.goes i H lt (hG i H hi p), Pv (i + 1), fun H' p' => ⟨n - (i + 1), by omega, rfl, lt, p'⟩, fun x H' y => hs i x H H' lt p (w.yields i H x H' lt (hG i H hi p) y)⟩
  · have e : i = n := by omega
    subst e
    exact .inl ⟨w.stops H (hG i H hi p), hd H p⟩
/-! ## tuples joined and cut, whatever object that is -/
theorem cat_tup {K : PySem.W.Frag} {H : Hp} {a b : Addr} {xs ys : List V} {Q : VK} (ha : H a = some (.tup xs)) (hb : H b = some (.tup ys)) (hl : xs.length + ys.length ≤ sizeLine) (q : ∀ c H', Ex H H' → H' c = some (.tup (xs ++ ys)) → Q (.ref c) H') : rCatA K (.ref a) (.ref b) H Q := by
  refine ⟨a, b, xs, ys, rfl, rfl, SqT.of ha, SqT.of hb, hl, fun e => ?_, fun _ e => ?_, fun _ _ p np => ?_⟩
  · subst e; exact q b H (Ex.refl _) hb
  · subst e; exact q a H (Ex.refl _) (by rw [List.append_nil]; exact ha)
  · exact q p _ (Ex.new np) upd_same
theorem cut_tup {K : PySem.W.Frag} {H : Hp} {a : Addr} {xs : List V} {lo hi : Option Int} {Q : VK} (ha : H a = some (.tup xs)) (q : ∀ c H', Ex H H' → H' c = some (.tup (cutV xs lo hi)) → Q (.ref c) H') : rSlA K (.ref a) lo hi H Q := by
  refine ⟨a, xs, rfl, SqT.of ha, fun e => ?_, fun _ p np => q p _ (Ex.new np) upd_same⟩
  refine q a H (Ex.refl _) ?_
  rw [ha]
  unfold cutV
  rw [e.1, e.2, List.drop_zero, Nat.sub_zero, List.take_length]
theorem cutV_head {xs : List V} {k : Nat} (h : k ≤ xs.length) : cutV xs none (some (k : Int)) = xs.take k := by
  unfold cutV
  rw [HT.sIx_none, HT.sIx_nat, List.drop_zero, Nat.sub_zero, Nat.min_eq_left h]
theorem cutV_tail {xs : List V} {k : Nat} (h : k ≤ xs.length) : cutV xs (some (k : Int)) none = xs.drop k := by
  unfold cutV
  rw [HT.sIx_none, HT.sIx_nat, Nat.min_eq_left h, List.take_of_length_le]
  rw [List.length_drop]; exact Nat.le_refl _
end G
namespace G
open PySem PySem.Spec PyProof.Rows L2
structure Cl_WireTree (K : PySem.W.Frag) (mg : Str → Option Value) (C : Addr) : Prop where
  gC : mg "WireTree" = some (.ref C)
  cl : Cls K C
  m_init : ∃ (f : Addr) (fd : FuncData), Mk K C f ∧ Fun K "__init__" "WireTree.__init__" s_WireTree_init f fd ∧ Binds K fd ["self", "segments"] []
  m_len : ∃ (f : Addr) (fd : FuncData), PySem.W.findIn K (.ref C) "__len__" = some (some (.ref f)) ∧ PySem.W.isFn K (.ref f) = true ∧ Fun K "__len__" "WireTree.__len__" s_WireTree_len f fd ∧ Binds K fd ["self"] []
  m_parent : ∃ (f : Addr) (fd : FuncData), Meth K C "parent" f ∧ Fun K "parent" "WireTree.parent" s_WireTree_parent f fd ∧ Binds K fd ["self", "node"] []
  m_path : ∃ (f : Addr) (fd : FuncData), Meth K C "path" f ∧ Fun K "path" "WireTree.path" s_WireTree_path f fd ∧ Binds K fd ["self", "node"] []
  m_below : ∃ (f : Addr) (fd : FuncData), Meth K C "below" f ∧ Fun K "below" "WireTree.below" s_WireTree_below f fd ∧ Binds K fd ["self", "node"] []
  m_delay_range : ∃ (f : Addr) (fd : FuncData), Meth K C "delay_range" f ∧ Fun K "delay_range" "WireTree.delay_range" s_WireTree_delay_range f fd ∧ KBn K fd ["self", "node", "unit"] 2 ["unit"] (fun us ws => us ++ ws) (fun vs zs => vs ++ zs)
  m_check_node : ∃ (f : Addr) (fd : FuncData), Meth K C "_check_node" f ∧ Fun K "_check_node" "WireTree._check_node" s_WireTree_check_node f fd ∧ Binds K fd ["self", "node"] []
  n_parents : NoAttr K C "_parents"
  n_resistances : NoAttr K C "_resistances"
  n_capacitances : NoAttr K C "_capacitances"
end G
namespace G
open PySem PySem.Spec PyProof.Rows L2 Evl TL
/-! ## what a class's __init__ keeps: all but the new object -/
def ExBut (x : Addr) (H H' : Hp) : Prop := ∀ b o, H b = some o → b ≠ x → H' b = some o
theorem ExBut.of {x : Addr} {H H' : Hp} (e : Ex H H') : ExBut x H H' := fun b o h _ => e b o h
theorem ExBut.trans {x : Addr} {H H1 H2 : Hp} (a : ExBut x H H1) (b : ExBut x H1 H2) : ExBut x H H2 := fun c o h n => b c o (a c o h n) n
theorem ExBut.put {x : Addr} {H : Hp} {o : HO} : ExBut x H (upd H x o) := fun b q h n => by rw [upd_ne n]; exact h
theorem ExBut.made {x dx : Addr} {H H' : Hp} {o1 o2 : HO} (nx : H x = none) (nd : H dx = none) (e : ExBut x (upd (upd H dx o1) x o2) H') : Ex H H' := fun b o h => by
  have h1 : b ≠ x := ne_of_none h nx
  have h2 : b ≠ dx := ne_of_none h nd
  exact e b o (by rw [upd_ne h1, upd_ne h2]; exact h) h1
theorem made_free {x dx L : Addr} {H : Hp} {o1 o2 : HO} (h : upd (upd H dx o1) x o2 L = none) : H L = none := by
  have h1 : L ≠ x := fun z => by rw [z, upd_same] at h; cases h
  rw [upd_ne h1] at h
  have h2 : L ≠ dx := fun z => by rw [z, upd_same] at h; cases h
  rw [upd_ne h2] at h; exact h
theorem made_old {x dx b : Addr} {H : Hp} {o1 o2 o : HO} (nx : H x = none) (nd : H dx = none) (h : H b = some o) : upd (upd H dx o1) x o2 b = some o := by
  rw [upd_ne (ne_of_none h nx), upd_ne (ne_of_none h nd)]; exact h
/-! ## trees of wires -/
structure SegD where
  above : Int
  res : Int × Int
  cap : Int × Int
def PrAt (H : Hp) (a : Addr) (p : Int × Int) : Prop := H a = some (.tup [.int p.1, .int p.2])
def SegAt (H : Hp) (a : Addr) (s : SegD) : Prop := ∃ ra ca : Addr, H a = some (.tup [.int s.above, .ref ra, .ref ca]) ∧ PrAt H ra s.res ∧ PrAt H ca s.cap
theorem SegAt.ex {H H' : Hp} {a : Addr} {s : SegD} (e : Ex H H') (h : SegAt H a s) : SegAt H' a s := by
  obtain ⟨ra, ca, h1, h2, h3⟩ := h
  exact ⟨ra, ca, e _ _ h1, e _ _ h2, e _ _ h3⟩
theorem rne1 : ¬ (("_parents" : Str) = "_capacitances") := by decide +kernel
theorem rne2 : ¬ (("_parents" : Str) = "_resistances") := by decide +kernel
theorem rne3 : ¬ (("_resistances" : Str) = "_capacitances") := by decide +kernel
def tfl (p r c : Addr) : List (Str × V) := putF "_capacitances" (.ref c) (putF "_resistances" (.ref r) (putF "_parents" (.ref p) []))
theorem tfl_p (p r c : Addr) : (tfl p r c).lookup ("_parents" : Str) = some (.ref p) := by unfold tfl; rw [lookup_putF, if_neg rne1, lookup_putF, if_neg rne2, lookup_putF, if_pos rfl]
theorem tfl_r (p r c : Addr) : (tfl p r c).lookup ("_resistances" : Str) = some (.ref r) := by unfold tfl; rw [lookup_putF, if_neg rne3, lookup_putF, if_pos rfl]
theorem tfl_c (p r c : Addr) : (tfl p r c).lookup ("_capacitances" : Str) = some (.ref c) := by unfold tfl; rw [lookup_putF, if_pos rfl]
theorem tfl_no (p r c : Addr) {m : Str} (h1 : ¬ m = "_capacitances") (h2 : ¬ m = "_resistances") (h3 : ¬ m = "_parents") : (tfl p r c).lookup m = none := by
  unfold tfl; rw [lookup_putF, if_neg h1, lookup_putF, if_neg h2, lookup_putF, if_neg h3]; rfl
def parL (segs : List SegD) : List Int := -1 :: segs.map (·.above)
structure TreeAt (C : Addr) (H : Hp) (x p r c : Addr) (segs : List SegD) : Prop where
  ob : ∃ dx, H x = some (.ins C dx (tfl p r c))
  pa : H p = some (.lst ((parL segs).map V.int))
  re : ∃ rl : List Addr, H r = some (.lst (rl.map V.ref)) ∧ All2 (PrAt H) rl (segs.map (·.res))
  ca : ∃ cl : List Addr, H c = some (.lst (cl.map V.ref)) ∧ All2 (PrAt H) cl (segs.map (·.cap))
theorem TreeAt.ex {C : Addr} {H H' : Hp} {x p r c : Addr} {segs : List SegD} (e : Ex H H') (h : TreeAt C H x p r c segs) : TreeAt C H' x p r c segs := by
  obtain ⟨⟨dx, h1⟩, h2, ⟨rl, h3, h4⟩, ⟨cl, h5, h6⟩⟩ := h
  exact ⟨⟨dx, e _ _ h1⟩, e _ _ h2, ⟨rl, e _ _ h3, h4.imp fun _ _ z => e _ _ z⟩, ⟨cl, e _ _ h5, h6.imp fun _ _ z => e _ _ z⟩⟩
def ParOk (segs : List SegD) : Prop := ∀ (k : Nat) (s : SegD), segs[k]? = some s → 0 ≤ s.above ∧ s.above ≤ k
def okQ (r : Int × Int) : Prop := 0 ≤ r.1 ∧ r.1 ≤ r.2
def RngS (segs : List SegD) : Prop := ∀ s ∈ segs, okQ s.res ∧ okQ s.cap
structure TxtT (mg : Str → Option Value) : Prop where
  len : mg "len" = none
  list : mg "list" = none
  tuple : mg "tuple" = none
  range : mg "range" = none
  enumerate : mg "enumerate" = none
theorem fsk {k : Nat} (h : k ≤ 1000) : ((k : Int) + 1).natAbs.log2 < 1920 := by
  have : ((k : Int) + 1).natAbs < 2 ^ 11 := by omega
  have := PySem.Flt.log2_lt_of (by decide : 0 < 11) this
  omega
theorem tkn_small : ∀ k : Nat, k < 1001 → (Str.ofString (toString ((k : Int) + 1))).length ≤ 100 := by decide +kernel
theorem fsn {a b : Str} {k : Nat} (ha : a.length ≤ 100) (hb : b.length ≤ 100) (hk : k ≤ 1000) : (Str.empty ++ a).length ≤ sizeLine ∧ ((Str.empty ++ a) ++ Str.ofString (toString ((k : Int) + 1))).length ≤ sizeLine ∧ (((Str.empty ++ a) ++ Str.ofString (toString ((k : Int) + 1))) ++ b).length ≤ sizeLine := by
  have e : ∀ x y : Str, (x ++ y).length = x.length + y.length := fun x y => by rw [len_tl, tl_append, List.length_append, ← len_tl, ← len_tl]
  have e0 : Str.empty.length = 0 := rfl
  have h1 := tkn_small k (by omega)
  refine ⟨sz_of ?_, sz_of ?_, sz_of ?_⟩
  · rw [e, e0]; omega
  · rw [e, e, e0]; omega
  · rw [e, e, e, e0]; omega
section
variable {P : Program} {w : World} {K : PySem.W.Frag} {mg : Str → Option Value} {base : Heap}
def rTupOfW (K : PySem.W.Frag) : List V → Hp → VK → Prop := fun xs H Q => ∃ p ys, xs = [.ref p] ∧ ((SqL K H p ys ∧ ∀ l, H l = none → Q (.ref l) (upd H l (.tup ys))) ∨ (SqT K H p ys ∧ Q (.ref p) H))
theorem kTupOfW {X : Cx} {K : PySem.W.Frag} (h : X.K = K) : CallR X (.type "tuple") (rTupOfW K) := by subst h; exact call_tuple_of
def spTInit (C B R : Addr) : Sp := fun vs H Q E => ∃ (x dx l : Addr) (as : List Addr) (segs : List SegD), vs = [.ref x, .ref l] ∧ H x = some (.ins C dx []) ∧ H l = some (.lst (as.map V.ref)) ∧ All2 (SegAt H) as segs ∧ segs.length ≤ 100 ∧
  (ParOk segs → RngS segs → ∀ (p r c : Addr) (H' : Hp), H p = none → H r = none → H c = none → ExBut x H H' → TreeAt C H' x p r c segs → Q .non H') ∧ (¬ ParOk segs → ∀ H', ExBut x H H' → E (.ref B) none H') ∧ (ParOk segs → ¬ RngS segs → ∀ H', ExBut x H H' → E (.ref R) none H')
theorem sc_WireTree_init : FnScope ["self", "segments", "rows", "k", "above", "_", "resistance", "capacitance", "low", "high", "pair"] ["self", "segments"] (defScope s_WireTree_init) := ⟨rfl, rfl, rfl, by decide +kernel, rfl, by decide +kernel, by decide +kernel⟩
theorem ok_WireTree_init {C B R : Addr} {f : Addr} {fd : FuncData} (F : Fun K "__init__" "WireTree.__init__" s_WireTree_init f fd) (W : Cl_WireTree K mg C) (T : TxtT mg) (UB : ExcT K mg "BadArgument" B) (UR : ExcT K mg "BadRange" R) : FnOk P w K mg base (L2.CX P w) 1 f fd ["self", "segments"] (spTInit C B R) := by
  refine F.okX sc_WireTree_init (fun vs H Q E h => ?_) (fun cdv A outer s H vs Q E hr h => ?_)
  · obtain ⟨x, dx, l, as, segs, rfl, _⟩ := h
    rfl
  · obtain ⟨x, dx, l, as, segs, rfl, hx, hl, hA, hn, q, qB, qR⟩ := h
    refine ⟨_, (pss_cons (ps_set (i := 2) sc_WireTree_init.nd rfl (.inl rfl) (pe_callTy call_list_of (by rfl) T.list (by decide +kernel) (pa_cons (pv 1) pa_nil)))
    (pss_cons (ps_for (passes_of rfl) rfl (pi_enum (by rfl) T.enumerate (pa_cons (pv 2) pa_nil)) (pg_tup rfl (pgs_cons (pg_name (i := 3) sc_WireTree_init.nd rfl (.inl rfl)) (pgs_cons (pg_tup rfl (pgs_cons (pg_name (i := 4) sc_WireTree_init.nd rfl (.inl rfl)) (pgs_cons (pg_name (i := 5) sc_WireTree_init.nd rfl (.inl rfl)) (pgs_cons (pg_name (i := 5) sc_WireTree_init.nd rfl (.inl rfl)) pgs_nil)))) pgs_nil)))
      (pss_one (ps_if (PW.pt (pw_or (pt_cmpR op_lt (pv 4) pe_int (nomark _)) (pw_or1 (pt_cmpR op_gt (pv 4) (pv 3) (nomark _)))))
        (pss_one (ps_raise rfl (takes_of rfl rfl rfl rfl) (pmk_ownA PySem.F.excBase_ValueError UB.xP UB.gC UB.kC (raises_own UB.bC UB.tC) rfl (pa_cons (pe_joined (.cons pe_str (.cons (pe_fmt (pe_op op_add (pv 3) pe_int)) (.cons pe_str .nil)))) pa_nil))))
        pss_nil)))
    (pss_cons (ps_for (passes_of rfl) rfl (pi_list (pv 2)) (pg_tup rfl (pgs_cons (pg_name (i := 5) sc_WireTree_init.nd rfl (.inl rfl)) (pgs_cons (pg_name (i := 6) sc_WireTree_init.nd rfl (.inl rfl)) (pgs_cons (pg_name (i := 7) sc_WireTree_init.nd rfl (.inl rfl)) pgs_nil))))
      (pss_one (ps_for (passes_of rfl) rfl (pi_tup (pe_tup (pa_cons (pv 6) (pa_cons (pv 7) pa_nil)))) (pg_tup rfl (pgs_cons (pg_name (i := 8) sc_WireTree_init.nd rfl (.inl rfl)) (pgs_cons (pg_name (i := 9) sc_WireTree_init.nd rfl (.inl rfl)) pgs_nil)))
        (pss_one (ps_if (PW.pt (pw_or (pt_cmpR op_lt (pv 8) pe_int (nomark _)) (pw_or1 (pt_cmpR op_gt (pv 8) (pv 9) (nomark _)))))
          (pss_one (ps_raise rfl (takes_of rfl rfl rfl rfl) (pmk_ownA PySem.F.excBase_ValueError UR.xP UR.gC UR.kC (raises_own UR.bC UR.tC) rfl (pa_cons pe_str pa_nil))))
          pss_nil)))))
    (pss_cons (ps_fld (pv 0) (pe_op op_cat (pe_lst (pa_cons (pe_un un_neg pe_int) pa_nil)) (pe_lc (own := [("above", 4), ("_", 5)]) (g := gTup K 3 (gCons (gName 4) (gCons (gName 5) (gCons (gName 5) gNil)))) (tt := tYes) rfl sc_WireTree_init.nd (pi_list (pv 2)) (blkOk_by (N := ["self", "segments", "rows", "k", "above", "_", "resistance", "capacitance", "low", "high", "pair"]) (sc := defScope s_WireTree_init) (own := [("above", 4), ("_", 5)]) (by decide +kernel)) (fun _ _ _ _ _ => (pg_tup rfl (pgs_cons (pg_name (i := 4) sc_WireTree_init.nd rfl (.inl rfl)) (pgs_cons (pg_name (i := 5) sc_WireTree_init.nd rfl (.inl rfl)) (pgs_cons (pg_name (i := 5) sc_WireTree_init.nd rfl (.inl rfl)) pgs_nil))))) (fun _ _ _ _ _ => pts_nil) (fun _ _ _ _ _ => (pv 4)))) rfl)
    (pss_cons (ps_fld (pv 0) (pe_lc (own := [("_", 5), ("pair", 10)]) (g := gTup K 3 (gCons (gName 5) (gCons (gName 10) (gCons (gName 5) gNil)))) (tt := tYes) rfl sc_WireTree_init.nd (pi_list (pv 2)) (blkOk_by (N := ["self", "segments", "rows", "k", "above", "_", "resistance", "capacitance", "low", "high", "pair"]) (sc := defScope s_WireTree_init) (own := [("_", 5), ("pair", 10)]) (by decide +kernel)) (fun _ _ _ _ _ => (pg_tup rfl (pgs_cons (pg_name (i := 5) sc_WireTree_init.nd rfl (.inl rfl)) (pgs_cons (pg_name (i := 10) sc_WireTree_init.nd rfl (.inl rfl)) (pgs_cons (pg_name (i := 5) sc_WireTree_init.nd rfl (.inl rfl)) pgs_nil))))) (fun _ _ _ _ _ => pts_nil) (fun _ _ _ _ _ => (pe_callTy (kTupOfW (K := K) rfl) (by rfl) T.tuple (by decide +kernel) (pa_cons (pv 10) pa_nil)))) rfl)
    (pss_one (ps_fld (pv 0) (pe_lc (own := [("_", 5), ("pair", 10)]) (g := gTup K 3 (gCons (gName 5) (gCons (gName 5) (gCons (gName 10) gNil)))) (tt := tYes) rfl sc_WireTree_init.nd (pi_list (pv 2)) (blkOk_by (N := ["self", "segments", "rows", "k", "above", "_", "resistance", "capacitance", "low", "high", "pair"]) (sc := defScope s_WireTree_init) (own := [("_", 5), ("pair", 10)]) (by decide +kernel)) (fun _ _ _ _ _ => (pg_tup rfl (pgs_cons (pg_name (i := 5) sc_WireTree_init.nd rfl (.inl rfl)) (pgs_cons (pg_name (i := 5) sc_WireTree_init.nd rfl (.inl rfl)) (pgs_cons (pg_name (i := 10) sc_WireTree_init.nd rfl (.inl rfl)) pgs_nil))))) (fun _ _ _ _ _ => pts_nil) (fun _ _ _ _ _ => (pe_callTy (kTupOfW (K := K) rfl) (by rfl) T.tuple (by decide +kernel) (pa_cons (pv 10) pa_nil)))) rfl))))))), ?_⟩
    refine ⟨_, rfl, _, _, rfl, .inl (SqL.of hl), fun lf nlf => ?_⟩
    have E1 : Ex H (upd H lf (.lst (as.map V.ref))) := Ex.new nlf
    have h1 : upd H lf (.lst (as.map V.ref)) lf = some (.lst (as.map V.ref)) := upd_same
    generalize upd H lf (.lst (as.map V.ref)) = H1 at *
    have lA := hA.1
    refine ⟨_, rfl, lf, _, rfl, SqL.of h1, for_it walk_enum
      (fun i σ H' => Ex H1 H' ∧ (∀ (k : Nat) (s : SegD), k < i → segs[k]? = some s → 0 ≤ s.above ∧ s.above ≤ k) ∧ ∃ x3 x4 x5 : Option V, σ = [some (.ref x), some (.ref l), some (.ref lf), x3, x4, x5, none, none, none, none, none])
      ⟨.refl _, (fun k _ h => absurd h (Nat.not_lt_zero _)), _, _, _, rfl⟩ (fun i σ H' _ g => SqL.of (g.1 _ _ h1)) ?_ ?_⟩
    · rintro i y σ H2 H3 hi ⟨E2, ok, x3, x4, x5, rfl⟩ ⟨T1, x0, y0, rfl, nT, rfl, hx0, hy0⟩
      cases hx0
      obtain ⟨b, hb, rfl⟩ := refs_get hy0
      obtain ⟨sg, hsg, ra, ca, s1, s2, s3⟩ := hA.at_ hb
      have hi2 : i < segs.length := (List.getElem?_eq_some_iff.mp hsg).1
      have E3 : Ex H2 (upd H2 T1 (.tup [.int (i : Nat), .ref b])) := Ex.new nT
      have e03 := E1.trans (E2.trans E3)
      refine ⟨T1, _, rfl, SqT.of upd_same, rfl, _, _, rfl, _, _, rfl, b, _, rfl, SqT.of (e03 _ _ s1), rfl, _, _, rfl, _, _, rfl, _, _, rfl, rfl, rfl, ?_⟩
      generalize upd H2 T1 (.tup [.int (i : Nat), .ref b]) = H3 at *
      simp only [wipe, _root_.L2.start, List.map_cons, List.map_nil, List.length_cons, List.length_nil, Nat.reduceAdd, Nat.reduceSub, List.replicate_succ, List.replicate_zero, List.cons_append, List.nil_append, List.set_cons_zero, List.set_cons_succ]
      have bad : ¬ (0 ≤ sg.above ∧ sg.above ≤ i) → E (.ref B) none H3 := fun z => qB (fun y => z (y i sg hsg)) H3 (.of e03)
      obtain ⟨z1, z2, z3⟩ := fsn (a := "the parent of node ") (b := " is not an earlier node") (k := i) (by decide +kernel) (by decide +kernel) (by omega)
      refine ⟨_, rfl, _, _, rfl, rfl, _, rfl, ite2 (fun c1 => ?_) (fun c1 => ⟨_, rfl, _, rfl, _, _, rfl, rfl, _, rfl, ite2 (fun c2 => ?_) (fun c2 => ?_)⟩)⟩
      · exact iteT ⟨_, rfl, z1, _, rfl, _, _, rfl, rfl, .inr ⟨_, rfl, fsk (by omega), _, rfl, z2, _, rfl, z3, (by show 1 ≤ sizeLine; decide), bad fun z => by have := of_decide_eq_true c1; omega⟩⟩
      · exact ⟨_, rfl, z1, _, rfl, _, _, rfl, rfl, .inr ⟨_, rfl, fsk (by omega), _, rfl, z2, _, rfl, z3, (by show 1 ≤ sizeLine; decide), bad fun z => by have := of_decide_eq_true c2; omega⟩⟩
      · have k1 : ¬ sg.above < 0 := fun z => c1 (decide_eq_true z)
        have k2 : ¬ sg.above > (i : Int) := fun z => c2 (decide_eq_true z)
        refine ⟨E2.trans E3, fun k s' hk h => ?_, _, _, _, rfl⟩
        rcases Nat.lt_succ_iff_lt_or_eq.mp hk with z | z
        · exact ok k s' z h
        · subst z
          rw [hsg] at h
          cases h
          omega
    · rintro σ H2 ⟨E2, ok, x3, x4, x5, rfl⟩
      have hPar : ParOk segs := fun k s' h => ok k s' (by rw [List.length_map, lA]; exact (List.getElem?_eq_some_iff.mp h).1) h
      have e02 := E1.trans E2
      refine ⟨_, rfl, lf, rfl, ⟨_, SqL.of (E2 _ _ h1)⟩, for_list (K := K) (a := lf) (xs := as.map V.ref)
        (fun i σ H' => Ex H2 H' ∧ (∀ s' ∈ segs.take i, okQ s'.res ∧ okQ s'.cap) ∧ ∃ y5 y6 y7 y8 y9 : Option V, σ = [some (.ref x), some (.ref l), some (.ref lf), x3, x4, y5, y6, y7, y8, y9, none])
        ⟨.refl _, (by rw [List.take_zero]; exact fun _ h => nomatch h), _, _, _, _, _, rfl⟩ (fun i σ H' _ g => SqL.of (g.1 _ _ (E2 _ _ h1))) ?_ ?_⟩
      · rintro i y σ H3 hy ⟨E3, okr, y5, y6, y7, y8, y9, rfl⟩
        obtain ⟨b, hb, rfl⟩ := refs_get hy
        obtain ⟨sg, hsg, ra, ca, s1, s2, s3⟩ := hA.at_ hb
        have e03 := e02.trans E3
        refine ⟨b, _, rfl, SqT.of (e03 _ _ s1), rfl, _, _, rfl, _, _, rfl, _, _, rfl, rfl, ?_⟩
        simp only [wipe, _root_.L2.start, List.map_cons, List.map_nil, List.length_cons, List.length_nil, Nat.reduceAdd, Nat.reduceSub, List.replicate_succ, List.replicate_zero, List.cons_append, List.nil_append, List.set_cons_zero, List.set_cons_succ]
        refine ⟨_, rfl, _, rfl, (by show 2 ≤ sizeLine; decide), fun tt ntt => ?_⟩
        have E4 : Ex H3 (upd H3 tt (.tup [.ref ra, .ref ca])) := Ex.new ntt
        have h4 : upd H3 tt (.tup [.ref ra, .ref ca]) tt = some (.tup ([ra, ca].map V.ref)) := upd_same
        generalize upd H3 tt (.tup [.ref ra, .ref ca]) = H4 at *
        have e04 := e03.trans E4
        have hpr : All2 (PrAt H4) [ra, ca] [sg.res, sg.cap] := .cons (e04 _ _ s2) (.cons (e04 _ _ s3) .nil)
        refine ⟨tt, rfl, ⟨_, SqT.of h4⟩, for_tup (K := K) (a := tt) (xs := [ra, ca].map V.ref)
          (fun j σ H' => Ex H4 H' ∧ (∀ r ∈ [sg.res, sg.cap].take j, okQ r) ∧ ∃ w8 w9 : Option V, σ = [some (.ref x), some (.ref l), some (.ref lf), x3, x4, some (.int sg.above), some (.ref ra), some (.ref ca), w8, w9, none])
          ⟨.refl _, (by rw [List.take_zero]; exact fun _ h => nomatch h), _, _, rfl⟩ (fun i σ H' _ g => SqT.of (g.1 _ _ h4)) ?_ ?_⟩
        · rintro j y σ H5 hy ⟨E5, okj, w8, w9, rfl⟩
          obtain ⟨u, hu, rfl⟩ := refs_get hy
          obtain ⟨r, hr2, hra⟩ := hpr.at_ hu
          have hra5 := E5 _ _ hra
          refine ⟨u, _, rfl, SqT.of hra5, rfl, _, _, rfl, _, _, rfl, rfl, ?_⟩
          simp only [wipe, _root_.L2.start, List.map_cons, List.map_nil, List.length_cons, List.length_nil, Nat.reduceAdd, Nat.reduceSub, List.replicate_succ, List.replicate_zero, List.cons_append, List.nil_append, List.set_cons_zero, List.set_cons_succ]
          have bad : ¬ okQ r → E (.ref R) none H5 := fun z => qR hPar (fun y => z (by
            have hm := y sg (List.mem_of_getElem? hsg)
            have hmem := List.mem_of_getElem? hr2
            simp only [List.mem_cons, List.not_mem_nil, or_false] at hmem
            rcases hmem with e | e <;> rw [e]
            · exact hm.1
            · exact hm.2)) H5 (.of (e04.trans E5))
          refine ⟨_, rfl, _, _, rfl, rfl, _, rfl, ite2 (fun c1 => ?_) (fun c1 => ⟨_, rfl, _, rfl, _, _, rfl, rfl, _, rfl, ite2 (fun c2 => ?_) (fun c2 => ?_)⟩)⟩
          · exact iteT ⟨(by show 1 ≤ sizeLine; decide), bad fun z => by have := of_decide_eq_true c1; have := z.1; omega⟩
          · exact ⟨(by show 1 ≤ sizeLine; decide), bad fun z => by have := of_decide_eq_true c2; have := z.2; omega⟩
          · have k1 : ¬ r.1 < 0 := fun z => c1 (decide_eq_true z)
            have k2 : ¬ r.1 > r.2 := fun z => c2 (decide_eq_true z)
            refine ⟨E5, fun r' hr' => ?_, _, _, rfl⟩
            rw [take_snoc1 hr2] at hr'
            rcases List.mem_append.mp hr' with h | h
            · exact okj r' h
            · rw [List.mem_singleton.mp h]; exact ⟨by omega, by omega⟩
        · rintro σ H5 ⟨E5, okj, w8, w9, rfl⟩
          refine ⟨E3.trans (E4.trans E5), fun s' hs' => ?_, _, _, _, _, _, rfl⟩
          rw [take_snoc1 hsg] at hs'
          rcases List.mem_append.mp hs' with h | h
          · exact okr s' h
          · rw [List.mem_singleton.mp h]; exact ⟨okj _ (by simp), okj _ (by simp)⟩
      · rintro σ H3 ⟨E3, okr, y5, y6, y7, y8, y9, rfl⟩
        rw [List.length_map, lA, List.take_length] at okr
        have e03 := e02.trans E3
        have hlf3 := (E2.trans E3) _ _ h1
        -- _parents
        refine ⟨_, rfl, (by show 1 ≤ sizeLine; decide), fun m1 nm1 => ?_⟩
        have E4 : Ex H3 (upd H3 m1 (.lst [.int (-1)])) := Ex.new nm1
        have h4 : upd H3 m1 (.lst [.int (-1)]) m1 = some (.lst [.int (-1)]) := upd_same
        generalize upd H3 m1 (.lst [.int (-1)]) = H4 at *
        refine ⟨_, rfl, lf, rfl, ⟨_, SqL.of (E4 _ _ hlf3)⟩, fun L1 nL1 => wk_list (K := K) (a := lf) (xs := as.map V.ref) (fun j H' => Ex H4 H' ∧ H' L1 = some (.lst (((segs.take j).map (·.above)).map V.int))) ⟨Ex.new nL1, upd_same⟩ (fun j H' _ z => SqL.of (z.1 _ _ (E4 _ _ hlf3))) ?_ ?_⟩
        · rintro j y H5 hy ⟨E5, hL⟩
          obtain ⟨b, hb, rfl⟩ := refs_get hy
          obtain ⟨sg, hsg, ra, ca, s1, s2, s3⟩ := hA.at_ hb
          have e05 := e03.trans (E4.trans E5)
          refine ⟨b, _, rfl, SqT.of (e05 _ _ s1), rfl, _, _, rfl, _, _, rfl, _, _, rfl, rfl, rfl, tYes_in ?_⟩
          simp only [wipe, _root_.L2.start, List.map_cons, List.map_nil, List.length_cons, List.length_nil, Nat.reduceAdd, Nat.reduceSub, List.replicate_succ, List.replicate_zero, List.cons_append, List.nil_append, List.set_cons_zero, List.set_cons_succ]
          refine ⟨_, rfl, _, hL, sz_lt (by rw [List.length_map, List.length_map, List.length_take]; omega), E5.mut nL1, ?_⟩
          rw [upd_same, take_snoc1 hsg, List.map_append, List.map_append]; rfl
        · rintro H5 ⟨E5, hL⟩
          rw [List.length_map, lA, List.take_length] at hL
          refine ⟨m1, L1, _, _, rfl, rfl, E5 _ _ h4, hL, sz_of (by rw [List.length_map, List.length_map]; show 1 + _ ≤ _; omega), fun pl npl => ?_⟩
          have e45 := E4.trans E5
          have E6 : Ex H5 (upd H5 pl (.lst ([.int (-1)] ++ (segs.map (·.above)).map V.int))) := Ex.new npl
          have hpl6 : upd H5 pl (.lst ([.int (-1)] ++ (segs.map (·.above)).map V.int)) pl = some (.lst ((parL segs).map V.int)) := upd_same
          have npl0 : H pl = none := fresh_back (e03.trans e45) npl
          generalize upd H5 pl (.lst ([.int (-1)] ++ (segs.map (·.above)).map V.int)) = H6 at *
          have e06 := e03.trans (e45.trans E6)
          have hx6 := e06 _ _ hx
          have nplx : pl ≠ x := (ne_of_none hx npl0).symm
          have hlfx : lf ≠ x := (ne_of_none hx nlf).symm
          have segx : ∀ {H' : Hp} {b : Addr} {sg : SegD}, ExBut x H H' → SegAt H b sg → SegAt H' b sg := fun {H' b sg} eb z => by
            obtain ⟨ra, ca, a1, a2, a3⟩ := z
            exact ⟨ra, ca, eb _ _ a1 (ne_of a1 hx (by intro y; cases y)), eb _ _ a2 (ne_of a2 hx (by intro y; cases y)), eb _ _ a3 (ne_of a3 hx (by intro y; cases y))⟩
          refine ⟨_, rfl, x, C, dx, [], rfl, hx6, W.cl, W.n_parents, (by show 0 < 1000; decide), ?_⟩
          have B7 : ExBut x H (upd H6 x (.ins C dx (putF "_parents" (.ref pl) []))) := (ExBut.of e06).trans ExBut.put
          have hx7 : upd H6 x (.ins C dx (putF "_parents" (.ref pl) [])) x = some (.ins C dx (putF "_parents" (.ref pl) [])) := upd_same
          have hlf7 : upd H6 x (.ins C dx (putF "_parents" (.ref pl) [])) lf = some (.lst (as.map V.ref)) := by rw [upd_ne hlfx]; exact (e45.trans E6) _ _ hlf3
          have hpl7 : upd H6 x (.ins C dx (putF "_parents" (.ref pl) [])) pl = some (.lst ((parL segs).map V.int)) := by rw [upd_ne nplx]; exact hpl6
          generalize upd H6 x (.ins C dx (putF "_parents" (.ref pl) [])) = H7 at *
          have hA7 := hA.imp fun _ _ z => segx B7 z
          -- _resistances
          refine ⟨_, rfl, lf, rfl, ⟨_, SqL.of hlf7⟩, fun L2 nL2 => wk_list (K := K) (a := lf) (xs := as.map V.ref) (fun j H' => Ex H7 H' ∧ ∃ rl : List Addr, H' L2 = some (.lst (rl.map V.ref)) ∧ All2 (PrAt H7) rl ((segs.take j).map (·.res))) ⟨Ex.new nL2, [], upd_same, .nil⟩ (fun j H' _ z => SqL.of (z.1 _ _ hlf7)) ?_ ?_⟩
          · rintro j y H8 hy ⟨E8, rl, hL2, hrl⟩
            obtain ⟨b, hb, rfl⟩ := refs_get hy
            obtain ⟨sg, hsg, ra, ca, s1, s2, s3⟩ := hA7.at_ hb
            have hj : j < segs.length := (List.getElem?_eq_some_iff.mp hsg).1
            refine ⟨b, _, rfl, SqT.of (E8 _ _ s1), rfl, _, _, rfl, _, _, rfl, _, _, rfl, rfl, rfl, tYes_in ?_⟩
            simp only [wipe, _root_.L2.start, List.map_cons, List.map_nil, List.length_cons, List.length_nil, Nat.reduceAdd, Nat.reduceSub, List.replicate_succ, List.replicate_zero, List.cons_append, List.nil_append, List.set_cons_zero, List.set_cons_succ]
            refine ⟨_, rfl, ra, _, rfl, .inr ⟨SqT.of (E8 _ _ s2), _, hL2, sz_lt (by rw [List.length_map, hrl.1, List.length_map, List.length_take]; omega), E8.mut nL2, rl ++ [ra], by rw [upd_same, List.map_append]; rfl, ?_⟩⟩
            rw [take_snoc1 hsg, List.map_append]
            exact hrl.snoc s2
          rintro H8 ⟨E8, rl, hL2, hrl⟩
          rw [List.length_map, lA, List.take_length] at hrl
          have nL20 : H L2 = none := by
            cases e : H L2 with
            | none => rfl
            | some o =>
              by_cases z : L2 = x
              · rw [z, hx7] at nL2; cases nL2
              · have := B7 _ _ e z
                rw [nL2] at this; cases this
          have nL2x : L2 ≠ x := (ne_of_none hx nL20).symm
          refine ⟨_, rfl, x, C, dx, _, rfl, E8 _ _ hx7, W.cl, W.n_resistances, (by show 1 < 1000; decide), ?_⟩
          have B9 : ExBut x H7 (upd H8 x (.ins C dx (putF "_resistances" (.ref L2) (putF "_parents" (.ref pl) [])))) := (ExBut.of E8).trans ExBut.put
          have hx9 : upd H8 x (.ins C dx (putF "_resistances" (.ref L2) (putF "_parents" (.ref pl) []))) x = some (.ins C dx (putF "_resistances" (.ref L2) (putF "_parents" (.ref pl) []))) := upd_same
          have hL29 : upd H8 x (.ins C dx (putF "_resistances" (.ref L2) (putF "_parents" (.ref pl) []))) L2 = some (.lst (rl.map V.ref)) := by rw [upd_ne nL2x]; exact hL2
          generalize upd H8 x (.ins C dx (putF "_resistances" (.ref L2) (putF "_parents" (.ref pl) []))) = H9 at *
          have hlf9 := B9 _ _ hlf7 hlfx
          have hpl9 := B9 _ _ hpl7 nplx
          have B09 := B7.trans B9
          have hA9 := hA.imp fun _ _ z => segx B09 z
          have hrl9 : All2 (PrAt H9) rl (segs.map (·.res)) := hrl.imp fun _ _ z => B9 _ _ z (ne_of z hx7 (by intro y; cases y))
          -- _capacitances
          refine ⟨_, rfl, lf, rfl, ⟨_, SqL.of hlf9⟩, fun L3 nL3 => wk_list (K := K) (a := lf) (xs := as.map V.ref) (fun j H' => Ex H9 H' ∧ ∃ cl : List Addr, H' L3 = some (.lst (cl.map V.ref)) ∧ All2 (PrAt H9) cl ((segs.take j).map (·.cap))) ⟨Ex.new nL3, [], upd_same, .nil⟩ (fun j H' _ z => SqL.of (z.1 _ _ hlf9)) ?_ ?_⟩
          · rintro j y H10 hy ⟨E10, cl, hL3, hcl⟩
            obtain ⟨b, hb, rfl⟩ := refs_get hy
            obtain ⟨sg, hsg, ra, ca, s1, s2, s3⟩ := hA9.at_ hb
            have hj : j < segs.length := (List.getElem?_eq_some_iff.mp hsg).1
            refine ⟨b, _, rfl, SqT.of (E10 _ _ s1), rfl, _, _, rfl, _, _, rfl, _, _, rfl, rfl, rfl, tYes_in ?_⟩
            simp only [wipe, _root_.L2.start, List.map_cons, List.map_nil, List.length_cons, List.length_nil, Nat.reduceAdd, Nat.reduceSub, List.replicate_succ, List.replicate_zero, List.cons_append, List.nil_append, List.set_cons_zero, List.set_cons_succ]
            refine ⟨_, rfl, ca, _, rfl, .inr ⟨SqT.of (E10 _ _ s3), _, hL3, sz_lt (by rw [List.length_map, hcl.1, List.length_map, List.length_take]; omega), E10.mut nL3, cl ++ [ca], by rw [upd_same, List.map_append]; rfl, ?_⟩⟩
            rw [take_snoc1 hsg, List.map_append]
            exact hcl.snoc s3
          rintro H10 ⟨E10, cl, hL3, hcl⟩
          rw [List.length_map, lA, List.take_length] at hcl
          have nL30 : H L3 = none := by
            cases e : H L3 with
            | none => rfl
            | some o =>
              by_cases z : L3 = x
              · rw [z, hx9] at nL3; cases nL3
              · have := B09 _ _ e z
                rw [nL3] at this; cases this
          have nL3x : L3 ≠ x := (ne_of_none hx nL30).symm
          refine ⟨_, rfl, x, C, dx, _, rfl, E10 _ _ hx9, W.cl, W.n_capacitances, (by show 2 < 1000; decide), ?_⟩
          have B11 : ExBut x H9 (upd H10 x (.ins C dx (tfl pl L2 L3))) := (ExBut.of E10).trans ExBut.put
          exact q hPar okr pl L2 L3 _ npl0 nL20 nL30 (B09.trans B11) ⟨⟨dx, upd_same⟩, B11 _ _ hpl9 nplx, ⟨rl, B11 _ _ hL29 nL2x, hrl9.imp fun _ _ z => B11 _ _ z (ne_of z hx9 (by intro y; cases y))⟩, ⟨cl, by rw [upd_ne nL3x]; exact hL3, hcl.imp fun _ _ z => B11 _ _ z (ne_of z hx9 (by intro y; cases y))⟩⟩
end
end G
namespace G
open PySem PySem.Spec PyProof.Rows L2 Evl TL
/-! ## the way from a node to the root -/
def parN (segs : List SegD) (n : Nat) : Nat := ((segs.map (·.above)).getD (n - 1) 0).toNat
def ancF (segs : List SegD) : Nat → Nat → List Nat
  | 0, n => [n]
  | f + 1, n => if n = 0 then [0] else n :: ancF segs f (parN segs n)
def anc (segs : List SegD) (n : Nat) : List Nat := ancF segs n n
theorem par_lt {segs : List SegD} (h : ParOk segs) {n : Nat} (h0 : n ≠ 0) (h1 : n ≤ segs.length) : parN segs n < n := by
  have hs : segs[n - 1]? = some (segs[n - 1]'(by omega)) := List.getElem?_eq_getElem (by omega)
  have := h (n - 1) _ hs
  unfold parN
  rw [List.getD_eq_getElem?_getD, List.getElem?_map, hs]
  show (segs[n - 1]'(by omega)).above.toNat < n
  omega
theorem par_at {segs : List SegD} (h : ParOk segs) {n : Nat} (h0 : n ≠ 0) (h1 : n ≤ segs.length) : (parL segs)[n]? = some ((parN segs n : Nat) : Int) := by
  have hs : segs[n - 1]? = some (segs[n - 1]'(by omega)) := List.getElem?_eq_getElem (by omega)
  have := h (n - 1) _ hs
  obtain ⟨m, rfl⟩ : ∃ m, n = m + 1 := ⟨n - 1, by omega⟩
  have hs' : segs[m]? = some (segs[m]'(by omega)) := List.getElem?_eq_getElem (by omega)
  have h2 := h m _ hs'
  have e : (segs.map fun s : SegD => s.above)[m]? = some (segs[m]'(by omega)).above := by rw [List.getElem?_map, hs']; rfl
  unfold parL parN
  show (segs.map fun s : SegD => s.above)[m]? = some ((((segs.map fun s : SegD => s.above).getD m 0).toNat : Nat) : Int)
  rw [List.getD_eq_getElem?_getD, e]
  show some _ = some ((((segs[m]'(by omega)).above).toNat : Nat) : Int)
  rw [Int.toNat_of_nonneg h2.1]
theorem ancF_enough {segs : List SegD} (h : ParOk segs) : ∀ (n f : Nat), n ≤ segs.length → n ≤ f → ancF segs f n = anc segs n := by
  intro n
  induction n using Nat.strongRecOn with
  | _ n ih =>
    intro f hn hf
    unfold anc
    by_cases h0 : n = 0
    · subst h0
      cases f with
      | zero => rfl
      | succ f => rfl
    · have hp := par_lt h h0 hn
      obtain ⟨m, rfl⟩ : ∃ m, n = m + 1 := ⟨n - 1, by omega⟩
      obtain ⟨g, rfl⟩ : ∃ g, f = g + 1 := ⟨f - 1, by omega⟩
      show (if m + 1 = 0 then [0] else (m + 1) :: ancF segs g (parN segs (m + 1))) = (if m + 1 = 0 then [0] else (m + 1) :: ancF segs m (parN segs (m + 1)))
      rw [if_neg h0, if_neg h0, ih _ hp g (by omega) (by omega), ih _ hp m (by omega) (by omega)]
theorem anc_zero (segs : List SegD) : anc segs 0 = [0] := rfl
theorem anc_step {segs : List SegD} (h : ParOk segs) {n : Nat} (h0 : n ≠ 0) (hn : n ≤ segs.length) : anc segs n = n :: anc segs (parN segs n) := by
  have hp := par_lt h h0 hn
  obtain ⟨m, rfl⟩ : ∃ m, n = m + 1 := ⟨n - 1, by omega⟩
  show (if m + 1 = 0 then [0] else (m + 1) :: ancF segs m (parN segs (m + 1))) = _
  rw [if_neg h0, ancF_enough h _ m (by omega) (by omega)]
theorem anc_le {segs : List SegD} (h : ParOk segs) : ∀ n, n ≤ segs.length → ∀ k ∈ anc segs n, k ≤ n := by
  intro n
  induction n using Nat.strongRecOn with
  | _ n ih =>
    intro hn k hk
    by_cases h0 : n = 0
    · subst h0
      rw [anc_zero] at hk
      rw [List.mem_singleton.mp hk]; exact Nat.le_refl _
    · rw [anc_step h h0 hn] at hk
      have hp := par_lt h h0 hn
      rcases List.mem_cons.mp hk with z | z
      · omega
      · have := ih _ hp (by omega) k z; omega
theorem anc_self {segs : List SegD} (h : ParOk segs) {n : Nat} (hn : n ≤ segs.length) : n ∈ anc segs n := by
  by_cases h0 : n = 0
  · subst h0; rw [anc_zero]; exact List.mem_singleton.mpr rfl
  · rw [anc_step h h0 hn]; exact List.mem_cons_self ..
theorem anc_len {segs : List SegD} (h : ParOk segs) : ∀ n, n ≤ segs.length → (anc segs n).length ≤ n + 1 := by
  intro n
  induction n using Nat.strongRecOn with
  | _ n ih =>
    intro hn
    by_cases h0 : n = 0
    · subst h0; exact Nat.le_refl _
    · have hp := par_lt h h0 hn
      rw [anc_step h h0 hn, List.length_cons]
      have := ih _ hp (by omega); omega
def natsV (l : List Nat) : List V := l.map fun n : Nat => V.int (n : Int)
section
variable {P : Program} {w : World} {K : PySem.W.Frag} {mg : Str → Option Value} {base : Heap}
def spCheck (C B : Addr) : Sp := fun vs H Q E => ∃ (x p r c : Addr) (segs : List SegD) (n : Int), vs = [.ref x, .int n] ∧ TreeAt C H x p r c segs ∧ ((0 ≤ n ∧ n ≤ segs.length) → Q .non H) ∧ (¬ (0 ≤ n ∧ n ≤ segs.length) → ∀ H', Ex H H' → E (.ref B) none H')
theorem sc_WireTree_check_node : FnScope ["self", "node"] ["self", "node"] (defScope s_WireTree_check_node) := ⟨rfl, rfl, rfl, by decide +kernel, rfl, by decide +kernel, by decide +kernel⟩
theorem ok_WireTree_check_node {C B : Addr} {f : Addr} {fd : FuncData} (F : Fun K "_check_node" "WireTree._check_node" s_WireTree_check_node f fd) (W : Cl_WireTree K mg C) (T : TxtT mg) (UB : ExcT K mg "BadArgument" B) : FnOk P w K mg base (L2.CX P w) 1 f fd ["self", "node"] (spCheck C B) := by
  refine F.okX sc_WireTree_check_node (fun vs H Q E h => ?_) (fun cdv A outer s H vs Q E hr h => ?_)
  · obtain ⟨x, p, r, c, segs, n, rfl, _⟩ := h
    rfl
  · obtain ⟨x, p, r, c, segs, n, rfl, ⟨⟨dx, h1⟩, h2, _, _⟩, q1, q2⟩ := h
    refine ⟨_, (pss_one (ps_if (PW.pt (pw_or (pt_cmpR op_lt (pv 1) pe_int (nomark _)) (pw_or1 (pt_cmpR op_ge (pv 1) (pe_callB call_len_seq (by rfl) T.len (by decide +kernel) (pa_cons (pe_fld (pv 0) rfl) pa_nil)) (nomark _)))))
      (pss_one (ps_raise rfl (takes_of rfl rfl rfl rfl) (pmk_ownA PySem.F.excBase_ValueError UB.xP UB.gC UB.kC (raises_own UB.bC UB.tC) rfl (pa_cons pe_str pa_nil))))
      pss_nil)), ?_⟩
    have hlen : ((parL segs).map V.int).length = segs.length + 1 := by rw [List.length_map]; unfold parL; rw [List.length_cons, List.length_map]
    refine ⟨_, rfl, _, _, rfl, rfl, _, rfl, ite2 (fun c1 => ?_) (fun c1 => ⟨_, rfl, _, rfl, x, C, dx, _, _, rfl, h1, W.cl, W.n_parents, tfl_p _ _ _, _, _, rfl, .inl (SqL.of h2), _, _, rfl, rfl, _, rfl, ?_⟩)⟩
    · exact iteT ⟨(by show 1 ≤ sizeLine; decide), q2 (fun z => by have := of_decide_eq_true c1; omega) H (Ex.refl _)⟩
    · rw [hlen]
      refine ite2 (fun c2 => ?_) (fun c2 => ?_)
      · exact ⟨(by show 1 ≤ sizeLine; decide), q2 (fun z => by have := of_decide_eq_true c2; omega) H (Ex.refl _)⟩
      · have k1 : ¬ n < 0 := fun z => c1 (decide_eq_true z)
        have k2 : ¬ n ≥ ((segs.length + 1 : Nat) : Int) := fun z => c2 (decide_eq_true z)
        exact q1 (by omega)
def spTLen (C : Addr) : Sp := fun vs H Q _ => ∃ (x p r c : Addr) (segs : List SegD), vs = [.ref x] ∧ TreeAt C H x p r c segs ∧ Q (.int ((segs.length + 1 : Nat) : Int)) H
theorem sc_WireTree_len : FnScope ["self"] ["self"] (defScope s_WireTree_len) := ⟨rfl, rfl, rfl, by decide +kernel, rfl, by decide +kernel, by decide +kernel⟩
theorem ok_WireTree_len {C : Addr} {f : Addr} {fd : FuncData} (F : Fun K "__len__" "WireTree.__len__" s_WireTree_len f fd) (W : Cl_WireTree K mg C) (T : TxtT mg) : FnOk P w K mg base CX0 1 f fd ["self"] (spTLen C) := by
  refine F.ok sc_WireTree_len (fun vs H Q E h => ?_) (fun cdv A outer s H vs Q E hr h => ?_)
  · obtain ⟨x, p, r, c, segs, rfl, _⟩ := h
    rfl
  · obtain ⟨x, p, r, c, segs, rfl, ⟨⟨dx, h1⟩, h2, _, _⟩, q⟩ := h
    refine ⟨_, (pss_one (ps_ret (pe_callB call_len_seq (by rfl) T.len (by decide +kernel) (pa_cons (pe_fld (pv 0) rfl) pa_nil)))), ?_⟩
    have hlen : ((parL segs).map V.int).length = segs.length + 1 := by rw [List.length_map]; unfold parL; rw [List.length_cons, List.length_map]
    refine ⟨_, rfl, x, C, dx, _, _, rfl, h1, W.cl, W.n_parents, tfl_p _ _ _, _, _, rfl, .inl (SqL.of h2), ?_⟩
    rw [hlen]; exact q
def spParent (C B : Addr) : Sp := fun vs H Q E => ∃ (x p r c : Addr) (segs : List SegD) (n : Int), vs = [.ref x, .int n] ∧ TreeAt C H x p r c segs ∧ (∀ (m : Nat) (z : Int), n = (m : Int) → (parL segs)[m]? = some z → Q (.int z) H) ∧ (¬ (0 ≤ n ∧ n ≤ segs.length) → ∀ H', Ex H H' → E (.ref B) none H')
theorem sc_WireTree_parent : FnScope ["self", "node"] ["self", "node"] (defScope s_WireTree_parent) := ⟨rfl, rfl, rfl, by decide +kernel, rfl, by decide +kernel, by decide +kernel⟩
theorem ok_WireTree_parent {C B f0 : Addr} {d0 : FuncData} {f : Addr} {fd : FuncData} (F : Fun K "parent" "WireTree.parent" s_WireTree_parent f fd) (W : Cl_WireTree K mg C)
    (M_WireTree_check_node : Meth K C "_check_node" f0) (G_WireTree_check_node : FnOk P w K mg base (L2.CX P w) 1 f0 d0 ["self", "node"] (spCheck C B)) (b_WireTree_check_node : Binds K d0 ["self", "node"] []) : FnOk P w K mg base (L2.CX P w) 2 f fd ["self", "node"] (spParent C B) := by
  have c_WireTree := W.cl
  refine F.okX sc_WireTree_parent (fun vs H Q E h => ?_) (fun cdv A outer s H vs Q E hr h => ?_)
  · obtain ⟨x, p, r, c, segs, n, rfl, _⟩ := h
    rfl
  · obtain ⟨x, p, r, c, segs, n, rfl, hT, q1, q2⟩ := h
    obtain ⟨⟨dx, h1⟩, h2, _, _⟩ := id hT
    refine ⟨_, (pss_cons (ps_expr (pe_meth (pv 0) c_WireTree M_WireTree_check_node G_WireTree_check_node (hr.mono (by omega)) b_WireTree_check_node .nil (passes_call (takes_of rfl rfl rfl rfl) fun _ _ _ _ h => h) (pa_cons (pv 1) pa_nil)))
    (pss_one (ps_ret (pe_ix ix_list (pe_fld (pv 0) rfl) (pv 1) (fun _ _ => rfl))))), ?_⟩
    refine ⟨_, rfl, x, dx, _, rfl, h1, tfl_no _ _ _ (by decide +kernel) (by decide +kernel) (by decide +kernel), _, rfl, x, p, r, c, segs, n, rfl, hT, fun hn => ?_, q2⟩
    have hm : n.toNat < (parL segs).length := by unfold parL; rw [List.length_cons, List.length_map]; omega
    exact ⟨_, rfl, x, C, dx, _, _, rfl, h1, W.cl, W.n_parents, tfl_p _ _ _, _, rfl, _, _, _, _, rfl, rfl, SqL.of h2, at_of (j := n.toNat) (by omega) (by rw [List.getElem?_map, List.getElem?_eq_getElem hm]; rfl), q1 n.toNat _ (by omega) (List.getElem?_eq_getElem hm)⟩
def spPath (C B : Addr) : Sp := fun vs H Q E => ∃ (x p r c : Addr) (segs : List SegD) (n : Int), vs = [.ref x, .int n] ∧ TreeAt C H x p r c segs ∧ ParOk segs ∧ segs.length ≤ 100 ∧ (∀ (m : Nat), n = (m : Int) → m ≤ segs.length → ∀ (l : Addr) (H' : Hp), Ex H H' → H l = none → H' l = some (.lst (natsV (anc segs m).reverse)) → Q (.ref l) H') ∧ (¬ (0 ≤ n ∧ n ≤ segs.length) → ∀ H', Ex H H' → E (.ref B) none H')
theorem sc_WireTree_path : FnScope ["self", "node", "found"] ["self", "node"] (defScope s_WireTree_path) := ⟨rfl, rfl, rfl, by decide +kernel, rfl, by decide +kernel, by decide +kernel⟩
theorem ok_WireTree_path {C B f0 : Addr} {d0 : FuncData} {f : Addr} {fd : FuncData} (F : Fun K "path" "WireTree.path" s_WireTree_path f fd) (W : Cl_WireTree K mg C)
    (M_WireTree_check_node : Meth K C "_check_node" f0) (G_WireTree_check_node : FnOk P w K mg base (L2.CX P w) 1 f0 d0 ["self", "node"] (spCheck C B)) (b_WireTree_check_node : Binds K d0 ["self", "node"] []) : FnOk P w K mg base (L2.CX P w) 2 f fd ["self", "node"] (spPath C B) := by
  have c_WireTree := W.cl
  refine F.okX sc_WireTree_path (fun vs H Q E h => ?_) (fun cdv A outer s H vs Q E hr h => ?_)
  · obtain ⟨x, p, r, c, segs, n, rfl, _⟩ := h
    rfl
  · obtain ⟨x, p, r, c, segs, n, rfl, hT, hPar, hsl, q1, q2⟩ := h
    obtain ⟨⟨dx, h1⟩, h2, _, _⟩ := id hT
    refine ⟨_, (pss_cons (ps_expr (pe_meth (pv 0) c_WireTree M_WireTree_check_node G_WireTree_check_node (hr.mono (by omega)) b_WireTree_check_node .nil (passes_call (takes_of rfl rfl rfl rfl) fun _ _ _ _ h => h) (pa_cons (pv 1) pa_nil)))
    (pss_cons (ps_set (i := 2) sc_WireTree_path.nd rfl (.inl rfl) (pe_lst pa_nil))
    (pss_cons (ps_while (passes_of rfl) (pt_cmpR op_ge (pv 1) pe_int (nomark _))
      (pss_cons (ps_expr (pe_bm PySem.F.plainAttrs_list PySem.F.slot_list_append PySem.F.type_list_append mt_append (pv 2) (pa_cons (pv 1) pa_nil)))
      (pss_one (ps_set (i := 1) sc_WireTree_path.nd rfl (.inl rfl) (pe_ix ix_list (pe_fld (pv 0) rfl) (pv 1) (fun _ _ => rfl))))))
    (pss_one (ps_ret (pe_revL (pv 2))))))), ?_⟩
    refine ⟨_, rfl, x, dx, _, rfl, h1, tfl_no _ _ _ (by decide +kernel) (by decide +kernel) (by decide +kernel), _, rfl, x, p, r, c, segs, n, rfl, hT, fun hn => ?_, q2⟩
    obtain ⟨m0, rfl⟩ : ∃ m0 : Nat, n = (m0 : Int) := ⟨n.toNat, by omega⟩
    have hm0 : m0 ≤ segs.length := by omega
    refine ⟨Nat.zero_le _, fun l nl => ?_⟩
    have E1 : Ex H (upd H l (.lst [])) := Ex.new nl
    refine ⟨fun μ σ H' => Ex H H' ∧ ∃ (pre : List Nat) (z : Int), H' l = some (.lst (natsV pre)) ∧ pre.length ≤ 200 ∧ σ = [some (.ref x), some (.int z), some (.ref l)] ∧ ((z = -1 ∧ pre = anc segs m0 ∧ μ = 0) ∨ ∃ m : Nat, z = (m : Int) ∧ m ≤ segs.length ∧ pre ++ anc segs m = anc segs m0 ∧ μ = m + 1),
      ⟨_, E1, [], (m0 : Int), upd_same, Nat.zero_le _, rfl, .inr ⟨m0, rfl, hm0, rfl, rfl⟩⟩, ?_⟩
    rintro μ σ H1 ⟨E1, pre, z, hl, hpl, rfl, hz⟩
    refine ⟨_, rfl, _, _, rfl, rfl, _, rfl, ite2 (fun c1 => ?_) (fun c1 => ?_)⟩
    · obtain ⟨m, rfl, hm, hpre, rfl⟩ : ∃ m : Nat, z = (m : Int) ∧ m ≤ segs.length ∧ pre ++ anc segs m = anc segs m0 ∧ μ = m + 1 := by
        rcases hz with ⟨z1, _⟩ | z1
        · have := of_decide_eq_true c1; omega
        · exact z1
      have hpl2 : pre.length ≤ 100 := by
        have h3 := congrArg List.length hpre
        have h4 := anc_len hPar m0 hm0
        have h5 : 0 < (anc segs m).length := List.length_pos_of_mem (anc_self hPar hm)
        rw [List.length_append] at h3
        omega
      refine ⟨fun σ' H' => Ex H H' ∧ ∃ (pre' : List Nat) (z' : Int), H' l = some (.lst (natsV pre')) ∧ pre'.length ≤ 200 ∧ σ' = [some (.ref x), some (.int z'), some (.ref l)] ∧ ((z' = -1 ∧ pre' = anc segs m0) ∨ ∃ m' : Nat, m' < m ∧ z' = (m' : Int) ∧ m' ≤ segs.length ∧ pre' ++ anc segs m' = anc segs m0), ?_, ?_⟩
      · rintro σ' H' ⟨E', pre', z', a1, a2, rfl, a3⟩
        rcases a3 with ⟨b1, b2⟩ | ⟨m', b1, b2, b3, b4⟩
        · exact ⟨0, by omega, E', pre', z', a1, a2, rfl, .inl ⟨b1, b2, rfl⟩⟩
        · exact ⟨m' + 1, by omega, E', pre', z', a1, a2, rfl, .inr ⟨m', b2, b3, b4, rfl⟩⟩
      · refine ⟨_, rfl, .inl ⟨rfl, _, SqL.of hl⟩, _, rfl, l, _, .int (m : Int), rfl, rfl, hl, sz_lt (by unfold natsV; rw [List.length_map]; omega), ?_⟩
        have E2 : Ex H (upd H1 l (.lst (natsV pre ++ [.int (m : Int)]))) := E1.mut nl
        have hl2 : upd H1 l (.lst (natsV pre ++ [.int (m : Int)])) l = some (.lst (natsV (pre ++ [m]))) := by rw [upd_same]; unfold natsV; rw [List.map_append]; rfl
        generalize upd H1 l (.lst (natsV pre ++ [.int (m : Int)])) = H2 at *
        have hl20 : (pre ++ [m]).length ≤ 200 := by rw [List.length_append]; show _ + 1 ≤ _; omega
        by_cases h0 : m = 0
        · subst h0
          refine ⟨_, rfl, x, C, dx, _, _, rfl, E2 _ _ h1, W.cl, W.n_parents, tfl_p _ _ _, _, rfl, _, _, _, _, rfl, rfl, SqL.of (E2 _ _ h2), atI_nat (j := 0) rfl, E2, pre ++ [0], -1, hl2, hl20, rfl, .inl ⟨rfl, ?_⟩⟩
          rw [← hpre, anc_zero]
        · have hg := par_at hPar h0 hm
          have hlt := par_lt hPar h0 hm
          refine ⟨_, rfl, x, C, dx, _, _, rfl, E2 _ _ h1, W.cl, W.n_parents, tfl_p _ _ _, _, rfl, _, _, _, _, rfl, rfl, SqL.of (E2 _ _ h2), atI_nat (j := m) (by rw [List.getElem?_map, hg]; rfl), E2, pre ++ [m], _, hl2, hl20, rfl, .inr ⟨parN segs m, hlt, rfl, by omega, ?_⟩⟩
          rw [← hpre, anc_step hPar h0 hm, List.append_assoc]; rfl
    · have hfin : pre = anc segs m0 := by
        rcases hz with ⟨_, z1, _⟩ | ⟨m, rfl, _⟩
        · exact z1
        · exact absurd (decide_eq_true (by omega : (m : Int) ≥ 0)) c1
      subst hfin
      refine ⟨_, rfl, l, _, rfl, SqL.of hl, fun q nq => q1 m0 rfl hm0 q _ (E1.trans (Ex.new nq)) (fresh_back E1 nq) ?_⟩
      rw [upd_same]; unfold natsV; rw [List.map_reverse]
def isIn (segs : List SegD) (n k : Nat) : Bool := decide (n ∈ anc segs k)
/-- the nodes at and below n -/
def belowL (segs : List SegD) (n : Nat) : List Nat := (List.range (segs.length + 1)).filter (isIn segs n)
def spBelow (C B : Addr) : Sp := fun vs H Q E => ∃ (x p r c : Addr) (segs : List SegD) (n : Int), vs = [.ref x, .int n] ∧ TreeAt C H x p r c segs ∧ ParOk segs ∧ segs.length ≤ 100 ∧ (∀ (m : Nat), n = (m : Int) → m ≤ segs.length → ∀ (l : Addr) (H' : Hp), Ex H H' → H l = none → H' l = some (.lst (natsV (belowL segs m))) → Q (.ref l) H') ∧ (¬ (0 ≤ n ∧ n ≤ segs.length) → ∀ H', Ex H H' → E (.ref B) none H')
theorem rep_false : ∀ n : Nat, (List.replicate n [V.bl false]).flatten = (List.replicate n false).map V.bl
  | 0 => rfl
  | n + 1 => by rw [List.replicate_succ, List.flatten_cons, rep_false n]; rfl
theorem sc_WireTree_below : FnScope ["self", "node", "inside", "k", "is_inside"] ["self", "node"] (defScope s_WireTree_below) := ⟨rfl, rfl, rfl, by decide +kernel, rfl, by decide +kernel, by decide +kernel⟩
theorem ok_WireTree_below {C B f0 : Addr} {d0 : FuncData} {f : Addr} {fd : FuncData} (F : Fun K "below" "WireTree.below" s_WireTree_below f fd) (W : Cl_WireTree K mg C) (T : TxtT mg)
    (M_WireTree_check_node : Meth K C "_check_node" f0) (G_WireTree_check_node : FnOk P w K mg base (L2.CX P w) 1 f0 d0 ["self", "node"] (spCheck C B)) (b_WireTree_check_node : Binds K d0 ["self", "node"] []) : FnOk P w K mg base (L2.CX P w) 2 f fd ["self", "node"] (spBelow C B) := by
  have c_WireTree := W.cl
  refine F.okX sc_WireTree_below (fun vs H Q E h => ?_) (fun cdv A outer s H vs Q E hr h => ?_)
  · obtain ⟨x, p, r, c, segs, n, rfl, _⟩ := h
    rfl
  · obtain ⟨x, p, r, c, segs, n, rfl, hT, hPar, hsl, q1, q2⟩ := h
    obtain ⟨⟨dx, h1⟩, h2, _, _⟩ := id hT
    refine ⟨_, (pss_cons (ps_expr (pe_meth (pv 0) c_WireTree M_WireTree_check_node G_WireTree_check_node (hr.mono (by omega)) b_WireTree_check_node .nil (passes_call (takes_of rfl rfl rfl rfl) fun _ _ _ _ h => h) (pa_cons (pv 1) pa_nil)))
    (pss_cons (ps_set (i := 2) sc_WireTree_below.nd rfl (.inl rfl) (pe_op op_rep (pe_lst (pa_cons pe_bl pa_nil)) (pe_callB call_len_seq (by rfl) T.len (by decide +kernel) (pa_cons (pe_fld (pv 0) rfl) pa_nil))))
    (pss_cons (ps_asg pe_bl (pg_sub (pv 2) (pv 1) set_list))
    (pss_cons (ps_for (passes_of rfl) rfl (pi_range2 rfl T.range (pa_cons (pe_op op_add (pv 1) pe_int) (pa_cons (pe_callB call_len_seq (by rfl) T.len (by decide +kernel) (pa_cons (pv 2) pa_nil)) pa_nil))) (pg_name (i := 3) sc_WireTree_below.nd rfl (.inl rfl))
      (pss_one (ps_asg (pe_ix ix_list (pv 2) (pe_ix ix_list (pe_fld (pv 0) rfl) (pv 3) (fun _ _ => rfl)) (fun _ _ => rfl)) (pg_sub (pv 2) (pv 3) set_list))))
    (pss_one (ps_ret (pe_lc (own := [("k", 3), ("is_inside", 4)]) (g := gTup K 2 (gCons (gName 3) (gCons (gName 4) gNil))) (tt := _) rfl sc_WireTree_below.nd (pi_enum (by rfl) T.enumerate (pa_cons (pv 2) pa_nil)) (blkOk_by (N := ["self", "node", "inside", "k", "is_inside"]) (sc := defScope s_WireTree_below) (own := [("k", 3), ("is_inside", 4)]) (by decide +kernel)) (fun _ _ _ _ _ => (pg_tup rfl (pgs_cons (pg_name (i := 3) sc_WireTree_below.nd rfl (.inl rfl)) (pgs_cons (pg_name (i := 4) sc_WireTree_below.nd rfl (.inl rfl)) pgs_nil)))) (fun _ _ _ _ _ => pts_one (pt_val (pv 4))) (fun _ _ _ _ _ => (pv 3))))))))), ?_⟩
    have hlen : ((parL segs).map V.int).length = segs.length + 1 := by rw [List.length_map]; unfold parL; rw [List.length_cons, List.length_map]
    refine ⟨_, rfl, x, dx, _, rfl, h1, tfl_no _ _ _ (by decide +kernel) (by decide +kernel) (by decide +kernel), _, rfl, x, p, r, c, segs, n, rfl, hT, fun hn => ?_, q2⟩
    obtain ⟨m0, rfl⟩ : ∃ m0 : Nat, n = (m0 : Int) := ⟨n.toNat, by omega⟩
    have hm0 : m0 ≤ segs.length := by omega
    refine ⟨(by show 1 ≤ sizeLine; decide), fun m1 nm1 => ?_⟩
    have E1 : Ex H (upd H m1 (.lst [.bl false])) := Ex.new nm1
    have g1 : upd H m1 (.lst [.bl false]) m1 = some (.lst [.bl false]) := upd_same
    generalize upd H m1 (.lst [.bl false]) = H1 at *
    refine ⟨_, rfl, x, C, dx, _, _, rfl, E1 _ _ h1, W.cl, W.n_parents, tfl_p _ _ _, _, _, rfl, .inl (SqL.of (E1 _ _ h2)), ?_⟩
    rw [hlen]
    refine ⟨m1, _, _, rfl, rfl, g1, by omega, by omega, sz_of (by show 1 * _ ≤ _; omega), fun il nil_ => ?_⟩
    rw [Int.toNat_natCast, rep_false]
    have nil0 : H il = none := fresh_back E1 nil_
    -- the node itself
    refine ⟨_, rfl, _, rfl, il, _, _, m0, rfl, rfl, upd_same, ixN_nat (by rw [List.length_map, List.length_replicate]; omega), ?_⟩
    rw [upd_upd, ← List.map_set]
    have E2 : Ex H1 (upd H1 il (.lst (((List.replicate (segs.length + 1) false).set m0 true).map V.bl))) := Ex.new nil_
    have g2 : upd H1 il (.lst (((List.replicate (segs.length + 1) false).set m0 true).map V.bl)) il = some (.lst (((List.replicate (segs.length + 1) false).set m0 true).map V.bl)) := upd_same
    generalize upd H1 il (.lst (((List.replicate (segs.length + 1) false).set m0 true).map V.bl)) = H2 at *
    have e02 := E1.trans E2
    refine ⟨_, rfl, _, _, rfl, rfl, _, rfl, _, _, rfl, .inl (SqL.of g2), (m0 : Int) + 1, ((segs.length + 1 : Nat) : Int), by rw [List.length_map, List.length_set, List.length_replicate], by omega, for_range (n := (((segs.length + 1 : Nat) : Int) - ((m0 : Int) + 1)).toNat)
      (fun i σ H' => Ex H H' ∧ ∃ (bs : List Bool) (z : Option V), H' il = some (.lst (bs.map V.bl)) ∧ bs.length = segs.length + 1 ∧ (∀ k b, bs[k]? = some b → b = (decide (k < m0 + 1 + i) && isIn segs m0 k)) ∧ σ = [some (.ref x), some (.int (m0 : Int)), some (.ref il), z, none])
      ⟨e02, _, _, g2, by rw [List.length_set, List.length_replicate], fun k b hb => ?_, rfl⟩ ?_ ?_⟩
    · by_cases hk : k = m0
      · subst hk
        rw [List.getElem?_set_self (by rw [List.length_replicate]; omega)] at hb
        cases hb
        rw [decide_eq_true (by omega), show isIn segs k k = true from decide_eq_true (anc_self hPar hm0)]; rfl
      · rw [List.getElem?_set_ne (fun z => hk z.symm)] at hb
        have hb2 : b = false := List.eq_of_mem_replicate (List.mem_of_getElem? hb)
        subst hb2
        by_cases hlt : k < m0 + 1 + 0
        · rw [decide_eq_true hlt, show isIn segs m0 k = false from decide_eq_false fun z => by have := anc_le hPar k (by omega) m0 z; omega]; rfl
        · rw [decide_eq_false hlt]; rfl
    · rintro i σ H3 hi ⟨E3, bs, z, hbs, hbl, hbk, rfl⟩
      obtain ⟨k, hk⟩ : ∃ k : Nat, k = m0 + 1 + i := ⟨_, rfl⟩
      have hkl : k ≤ segs.length := by omega
      have ek : (m0 : Int) + 1 + (i : Int) = (k : Int) := by omega
      have hg := par_at hPar (by omega : k ≠ 0) hkl
      have hlt := par_lt hPar (by omega : k ≠ 0) hkl
      have hpb : bs[parN segs k]? = some (bs[parN segs k]'(by omega)) := List.getElem?_eq_getElem (by omega)
      have hval : bs[parN segs k]'(by omega) = isIn segs m0 k := by
        rw [hbk _ _ hpb, decide_eq_true (by omega), Bool.true_and]
        unfold isIn
        rw [anc_step hPar (by omega : k ≠ 0) hkl, decide_eq_decide, List.mem_cons]
        exact ⟨fun h => .inr h, fun h => h.resolve_left (by omega)⟩
      refine ⟨_, rfl, _, rfl, x, C, dx, _, _, rfl, E3 _ _ h1, W.cl, W.n_parents, tfl_p _ _ _, _, rfl, _, _, _, _, rfl, rfl, SqL.of (E3 _ _ h2), at_of (j := k) ek (by rw [List.getElem?_map, hg]; rfl), _, _, _, _, rfl, rfl, SqL.of hbs, atI_nat (j := parN segs k) (by rw [List.getElem?_map, hpb]; rfl), _, rfl, _, rfl, il, _, _, k, rfl, rfl, hbs, by rw [ek, List.length_map]; exact ixN_nat (by omega), E3.mut nil0, bs.set k (bs[parN segs k]'(by omega)), _, by rw [upd_same, List.map_set], by rw [List.length_set]; exact hbl, fun j b hb => ?_, rfl⟩
      by_cases hj : j = k
      · subst hj
        rw [List.getElem?_set_self (by omega)] at hb
        cases hb
        rw [hval, decide_eq_true (by omega)]; rfl
      · rw [List.getElem?_set_ne (fun z => hj z.symm)] at hb
        rw [hbk j b hb]
        by_cases h3 : j < m0 + 1 + i
        · rw [decide_eq_true h3, decide_eq_true (by omega)]
        · rw [decide_eq_false h3, decide_eq_false (by omega)]
    · rintro σ H3 ⟨E3, bs, z, hbs, hbl, hbk, rfl⟩
      have hbk2 : ∀ k (h : k < bs.length), bs[k] = isIn segs m0 k := fun k h => by
        rw [hbk k _ (List.getElem?_eq_getElem h), decide_eq_true (by omega), Bool.true_and]
      refine ⟨_, rfl, il, _, rfl, SqL.of hbs, fun L nL => wk_it walk_enum (fun j H' => Ex H3 H' ∧ H' L = some (.lst (natsV ((List.range j).filter (isIn segs m0))))) ⟨Ex.new nL, upd_same⟩ (fun j H' _ g => SqL.of (g.1 _ _ hbs)) ?_ ?_⟩
      · rintro j y H4 H5 hj ⟨E4, hL⟩ ⟨T1, x0, y0, rfl, nT, rfl, hx0, hy0⟩
        rw [List.length_map] at hj
        cases hx0
        have hyb : y0 = .bl bs[j] := by
          have h : (bs.map V.bl)[j]? = some y0 := hy0
          rw [List.getElem?_map, List.getElem?_eq_getElem hj] at h
          exact (Option.some.inj h).symm
        subst hyb
        have E5 : Ex H4 (upd H4 T1 (.tup [.int (j : Nat), .bl bs[j]])) := Ex.new nT
        refine ⟨T1, _, rfl, SqT.of upd_same, rfl, _, _, rfl, _, _, rfl, rfl, rfl, ?_⟩
        generalize upd H4 T1 (.tup [.int (j : Nat), .bl bs[j]]) = H5 at *
        simp only [wipe, _root_.L2.start, List.map_cons, List.map_nil, List.length_cons, List.length_nil, Nat.reduceAdd, Nat.reduceSub, List.replicate_succ, List.replicate_zero, List.cons_append, List.nil_append, List.set_cons_zero, List.set_cons_succ]
        refine ⟨_, rfl, _, rfl, ?_⟩
        have hL5 := E5 _ _ hL
        have hfl : ((List.range j).filter (isIn segs m0)).length ≤ 200 := by
          have := List.length_filter_le (isIn segs m0) (List.range j)
          rw [List.length_range] at this; omega
        rw [hbk2 j hj]
        cases hin : isIn segs m0 j with
        | true =>
          refine iteT ⟨_, rfl, _, hL5, sz_lt (by unfold natsV; rw [List.length_map]; omega), (E4.trans E5).mut nL, ?_⟩
          rw [upd_same, List.range_succ, List.filter_append, List.filter_cons, if_pos hin]
          unfold natsV
          rw [List.map_append]; rfl
        | false =>
          refine iteF ⟨E4.trans E5, ?_⟩
          rw [hL5, List.range_succ, List.filter_append, List.filter_cons, if_neg (by rw [hin]; decide), List.filter_nil, List.append_nil]
      · rintro H4 ⟨E4, hL⟩
        rw [List.length_map, hbl] at hL
        exact q1 m0 rfl hm0 L H4 (E3.trans E4) (fresh_back E3 nL) hL
def spRangeBad (C B : Addr) : Sp := fun vs H _ E => ∃ (x p r c : Addr) (segs : List SegD) (n u : Int), vs = [.ref x, .int n, .int u] ∧ TreeAt C H x p r c segs ∧ ¬ (0 ≤ n ∧ n ≤ segs.length) ∧ ∀ H', Ex H H' → E (.ref B) none H'
theorem sc_WireTree_delay_range : FnScope ["self", "node", "unit", "low", "high", "end", "pair"] ["self", "node", "unit"] (defScope s_WireTree_delay_range) := ⟨rfl, rfl, rfl, by decide +kernel, rfl, by decide +kernel, by decide +kernel⟩
theorem bad_WireTree_delay_range {C B f0 : Addr} {d0 : FuncData} {f : Addr} {fd : FuncData} (F : Fun K "delay_range" "WireTree.delay_range" s_WireTree_delay_range f fd) (W : Cl_WireTree K mg C)
    (M_WireTree_check_node : Meth K C "_check_node" f0) (G_WireTree_check_node : FnOk P w K mg base (L2.CX P w) 1 f0 d0 ["self", "node"] (spCheck C B)) (b_WireTree_check_node : Binds K d0 ["self", "node"] []) : FnOk P w K mg base (L2.CX P w) 2 f fd ["self", "node", "unit"] (spRangeBad C B) := by
  have c_WireTree := W.cl
  refine F.okX sc_WireTree_delay_range (fun vs H Q E h => ?_) (fun cdv A outer s H vs Q E hr h => ?_)
  · obtain ⟨x, p, r, c, segs, n, u, rfl, _⟩ := h
    rfl
  · obtain ⟨x, p, r, c, segs, n, u, rfl, hT, hn, q2⟩ := h
    obtain ⟨⟨dx, h1⟩, h2, _, _⟩ := id hT
    refine ⟨_, (pss_cons (ps_expr (pe_meth (pv 0) c_WireTree M_WireTree_check_node G_WireTree_check_node (hr.mono (by omega)) b_WireTree_check_node .nil (passes_call (takes_of rfl rfl rfl rfl) fun _ _ _ _ h => h) (pa_cons (pv 1) pa_nil))) pss_false), ?_⟩
    exact ⟨_, rfl, x, dx, _, rfl, h1, tfl_no _ _ _ (by decide +kernel) (by decide +kernel) (by decide +kernel), _, rfl, x, p, r, c, segs, n, rfl, hT, fun z => absurd z hn, fun _ => q2⟩
end
end G
namespace G
open PySem PySem.Spec PyProof.Rows L2 Evl TL
section
variable {P : Program} {w : World} {K : PySem.W.Frag} {mg : Str → Option Value} {base : Heap}
theorem SegAt.te {H H' : Hp} {a : Addr} {s : SegD} (e : ∀ q xs, H q = some (.tup xs) → H' q = some (.tup xs)) (h : SegAt H a s) : SegAt H' a s := by
  obtain ⟨ra, ca, h1, h2, h3⟩ := h
  exact ⟨ra, ca, e _ _ h1, e _ _ h2, e _ _ h3⟩
theorem px_tup {p a : Addr} {H H' : Hp} (x : Px p a H H') : ∀ q xs, H q = some (.tup xs) → H' q = some (.tup xs) := fun q xs h => by
  obtain ⟨_, _, _, _, _, e, _⟩ := x.was
  exact x.at_ (b := q) (o := .tup xs) (by rw [hid_ne (ne_of h e (by intro z; cases z))]; exact h)
theorem mut_tup {H : Hp} {l : Addr} {xs : List V} {o : HO} (h : H l = some (.lst xs)) : ∀ q ys, H q = some (.tup ys) → upd H l o q = some (.tup ys) := fun q ys hq => by
  rw [upd_ne (ne_of hq h (by intro z; cases z))]; exact hq
def spSegs : Sp := fun vs H Q _ => ∃ (p a : Addr) (most : Nat), vs = [.ref p, .int most] ∧ most ≤ 50 ∧ PoolOk p a H ∧ ∀ (l : Addr) (as : List Addr) (segs : List SegD) (H' : Hp), Px p a H H' → H l = none → hid p H' l = some (.lst (as.map V.ref)) → All2 (SegAt H') as segs → segs.length ≤ most → ParOk segs → RngS segs → (∀ s ∈ segs, s.res.2 ≤ 10 ^ 13 ∧ s.cap.2 ≤ 100) → Q (.ref l) H'
theorem sc_law_segments : FnScope ["pool", "most", "segments", "k", "low", "small", "parent"] ["pool", "most"] (defScope s_law_segments) := ⟨rfl, rfl, rfl, by decide +kernel, rfl, by decide +kernel, by decide +kernel⟩
theorem ok_law_segments (D : Dfd K mg "_law_segments" s_law_segments ["pool", "most"]) (T : TxtS mg) (C1 : Has P w K mg base 2 "_law_draw" ["pool", "many"] spDrawX) : Has P w K mg base 3 "_law_segments" ["pool", "most"] spSegs := by
  obtain ⟨f_law_draw, d_law_draw, G_law_draw, g_law_draw, k_law_draw, b_law_draw⟩ := C1
  refine D.has fun f fd F => F.ok sc_law_segments (fun vs H Q E h => ?_) (fun cdv A outer s H vs Q E hr h => ?_)
  · obtain ⟨p, a, most, rfl, _⟩ := h
    rfl
  · obtain ⟨p, a, most, rfl, hm, hp, q⟩ := h
    refine ⟨_, (pss_cons (ps_set (i := 2) sc_law_segments.nd rfl (.inl rfl) (pe_lst pa_nil))
    (pss_cons (ps_for PassesOwn.never rfl (pi_range1 rfl T.range (pa_cons (pe_call G_law_draw (hr.mono (by omega)) (by rfl) g_law_draw k_law_draw b_law_draw .nil pass0 (pa_cons (pv 0) (pa_cons (pe_op op_add (pv 1) pe_int) pa_nil))) pa_nil)) (pg_name (i := 3) sc_law_segments.nd rfl (.inl rfl))
      (pss_cons (ps_set (i := 4) sc_law_segments.nd rfl (.inl rfl) (pe_ix ix_list (pe_lst (pa_cons (pe_call G_law_draw (hr.mono (by omega)) (by rfl) g_law_draw k_law_draw b_law_draw .nil pass0 (pa_cons (pv 0) (pa_cons pe_int pa_nil))) (pa_cons (pe_call G_law_draw (hr.mono (by omega)) (by rfl) g_law_draw k_law_draw b_law_draw .nil pass0 (pa_cons (pv 0) (pa_cons (pe_op op_pow pe_int pe_int) pa_nil))) pa_nil))) (pe_callTy call_int1 (by rfl) T.int (by decide +kernel) (pa_cons (pe_cmpR op_eq (pe_call G_law_draw (hr.mono (by omega)) (by rfl) g_law_draw k_law_draw b_law_draw .nil pass0 (pa_cons (pv 0) (pa_cons pe_int pa_nil))) pe_int (nomark _)) pa_nil)) (fun _ _ => rfl)))
      (pss_cons (ps_set (i := 5) sc_law_segments.nd rfl (.inl rfl) (pe_call G_law_draw (hr.mono (by omega)) (by rfl) g_law_draw k_law_draw b_law_draw .nil pass0 (pa_cons (pv 0) (pa_cons pe_int pa_nil))))
      (pss_cons (ps_set (i := 6) sc_law_segments.nd rfl (.inl rfl) (pe_ix ix_list (pe_lst (pa_cons (pv 3) (pa_cons (pe_call G_law_draw (hr.mono (by omega)) (by rfl) g_law_draw k_law_draw b_law_draw .nil pass0 (pa_cons (pv 0) (pa_cons (pe_op op_add (pv 3) pe_int) pa_nil))) pa_nil))) (pe_call G_law_draw (hr.mono (by omega)) (by rfl) g_law_draw k_law_draw b_law_draw .nil pass0 (pa_cons (pv 0) (pa_cons pe_int pa_nil))) (fun _ _ => rfl)))
      (pss_one (ps_expr (pe_bm PySem.F.plainAttrs_list PySem.F.slot_list_append PySem.F.type_list_append mt_append (pv 2) (pa_cons (pe_tup (pa_cons (pv 6) (pa_cons (pe_tup (pa_cons (pv 4) (pa_cons (pe_op op_add (pv 4) (pe_call G_law_draw (hr.mono (by omega)) (by rfl) g_law_draw k_law_draw b_law_draw .nil pass0 (pa_cons (pv 0) (pa_cons pe_int pa_nil)))) pa_nil))) (pa_cons (pe_tup (pa_cons (pv 5) (pa_cons (pe_op op_add (pv 5) (pe_call G_law_draw (hr.mono (by omega)) (by rfl) g_law_draw k_law_draw b_law_draw .nil pass0 (pa_cons (pv 0) (pa_cons pe_int pa_nil)))) pa_nil))) pa_nil)))) pa_nil))))))))
    (pss_one (ps_ret (pv 2))))), ?_⟩
    refine ⟨Nat.zero_le _, fun l nl => ?_⟩
    have X0 := (Px.refl hp).new (o := .lst []) nl
    have hpl := hp.ne nl
    have hl0 : hid p (upd H l (.lst [])) l = some (.lst []) := by rw [hid_ne hpl]; exact upd_same
    generalize upd H l (.lst []) = H0 at *
    refine ⟨_, rfl, _, rfl, _, _, rfl, rfl, p, a, (most : Int) + 1, rfl, by omega, by omega, X0.pool, fun v2 H2 h2 X2 _ => ⟨v2, rfl, by omega, by omega, for_range (n := ((v2 : Nat) : Int).toNat)
      (fun i σ H' => Px p a H H' ∧ ∃ (as : List Addr) (segs : List SegD) (z3 z4 z5 z6 : Option V), hid p H' l = some (.lst (as.map V.ref)) ∧ All2 (SegAt H') as segs ∧ segs.length = i ∧ ParOk segs ∧ RngS segs ∧ (∀ s ∈ segs, s.res.2 ≤ 10 ^ 13 ∧ s.cap.2 ≤ 100) ∧ σ = [some (.ref p), some (.int most), some (.ref l), z3, z4, z5, z6])
      ⟨X0.trans X2, [], [], _, _, _, _, X2.get hl0, .nil, rfl, (fun _ _ h => nomatch h), (fun _ h => nomatch h), (fun _ h => nomatch h), rfl⟩ ?_ ?_⟩⟩
    · rintro i σ H3 hi ⟨X3, as, segs, z3, z4, z5, z6, hl, hA, hlen, hPar, hRng, hBig, rfl⟩
      rw [Int.toNat_natCast] at hi
      -- low
      refine tif_by (tt := tOp _ _ _) (fun z H' => Px p a H3 H' ∧ ∃ lo : Nat, z = .int (lo : Int) ∧ lo ≤ 10 ^ 12) (fun Q' k => ?_) ?_
      · refine ⟨_, rfl, p, a, 6, rfl, by decide, by decide, X3.pool, fun c1 H4 hc1 X4 _ => ⟨_, rfl, _, _, rfl, rfl, ⟨by decide, by decide, by decide⟩, p, a, 10 ^ 12, rfl, by decide, by decide, X4.pool, fun c2 H5 hc2 X5 _ => ⟨(by show 2 ≤ sizeLine; decide), fun m nm => ⟨_, rfl, p, a, 5, rfl, by decide, by decide, (X5.new nm).pool, fun v H6 hv X6 kp => ⟨rfl, .inr ⟨_, rfl, ?_⟩⟩⟩⟩⟩⟩
        have hm6 : H6 m = some (.lst [.int c1, .int c2]) := by rw [kp _ (X5.pool.ne nm)]; exact upd_same
        have X36 := X4.trans ((X5.new nm).trans X6)
        cases decide (V.int (v : Int) = V.int 4) with
        | true => exact ⟨_, _, _, _, rfl, rfl, SqL.of hm6, at_of (j := 1) rfl rfl, k _ _ ⟨X36, c2, rfl, by omega⟩⟩
        | false => exact ⟨_, _, _, _, rfl, rfl, SqL.of hm6, at_of (j := 0) rfl rfl, k _ _ ⟨X36, c1, rfl, by omega⟩⟩
      rintro _ H4 ⟨X4, lo, rfl, hlo⟩
      -- small
      refine ⟨_, rfl, p, a, 7, rfl, by decide, by decide, X4.pool, fun sm H5 hsm X5 _ => ?_⟩
      have X35 := X4.trans X5
      -- parent
      dsimp only [gName, tSeq, tAsg]
      refine tif_by (tt := tOp _ _ _) (fun z H' => Px p a H3 H' ∧ ∃ pr : Nat, z = .int (pr : Int) ∧ pr ≤ i) (fun Q' k => ?_) ?_
      · refine ⟨_, rfl, _, rfl, _, rfl, _, _, rfl, rfl, p, a, ((i : Nat) : Int) + 1, by rw [Int.zero_add]; rfl, by omega, by omega, X35.pool, fun c2 H6 hc2 X6 _ => ⟨(by show 2 ≤ sizeLine; decide), fun m nm => ⟨_, rfl, p, a, 2, rfl, by decide, by decide, (X6.new nm).pool, fun v H7 hv X7 kp => ?_⟩⟩⟩
        have hm7 : H7 m = some (.lst [.int (0 + (i : Int)), .int c2]) := by rw [kp _ (X6.pool.ne nm)]; exact upd_same
        have X37 := X35.trans ((X6.new nm).trans X7)
        obtain rfl | rfl : v = 0 ∨ v = 1 := by omega
        · exact ⟨_, _, _, _, rfl, rfl, SqL.of hm7, at_of (j := 0) rfl rfl, k _ _ ⟨X37, i, by rw [Int.zero_add], Nat.le_refl _⟩⟩
        · exact ⟨_, _, _, _, rfl, rfl, SqL.of hm7, at_of (j := 1) rfl rfl, k _ _ ⟨X37, c2, rfl, by omega⟩⟩
      rintro _ H6 ⟨X6, pr, rfl, hpr⟩
      have hl6 := X6.get hl
      refine ⟨_, rfl, .inl ⟨rfl, _, SqL.of (hid_get hl6)⟩, _, rfl, _, rfl, _, rfl, _, rfl, p, a, 9, rfl, by decide, by decide, X6.pool, fun d1 H7 hd1 X7 _ => ⟨_, _, rfl, rfl, (by show 2 ≤ sizeLine; decide), fun ra nra => ⟨_, rfl, _, rfl, _, rfl, p, a, 4, rfl, by decide, by decide, (X7.new nra).pool, fun d2 H8 hd2 X8 _ => ⟨_, _, rfl, rfl, (by show 2 ≤ sizeLine; decide), fun ca nca => ⟨(by show 3 ≤ sizeLine; decide), fun sg nsg => ?_⟩⟩⟩⟩⟩
      have X78 := (X7.new (o := .tup [.int lo, .int ((lo : Int) + d1)]) nra).trans X8
      have X9 := (X78.new (o := .tup [.int sm, .int ((sm : Int) + d2)]) nca).new (o := .tup [.int pr, .ref ra, .ref ca]) nsg
      have hra : upd (upd H8 ca (.tup [.int sm, .int ((sm : Int) + d2)])) sg (.tup [.int pr, .ref ra, .ref ca]) ra = some (.tup [.int lo, .int ((lo : Int) + d1)]) := Ex.new nsg _ _ (Ex.new nca _ _ (px_tup X8 _ _ upd_same))
      have hca : upd (upd H8 ca (.tup [.int sm, .int ((sm : Int) + d2)])) sg (.tup [.int pr, .ref ra, .ref ca]) ca = some (.tup [.int sm, .int ((sm : Int) + d2)]) := Ex.new nsg _ _ upd_same
      have hsg : upd (upd H8 ca (.tup [.int sm, .int ((sm : Int) + d2)])) sg (.tup [.int pr, .ref ra, .ref ca]) sg = some (.tup [.int pr, .ref ra, .ref ca]) := upd_same
      generalize upd (upd H8 ca (.tup [.int sm, .int ((sm : Int) + d2)])) sg (.tup [.int pr, .ref ra, .ref ca]) = H9 at *
      have hl9 := X9.get hl6
      have hl9' := hid_get hl9
      refine ⟨l, as.map V.ref, .ref sg, rfl, rfl, hl9', sz_lt (by rw [List.length_map, hA.1]; omega), (X3.trans (X6.trans X9)).mut nl, as ++ [sg], segs ++ [⟨(pr : Int), ((lo : Int), (lo : Int) + d1), ((sm : Int), (sm : Int) + d2)⟩], some (.int (0 + (i : Int))), some (.int (lo : Int)), some (.int (sm : Int)), some (.int (pr : Int)), ?_, ?_, ?_, ?_, ?_, ?_, rfl⟩
      · rw [hid_ne hpl, upd_same, List.map_append]; rfl
      · exact (hA.imp fun _ _ z => (z.te (px_tup (X6.trans X9))).te (mut_tup hl9')).snoc ⟨ra, ca, mut_tup hl9' _ _ hsg, mut_tup hl9' _ _ hra, mut_tup hl9' _ _ hca⟩
      · rw [List.length_append, hlen]; rfl
      · intro k s' h
        by_cases hk : k < segs.length
        · rw [List.getElem?_append_left hk] at h
          exact hPar k s' h
        · have hki : k = segs.length := by
            have := (List.getElem?_eq_some_iff.mp h).1
            rw [List.length_append] at this
            have : k < segs.length + 1 := this
            omega
          rw [List.getElem?_append_right (by omega), hki, Nat.sub_self] at h
          cases h
          exact ⟨by show (0 : Int) ≤ pr; omega, by show (pr : Int) ≤ k; omega⟩
      · intro s' h
        rcases List.mem_append.mp h with z | z
        · exact hRng s' z
        · rw [List.mem_singleton.mp z]
          exact ⟨⟨by show (0 : Int) ≤ lo; omega, by show (lo : Int) ≤ lo + d1; omega⟩, ⟨by show (0 : Int) ≤ sm; omega, by show (sm : Int) ≤ sm + d2; omega⟩⟩
      · intro s' h
        rcases List.mem_append.mp h with z | z
        · exact hBig s' z
        · rw [List.mem_singleton.mp z]
          exact ⟨by show (lo : Int) + d1 ≤ 10 ^ 13; omega, by show (sm : Int) + d2 ≤ 100; omega⟩
    · rintro σ H3 ⟨X3, as, segs, z3, z4, z5, z6, hl, hA, hlen, hPar, hRng, hBig, rfl⟩
      rw [Int.toNat_natCast] at hlen
      exact ⟨_, rfl, q l as segs H3 X3 nl hl hA (by omega) hPar hRng hBig⟩
def spLPath : Sp := fun vs H Q _ => ∃ (l : Addr) (as : List Addr) (segs : List SegD) (m : Nat), vs = [.ref l, .int m] ∧ H l = some (.lst (as.map V.ref)) ∧ All2 (SegAt H) as segs ∧ ParOk segs ∧ segs.length ≤ 100 ∧ m ≤ segs.length ∧ ∀ (q : Addr) (H' : Hp), Ex H H' → H q = none → H' q = some (.lst (natsV (anc segs m).reverse)) → Q (.ref q) H'
theorem sc_law_path : FnScope ["segments", "node", "found", "k"] ["segments", "node"] (defScope s_law_path) := ⟨rfl, rfl, rfl, by decide +kernel, rfl, by decide +kernel, by decide +kernel⟩
theorem ok_law_path (D : Dfd K mg "_law_path" s_law_path ["segments", "node"]) (T : TxtS mg) : Has P w K mg base 1 "_law_path" ["segments", "node"] spLPath := by
  refine D.has fun f fd F => F.ok sc_law_path (fun vs H Q E h => ?_) (fun cdv A outer s H vs Q E hr h => ?_)
  · obtain ⟨l, as, segs, m, rfl, _⟩ := h
    rfl
  · obtain ⟨l, as, segs, m0, rfl, hl, hA, hPar, hsl, hm0, q⟩ := h
    refine ⟨_, (pss_cons (ps_set (i := 2) sc_law_path.nd rfl (.inl rfl) (pe_lst (pa_cons (pv 1) pa_nil)))
    (pss_cons (ps_for PassesOwn.never rfl (pi_range1 rfl T.range (pa_cons (pe_callB call_len_seq (by rfl) T.len (by decide +kernel) (pa_cons (pv 0) pa_nil)) pa_nil)) (pg_name (i := 3) sc_law_path.nd rfl (.inl rfl))
      (pss_one (ps_if (pt_cmpR op_gt (pe_ix ix_list (pv 2) pe_int (fun _ _ => rfl)) pe_int (nomark _))
        (pss_one (ps_set (i := 2) sc_law_path.nd rfl (.inl rfl) (pe_op op_cat (pe_lst (pa_cons (pe_ix ix_tup (pe_ix ix_list (pv 0) (pe_op op_sub (pe_ix ix_list (pv 2) pe_int (fun _ _ => rfl)) pe_int) (fun _ _ => rfl)) pe_int (fun _ _ => rfl)) pa_nil)) (pv 2))))
        pss_nil)))
    (pss_one (ps_ret (pv 2))))), ?_⟩
    have lA := hA.1
    refine ⟨_, rfl, (by show 1 ≤ sizeLine; decide), fun f0 nf0 => ?_⟩
    refine ⟨_, rfl, _, _, rfl, .inl (SqL.of (Ex.new nf0 _ _ hl)), _, rfl, by omega, by rw [List.length_map]; omega, for_range (n := (((as.map V.ref).length : Nat) : Int).toNat)
      (fun i σ H' => Ex H H' ∧ ∃ (fa : Addr) (h : Nat) (rest : List Nat) (z : Option V), H fa = none ∧ H' fa = some (.lst (natsV (h :: rest))) ∧ h ≤ segs.length ∧ (h = 0 ∨ h + i ≤ m0) ∧ (anc segs h).reverse ++ rest = (anc segs m0).reverse ∧ σ = [some (.ref l), some (.int (m0 : Int)), some (.ref fa), z])
      ⟨Ex.new nf0, f0, m0, [], _, nf0, upd_same, hm0, .inr (by omega), List.append_nil _, rfl⟩ ?_ ?_⟩
    · rintro i σ H1 hi ⟨E1, fa, h, rest, z, nfa, hfa, hh, hdec, hch, rfl⟩
      have hrl : rest.length ≤ 200 := by
        have h1 := congrArg List.length hch
        rw [List.length_append, List.length_reverse, List.length_reverse] at h1
        have := anc_len hPar m0 hm0
        omega
      refine ⟨_, rfl, _, _, _, _, rfl, rfl, SqL.of hfa, atI_nat (j := 0) rfl, _, _, rfl, rfl, _, rfl, ite2 (fun c1 => ?_) (fun c1 => ?_)⟩
      · have h0 : h ≠ 0 := by have := of_decide_eq_true c1; omega
        have hs : segs[h - 1]? = some (segs[h - 1]'(by omega)) := List.getElem?_eq_getElem (by omega)
        obtain ⟨b, hb, ra, ca, s1, s2, s3⟩ := hA.of hs
        have hpn : (segs[h - 1]'(by omega)).above = ((parN segs h : Nat) : Int) := by
          have := par_at hPar h0 hh
          obtain ⟨k, rfl⟩ : ∃ k, h = k + 1 := ⟨h - 1, by omega⟩
          have e : (parL segs)[k + 1]? = (segs.map fun s : SegD => s.above)[k]? := rfl
          rw [e, List.getElem?_map] at this
          have hs' : segs[k]? = some (segs[k]'(by omega)) := List.getElem?_eq_getElem (by omega)
          rw [hs'] at this
          exact Option.some.inj this
        refine ⟨_, rfl, _, rfl, _, _, _, _, rfl, rfl, SqL.of hfa, atI_nat (j := 0) rfl, _, _, rfl, rfl, _, _, _, _, rfl, rfl, SqL.of (E1 _ _ hl), at_of (j := h - 1) (by omega) (by rw [List.getElem?_map, hb]; rfl), _, _, _, _, rfl, rfl, SqT.of (E1 _ _ s1), atI_nat (j := 0) rfl, (by show 1 ≤ sizeLine; decide), fun m1 nm1 => ?_⟩
        rw [hpn]
        have E2 : Ex H1 (upd H1 m1 (.lst [.int ((parN segs h : Nat) : Int)])) := Ex.new nm1
        have g2 : upd H1 m1 (.lst [.int ((parN segs h : Nat) : Int)]) m1 = some (.lst [.int ((parN segs h : Nat) : Int)]) := upd_same
        generalize upd H1 m1 (.lst [.int ((parN segs h : Nat) : Int)]) = H2 at *
        have hlt := par_lt hPar h0 hh
        refine ⟨_, rfl, m1, fa, _, _, rfl, rfl, g2, E2 _ _ hfa, sz_of (by unfold natsV; simp only [List.length_map, List.length_cons, List.length_nil]; omega), fun f2 nf2 => ⟨E1.trans (E2.trans (Ex.new nf2)), f2, parN segs h, h :: rest, _, fresh_back (E1.trans E2) nf2, upd_same, by omega, ?_, ?_, rfl⟩⟩
        · rcases hdec with z | z <;> omega
        · rw [← hch, anc_step hPar h0 hh, List.reverse_cons, List.append_assoc]; rfl
      · have h0 : h = 0 := by
          have : ¬ (h : Int) > 0 := fun z => c1 (decide_eq_true z)
          omega
        exact ⟨E1, fa, h, rest, _, nfa, hfa, hh, .inl h0, hch, rfl⟩
    · rintro σ H1 ⟨E1, fa, h, rest, z, nfa, hfa, hh, hdec, hch, rfl⟩
      rw [Int.toNat_natCast, List.length_map, lA] at hdec
      have h0 : h = 0 := by omega
      subst h0
      rw [anc_zero] at hch
      refine ⟨_, rfl, q fa H1 E1 nfa ?_⟩
      rw [← hch]; exact hfa
end
end G
namespace G
open PySem PySem.Spec PyProof.Rows L2 Evl TL
theorem for_rangeB {n : Nat} {lo : Int} {body : (L2.St → Hp → Prop) → V → L2.St → Hp → Prop} {Dn : L2.St → Hp → Prop} {σ0 : L2.St} {H0 : Hp} (Pv : Nat → L2.St → Hp → Prop) (h0 : Pv 0 σ0 H0) (hs : ∀ i σ H, i < n → Pv i σ H → body (Pv (i + 1)) (.int (lo + (i : Int))) σ H) (hd : ∀ σ H, Pv n σ H → Dn σ H) :
    ∃ W : Nat → Nat → L2.St → Hp → Prop, (∃ m, W 0 m σ0 H0) ∧ ∀ i m σ H, W i m σ H → ((Itr lo n).stop i H ∧ Dn σ H) ∨ ((Itr lo n).go i H ∧ ∃ N : L2.St → Hp → Prop, (∀ σ' H', N σ' H' → ∃ m', m' < m ∧ W (i + 1) m' σ' H') ∧ ∀ x H', (Itr lo n).yld i H x H' → body N x σ H') := by
  refine ⟨fun i m σ H => m = n - i ∧ i ≤ n ∧ Pv i σ H, ⟨n, by simp, Nat.zero_le _, h0⟩, ?_⟩
  rintro i m σ H ⟨rfl, hi, p⟩
  rcases Nat.lt_or_ge i n with lt | ge
  · refine .inr ⟨lt, Pv (i + 1), fun σ' H' p' => ⟨n - (i + 1), by omega, rfl, lt, p'⟩, fun x H' y => ?_⟩
    obtain ⟨rfl, rfl⟩ := y
    exact hs i σ _ lt p
  · have e : i = n := by omega
    subst e
    exact .inl ⟨Nat.le_refl _, hd σ H p⟩
theorem it1 {b : Bool} {A B : Prop} (h : b = true) (a : A) : if b = true then A else B := by rw [if_pos h]; exact a
theorem it0 {b : Bool} {A B : Prop} (h : b = false) (a : B) : if b = true then A else B := by rw [if_neg (by rw [h]; decide)]; exact a
theorem inV_nats {k : Nat} {l : List Nat} : inV (.int (k : Int)) (natsV l) = decide (k ∈ l) := by
  unfold inV natsV
  rw [List.any_map, Bool.eq_iff_iff, List.any_eq_true, decide_eq_true_iff]
  constructor
  · rintro ⟨y, hy, h⟩
    have h' : ((y : Int) == (k : Int)) = true := h
    have := eq_of_beq h'
    have : y = k := by omega
    rw [← this]; exact hy
  · intro h
    exact ⟨k, h, (beq_self_eq_true (k : Int) : ((k : Int) == (k : Int)) = true)⟩
theorem rep_nats {H : Hp} {a : Addr} {l : List Nat} (h : H a = some (.lst (natsV l))) : Rep H (.ref a) (.lst (l.map fun n : Nat => D.int (n : Int))) := by
  have := rep_map (H := H) (f := fun n : Nat => V.int (n : Int)) (g := fun n : Nat => D.int (n : Int)) (l := l) fun x => .int _
  exact .lst h this.1 this.2
theorem okD_nats {l : List Nat} (h : l.length ≤ 1000) : okD 1 (.lst (l.map fun n : Nat => D.int (n : Int))) := ⟨by rw [List.length_map]; omega, fun d hd => by obtain ⟨z, _, rfl⟩ := List.mem_map.mp hd; trivial⟩
section
variable {P : Program} {w : World} {K : PySem.W.Frag} {mg : Str → Option Value} {base : Heap}
def spRefused : Sp := fun vs H Q _ => ∃ (l : Addr) (as : List Addr) (segs : List SegD), vs = [.ref l] ∧ H l = some (.lst (as.map V.ref)) ∧ All2 (SegAt H) as segs ∧ segs.length ≤ 100 ∧ (ParOk segs → RngS segs → False) ∧
  (¬ ParOk segs → ∀ (q : Addr) (H' : Hp), Ex H H' → H' q = some (.lst [.bl true, .bl false]) → Q (.ref q) H') ∧ (ParOk segs → ¬ RngS segs → ∀ (q : Addr) (H' : Hp), Ex H H' → H' q = some (.lst [.bl false, .bl true]) → Q (.ref q) H')
theorem sc_law_refused : FnScope ["segments", "e"] ["segments"] (defScope s_law_refused) := ⟨rfl, rfl, rfl, by decide +kernel, rfl, by decide +kernel, by decide +kernel⟩
theorem ok_law_refused {C D_BadArgument D_BadRange S f0 : Addr} {d0 : FuncData} (D : Dfd K mg "_law_refused" s_law_refused ["segments"]) (T : TxtS mg) (g_WireTree : mg "WireTree" = some (.ref C)) (g_BadArgument : mg "BadArgument" = some (.ref D_BadArgument)) (g_BadRange : mg "BadRange" = some (.ref D_BadRange)) (g_SignoffError : mg "SignoffError" = some (.ref S))
    (iB : ExcC K D_BadArgument) (iR : ExcC K D_BadRange) (bb : PySem.W.kitOne K (.ref D_BadArgument) (.ref D_BadArgument) = some true) (br : PySem.W.kitOne K (.ref D_BadArgument) (.ref D_BadRange) = some false) (rb : PySem.W.kitOne K (.ref D_BadRange) (.ref D_BadArgument) = some false) (rr : PySem.W.kitOne K (.ref D_BadRange) (.ref D_BadRange) = some true)
    (hitB : PySem.W.exmOne K (.ref D_BadArgument) (.ref S) = some true) (hitR : PySem.W.exmOne K (.ref D_BadRange) (.ref S) = some true)
    (Mk_WireTree : Mk K C f0) (G_WireTree_init : FnOk P w K mg base (L2.CX P w) 1 f0 d0 ["self", "segments"] (spTInit C D_BadArgument D_BadRange)) (b_WireTree_init : Binds K d0 ["self", "segments"] []) : Has P w K mg base 3 "_law_refused" ["segments"] spRefused := by
  refine D.has fun f fd F => F.ok sc_law_refused (fun vs H Q E h => ?_) (fun cdv A outer s H vs Q E hr h => ?_)
  · obtain ⟨l, as, segs, rfl, _⟩ := h
    rfl
  · obtain ⟨l, as, segs, rfl, hl, hA, hn, no, q1, q2⟩ := h
    refine ⟨_, (pss_cons (ps_try_as (c := .ref S) (i := 1) rfl rfl sc_law_refused.nd rfl rfl ⟨rfl, by decide, .inl g_SignoffError⟩ takes0
      (fun W pn xe tk hp => (pss_one (ps_expr (pe_makeX Mk_WireTree G_WireTree_init (hr.mono (by omega)) (by rfl) g_WireTree b_WireTree_init .nil (fun σ => passAt tk σ) (pa_cons (pv 0) pa_nil)))))
      (fun a oe cls dd pn hz hf => (pss_one (ps_ret (pe_lst (pa_cons (pe_isE hz hf (fun D hz1 ic => pe_callB (call_isE ic hz1 hf) (by rfl) T.isinstance (by decide +kernel) (pa_cons (pv 1) (pa_cons (gRef rfl g_BadArgument) pa_nil)))) (pa_cons (pe_isE hz hf (fun D hz1 ic => pe_callB (call_isE ic hz1 hf) (by rfl) T.isinstance (by decide +kernel) (pa_cons (pv 1) (pa_cons (gRef rfl g_BadRange) pa_nil)))) pa_nil)))))))
    (pss_one (ps_ret (pe_lst (pa_cons pe_bl (pa_cons pe_bl pa_nil)))))), ?_⟩
    refine ⟨_, rfl, fun x dx nx nd ne => ?_⟩
    have EM : Ex H (upd (upd H dx (.own x)) x (.ins C dx [])) := (Ex.new nd).trans (Ex.new (by rw [upd_ne ne.symm]; exact nx))
    refine ⟨x, dx, l, as, segs, rfl, upd_same, made_old nx nd hl, hA.imp fun _ _ z => z.ex EM, hn, fun h1 h2 => (no h1 h2).elim, fun z H1 eb => ⟨true, hitB, fun _ a na => ?_, fun q => nomatch q⟩, fun h1 z H1 eb => ⟨true, hitR, fun _ a na => ?_, fun q => nomatch q⟩⟩
    · have E1 := ExBut.made nx nd eb
      exact ⟨D_BadArgument, ⟨rfl, rfl, iB⟩, _, rfl, .ref D_BadArgument, .ref D_BadArgument, true, rfl, (fun u hu => hu), bb, D_BadArgument, ⟨rfl, rfl, iB⟩, _, rfl, .ref D_BadRange, .ref D_BadRange, false, rfl, (fun u hu => hu), br, (by show 2 ≤ sizeLine; decide), fun m nm => q1 z m _ (E1.trans (Ex.new nm)) upd_same⟩
    · have E1 := ExBut.made nx nd eb
      exact ⟨D_BadRange, ⟨rfl, rfl, iR⟩, _, rfl, .ref D_BadArgument, .ref D_BadArgument, false, rfl, (fun u hu => hu), rb, D_BadRange, ⟨rfl, rfl, iR⟩, _, rfl, .ref D_BadRange, .ref D_BadRange, true, rfl, (fun u hu => hu), rr, (by show 2 ≤ sizeLine; decide), fun m nm => q2 h1 z m _ (E1.trans (Ex.new nm)) upd_same⟩
def spAway (C : Addr) : Sp := fun vs H Q _ => ∃ (x p r c : Addr) (segs : List SegD) (n : Int), vs = [.ref x, .int n] ∧ TreeAt C H x p r c segs ∧ ParOk segs ∧ segs.length ≤ 100 ∧ ¬ (0 ≤ n ∧ n ≤ segs.length) ∧ ∀ H', Ex H H' → Q (.bl true) H'
theorem sc_law_away : FnScope ["tree", "node", "wrong", "kind"] ["tree", "node"] (defScope s_law_away) := ⟨rfl, rfl, rfl, by decide +kernel, rfl, by decide +kernel, by decide +kernel⟩
theorem ok_law_away {C B f1 f2 f3 f4 : Addr} {d1 d2 d3 d4 : FuncData} (D : Dfd K mg "_law_away" s_law_away ["tree", "node"]) (T : TxtS mg) (c_WireTree : Cls K C) (gB : mg "BadArgument" = some (.ref B)) (hitB : PySem.W.exmOne K (.ref B) (.ref B) = some true)
    (M_WireTree_parent : Meth K C "parent" f1) (G_WireTree_parent : FnOk P w K mg base (L2.CX P w) 2 f1 d1 ["self", "node"] (spParent C B)) (b_WireTree_parent : Binds K d1 ["self", "node"] [])
    (M_WireTree_path : Meth K C "path" f2) (G_WireTree_path : FnOk P w K mg base (L2.CX P w) 2 f2 d2 ["self", "node"] (spPath C B)) (b_WireTree_path : Binds K d2 ["self", "node"] [])
    (M_WireTree_below : Meth K C "below" f3) (G_WireTree_below : FnOk P w K mg base (L2.CX P w) 2 f3 d3 ["self", "node"] (spBelow C B)) (b_WireTree_below : Binds K d3 ["self", "node"] [])
    (M_WireTree_delay_range : Meth K C "delay_range" f4) (G_WireTree_delay_range : FnOk P w K mg base (L2.CX P w) 2 f4 d4 ["self", "node", "unit"] (spRangeBad C B)) (kb_WireTree_delay_range : KBn K d4 ["self", "node", "unit"] 2 ["unit"] (fun us ws => us ++ ws) (fun vs zs => vs ++ zs)) : Has P w K mg base 3 "_law_away" ["tree", "node"] (spAway C) := by
  refine D.has fun f fd F => F.ok sc_law_away (fun vs H Q E h => ?_) (fun cdv A outer s H vs Q E hr h => ?_)
  · obtain ⟨x, p, r, c, segs, n, rfl, _⟩ := h
    rfl
  · obtain ⟨x, p, r, c, segs, n, rfl, hT, hPar, hsl, hbad, q⟩ := h
    refine ⟨_, (pss_cons (ps_set (i := 2) sc_law_away.nd rfl (.inl rfl) pe_int)
    (pss_cons (ps_for PassesOwn.never rfl (pi_range1 rfl T.range (pa_cons pe_int pa_nil)) (pg_name (i := 3) sc_law_away.nd rfl (.inl rfl))
      (pss_one (ps_try_only (c := .ref B) rfl rfl ⟨rfl, by decide, .inl gB⟩ takes0
        (fun W pn xe tk hp => (pss_one (ps_if (pt_cmpR op_eq (pv 3) pe_int (nomark _))
            (pss_one (ps_expr (pe_methX (pv 0) c_WireTree M_WireTree_parent G_WireTree_parent (hr.mono (by omega)) b_WireTree_parent .nil (fun σ => passAt tk σ) (pa_cons (pv 1) pa_nil))))
            (pss_one (ps_if (pt_cmpR op_eq (pv 3) pe_int (nomark _))
              (pss_one (ps_expr (pe_methX (pv 0) c_WireTree M_WireTree_path G_WireTree_path (hr.mono (by omega)) b_WireTree_path .nil (fun σ => passAt tk σ) (pa_cons (pv 1) pa_nil))))
              (pss_one (ps_if (pt_cmpR op_eq (pv 3) pe_int (nomark _))
                (pss_one (ps_expr (pe_methX (pv 0) c_WireTree M_WireTree_below G_WireTree_below (hr.mono (by omega)) b_WireTree_below .nil (fun σ => passAt tk σ) (pa_cons (pv 1) pa_nil))))
                (pss_one (ps_expr (pe_methK (pv 0) c_WireTree M_WireTree_delay_range G_WireTree_delay_range (hr.mono (by omega)) kb_WireTree_delay_range (fun σ => passAt tk σ) (pa_cons (pv 1) pa_nil) (pk_cons pe_int pk_nil)))))))))))
        (fun a oe cls dd pn hz hf => (pss_one (ps_set (i := 2) sc_law_away.nd rfl (.inl rfl) (pe_op op_add (pv 2) pe_int)))))))
    (pss_one (ps_ret (pe_cmpR op_eq (pv 2) pe_int (nomark _)))))), ?_⟩
    obtain ⟨dx, hob⟩ := hT.ob
    refine ⟨4, rfl, by decide, by decide, for_rangeB (n := 4) (fun i σ H' => Ex H H' ∧ ∃ z : Option V, σ = [some (.ref x), some (.int n), some (.int (i : Nat)), z]) ⟨.refl _, _, rfl⟩ ?_ ?_⟩
    · rintro i σ H1 hi ⟨E1, z, rfl⟩
      have hT1 := hT.ex E1
      have hob1 := E1 _ _ hob
      have n1 : (tfl p r c).lookup ("parent" : Str) = none := tfl_no _ _ _ (by decide +kernel) (by decide +kernel) (by decide +kernel)
      have n2 : (tfl p r c).lookup ("path" : Str) = none := tfl_no _ _ _ (by decide +kernel) (by decide +kernel) (by decide +kernel)
      have n3 : (tfl p r c).lookup ("below" : Str) = none := tfl_no _ _ _ (by decide +kernel) (by decide +kernel) (by decide +kernel)
      have n4 : (tfl p r c).lookup ("delay_range" : Str) = none := tfl_no _ _ _ (by decide +kernel) (by decide +kernel) (by decide +kernel)
      obtain rfl | rfl | rfl | rfl : i = 0 ∨ i = 1 ∨ i = 2 ∨ i = 3 := by omega
      · refine ⟨_, rfl, rfl, _, rfl, it1 (by decide) ⟨_, rfl, x, dx, _, rfl, hob1, n1, _, rfl, x, p, r, c, segs, n, rfl, hT1, fun m z e h => ?_, fun _ H2 E2 => ⟨true, hitB, fun _ a na => ⟨_, rfl, _, _, rfl, rfl, E1.trans E2, _, rfl⟩, fun q => nomatch q⟩⟩⟩
        refine absurd ⟨by omega, ?_⟩ hbad
        have := (List.getElem?_eq_some_iff.mp h).1
        unfold parL at this
        rw [List.length_cons, List.length_map] at this
        omega
      · exact ⟨_, rfl, rfl, _, rfl, it0 (by decide) ⟨_, rfl, rfl, _, rfl, it1 (by decide) ⟨_, rfl, x, dx, _, rfl, hob1, n2, _, rfl, x, p, r, c, segs, n, rfl, hT1, hPar, hsl, (fun m e h => absurd ⟨by omega, by omega⟩ hbad), fun _ H2 E2 => ⟨true, hitB, fun _ a na => ⟨_, rfl, _, _, rfl, rfl, E1.trans E2, _, rfl⟩, fun q => nomatch q⟩⟩⟩⟩
      · exact ⟨_, rfl, rfl, _, rfl, it0 (by decide) ⟨_, rfl, rfl, _, rfl, it0 (by decide) ⟨_, rfl, rfl, _, rfl, it1 (by decide) ⟨_, rfl, x, dx, _, rfl, hob1, n3, _, rfl, x, p, r, c, segs, n, rfl, hT1, hPar, hsl, (fun m e h => absurd ⟨by omega, by omega⟩ hbad), fun _ H2 E2 => ⟨true, hitB, fun _ a na => ⟨_, rfl, _, _, rfl, rfl, E1.trans E2, _, rfl⟩, fun q => nomatch q⟩⟩⟩⟩⟩
      · exact ⟨_, rfl, rfl, _, rfl, it0 (by decide) ⟨_, rfl, rfl, _, rfl, it0 (by decide) ⟨_, rfl, rfl, _, rfl, it0 (by decide) ⟨_, rfl, x, dx, _, rfl, hob1, n4, _, rfl, rfl, rfl, x, p, r, c, segs, n, 0, rfl, hT1, hbad, fun H2 E2 => ⟨true, hitB, fun _ a na => ⟨_, rfl, _, _, rfl, rfl, E1.trans E2, _, rfl⟩, fun q => nomatch q⟩⟩⟩⟩⟩
    · rintro σ H1 ⟨E1, z, rfl⟩
      exact ⟨_, rfl, rfl, q H1 E1⟩
theorem parL_at {segs : List SegD} {m : Nat} (h : m ≤ segs.length) : ∃ z, (parL segs)[m]? = some z := by
  have : m < (parL segs).length := by unfold parL; rw [List.length_cons, List.length_map]; omega
  exact ⟨_, List.getElem?_eq_getElem this⟩
theorem all2_app {α β : Type} {R : α → β → Prop} {as cs : List α} {bs ds : List β} (h : All2 R as bs) (k : All2 R cs ds) : All2 R (as ++ cs) (bs ++ ds) := by
  refine ⟨by rw [List.length_append, List.length_append, h.1, k.1], fun i x y h1 h2 => ?_⟩
  by_cases hi : i < as.length
  · rw [List.getElem?_append_left hi] at h1
    rw [List.getElem?_append_left (h.1 ▸ hi)] at h2
    exact h.2 i x y h1 h2
  · rw [List.getElem?_append_right (by omega)] at h1
    rw [List.getElem?_append_right (by rw [← h.1]; omega), ← h.1] at h2
    exact k.2 _ x y h1 h2
theorem ins_at {α : Type} {l : List α} {n : Nat} {x : α} (h : n ≤ l.length) : (l.take n ++ [x] ++ l.drop n)[n]? = some x := by
  rw [List.append_assoc, List.getElem?_append_right (by rw [List.length_take]; omega), List.length_take, Nat.min_eq_left h, Nat.sub_self]; rfl
theorem ins_par {l : List SegD} {n : Nat} {x : SegD} (h : n ≤ l.length) (hp : ParOk l) (hx : 0 ≤ x.above ∧ x.above ≤ n) : ParOk (l.take n ++ [x] ++ l.drop n) := fun k s' hk => by
  by_cases h1 : k < n
  · rw [List.append_assoc, List.getElem?_append_left (by rw [List.length_take]; omega), List.getElem?_take_of_lt h1] at hk
    exact hp k s' hk
  · by_cases h2 : k = n
    · subst h2
      rw [ins_at h] at hk
      cases hk; exact hx
    · rw [List.append_assoc, List.getElem?_append_right (by rw [List.length_take]; omega), List.length_take, Nat.min_eq_left h] at hk
      obtain ⟨j, rfl⟩ : ∃ j, k = n + (j + 1) := ⟨k - n - 1, by omega⟩
      rw [Nat.add_sub_cancel_left] at hk
      have hk' : (l.drop n)[j]? = some s' := hk
      rw [List.getElem?_drop] at hk'
      have := hp _ s' hk'
      omega
theorem all2_ins {R : Addr → SegD → Prop} {as : List Addr} {l : List SegD} {n : Nat} {b : Addr} {x : SegD} (h : All2 R as l) (hr : R b x) : All2 R (as.take n ++ [b] ++ as.drop n) (l.take n ++ [x] ++ l.drop n) := by
  have ht : All2 R (as.take n) (l.take n) := ⟨by rw [List.length_take, List.length_take, h.1], fun i x y h1 h2 => by
    rw [List.getElem?_take] at h1 h2
    by_cases hi : i < n
    · rw [if_pos hi] at h1 h2; exact h.2 i x y h1 h2
    · rw [if_neg hi] at h1; cases h1⟩
  have hd : All2 R (as.drop n) (l.drop n) := ⟨by rw [List.length_drop, List.length_drop, h.1], fun i x y h1 h2 => by
    rw [List.getElem?_drop] at h1 h2
    exact h.2 _ x y h1 h2⟩
  exact all2_app (ht.snoc hr) hd
def spLaw (K : PySem.W.Frag) : Sp := fun vs H Q _ => ∃ (a : Addr) (ns : List Int), vs = [.ref a] ∧ SqL K H a (ns.map V.int) ∧ ns.length ≤ 63 ∧ ∀ H', Q (.bl true) H'
theorem sc_law : FnScope ["script", "pool", "turn", "segments", "many", "given", "tree", "node", "paths", "below", "at", "parent", "pair", "rows", "other", "row"] ["script"] (defScope s_law) := ⟨rfl, rfl, rfl, by decide +kernel, rfl, by decide +kernel, by decide +kernel⟩
theorem fn_law {C B R f : Addr} {fd : FuncData} {fi fl f1 f2 f3 : Addr} {di dl d1 d2 d3 : FuncData} (F : Fun K "law" "law" s_law f fd) (T : TxtS mg) (W : Cl_WireTree K mg C) (C1 : Has P w K mg base 1 "_law_pool" ["script"] (spPool K)) (C2 : Has P w K mg base 2 "_law_draw" ["pool", "many"] spDrawX) (C3 : Has P w K mg base 3 "_law_segments" ["pool", "most"] spSegs) (C4 : Has P w K mg base 1 "_law_path" ["segments", "node"] spLPath)
    (C5 : Has P w K mg base 3 "_law_refused" ["segments"] spRefused) (C6 : Has P w K mg base 3 "_law_away" ["tree", "node"] (spAway C)) (C7 : Has P w K mg base 2 "_law_same" ["actual", "due"] (spSame 2))
    (Mk_WireTree : Mk K C fi) (G_WireTree_init : FnOk P w K mg base (L2.CX P w) 1 fi di ["self", "segments"] (spTInit C B R)) (b_WireTree_init : Binds K di ["self", "segments"] [])
    (L_WireTree : PySem.W.findIn K (.ref C) "__len__" = some (some (.ref fl))) (Lf_WireTree : PySem.W.isFn K (.ref fl) = true) (G_WireTree_len : FnOk P w K mg base CX0 1 fl dl ["self"] (spTLen C)) (b_WireTree_len : Binds K dl ["self"] [])
    (M_WireTree_parent : Meth K C "parent" f1) (G_WireTree_parent : FnOk P w K mg base (L2.CX P w) 2 f1 d1 ["self", "node"] (spParent C B)) (b_WireTree_parent : Binds K d1 ["self", "node"] [])
    (M_WireTree_path : Meth K C "path" f2) (G_WireTree_path : FnOk P w K mg base (L2.CX P w) 2 f2 d2 ["self", "node"] (spPath C B)) (b_WireTree_path : Binds K d2 ["self", "node"] [])
    (M_WireTree_below : Meth K C "below" f3) (G_WireTree_below : FnOk P w K mg base (L2.CX P w) 2 f3 d3 ["self", "node"] (spBelow C B)) (b_WireTree_below : Binds K d3 ["self", "node"] []) : FnOk P w K mg base CX0 4 f fd ["script"] (spLaw K) := by
  obtain ⟨f_law_pool, d_law_pool, G_law_pool, g_law_pool, k_law_pool, b_law_pool⟩ := C1
  obtain ⟨f_law_draw, d_law_draw, G_law_draw, g_law_draw, k_law_draw, b_law_draw⟩ := C2
  obtain ⟨f_law_segments, d_law_segments, G_law_segments, g_law_segments, k_law_segments, b_law_segments⟩ := C3
  obtain ⟨f_law_path, d_law_path, G_law_path, g_law_path, k_law_path, b_law_path⟩ := C4
  obtain ⟨f_law_refused, d_law_refused, G_law_refused, g_law_refused, k_law_refused, b_law_refused⟩ := C5
  obtain ⟨f_law_away, d_law_away, G_law_away, g_law_away, k_law_away, b_law_away⟩ := C6
  obtain ⟨f_law_same, d_law_same, G_law_same, g_law_same, k_law_same, b_law_same⟩ := C7
  have c_WireTree := W.cl
  have g_WireTree := W.gC
  refine F.ok sc_law (fun vs H Q E h => ?_) (fun cdv A outer s H vs Q E hr h => ?_)
  · obtain ⟨a, ns, rfl, _⟩ := h
    rfl
  · obtain ⟨sa, ns, rfl, hs, hn, q⟩ := h
    refine ⟨_, (pss_cons (ps_set (i := 1) sc_law.nd rfl (.inl rfl) (pe_call G_law_pool (hr.mono (by omega)) (by rfl) g_law_pool k_law_pool b_law_pool .nil pass0 (pa_cons (pv 0) pa_nil)))
    (pss_cons (ps_for PassesOwn.never rfl (pi_range1 rfl T.range (pa_cons pe_int pa_nil)) (pg_name (i := 2) sc_law.nd rfl (.inl rfl))
      (pss_cons (ps_set (i := 3) sc_law.nd rfl (.inr rfl) (pe_call G_law_segments (hr.mono (by omega)) (by rfl) g_law_segments k_law_segments b_law_segments .nil pass0 (pa_cons (pv 1) (pa_cons pe_int pa_nil))))
      (pss_cons (ps_set (i := 4) sc_law.nd rfl (.inl rfl) (pe_callB call_len_seq (by rfl) T.len (by decide +kernel) (pa_cons (pv 3) pa_nil)))
      (pss_cons (ps_set (i := 5) sc_law.nd rfl (.inl rfl) (pe_callTy call_list_of (by rfl) T.list (by decide +kernel) (pa_cons (pv 3) pa_nil)))
      (pss_cons (ps_set (i := 6) sc_law.nd rfl (.inl rfl) (pe_make Mk_WireTree G_WireTree_init (hr.mono (by omega)) (by rfl) g_WireTree b_WireTree_init .nil passX0 (pa_cons (pv 5) pa_nil)))
      (pss_cons (ps_expr (pe_bm PySem.F.plainAttrs_list PySem.F.slot_list_append PySem.F.type_list_append mt_append (pv 5) (pa_cons (pe_tup (pa_cons pe_int (pa_cons (pe_tup (pa_cons pe_int (pa_cons pe_int pa_nil))) (pa_cons (pe_tup (pa_cons pe_int (pa_cons pe_int pa_nil))) pa_nil)))) pa_nil)))
      (pss_cons (ps_if (pt_not (pt_val (pe_call G_law_same (hr.mono (by omega)) (by rfl) g_law_same k_law_same b_law_same .nil pass0 (pa_cons (pe_callB (call_lenOwn L_WireTree Lf_WireTree G_WireTree_len (hr.mono (by omega)) b_WireTree_len pass0) (by rfl) T.len (by decide +kernel) (pa_cons (pv 6) pa_nil)) (pa_cons (pe_op op_add (pv 4) pe_int) pa_nil)))))
        (pss_one (ps_ret pe_bl))
        pss_nil)
      (pss_cons (ps_set (i := 8) sc_law.nd rfl (.inr rfl) (pe_lc (own := [("node", 7)]) (g := gName 7) (tt := tYes) rfl sc_law.nd (pi_range1 rfl T.range (pa_cons (pe_op op_add (pv 4) pe_int) pa_nil)) (blkOk_by (N := ["script", "pool", "turn", "segments", "many", "given", "tree", "node", "paths", "below", "at", "parent", "pair", "rows", "other", "row"]) (sc := defScope s_law) (own := [("node", 7)]) (by decide +kernel)) (fun _ _ _ _ _ => (pg_name (i := 7) sc_law.nd rfl (.inl rfl))) (fun _ _ _ _ _ => pts_nil) (fun _ _ _ _ _ => (pe_call G_law_path (hr.mono (by omega)) (by rfl) g_law_path k_law_path b_law_path .nil pass0 (pa_cons (pv 3) (pa_cons (pv 7) pa_nil))))))
      (pss_cons (ps_for PassesOwn.never rfl (pi_range1 rfl T.range (pa_cons (pe_op op_add (pv 4) pe_int) pa_nil)) (pg_name (i := 7) sc_law.nd rfl (.inr rfl))
        (pss_cons (ps_if (pt_not (pt_val (pe_call G_law_same (hr.mono (by omega)) (by rfl) g_law_same k_law_same b_law_same .nil pass0 (pa_cons (pe_meth (pv 6) c_WireTree M_WireTree_parent G_WireTree_parent (hr.mono (by omega)) b_WireTree_parent .nil passX0 (pa_cons (pv 7) pa_nil)) (pa_cons (pe_ix ix_list (pe_op op_cat (pe_lst (pa_cons (pe_un un_neg pe_int) pa_nil)) (pe_lc (own := [("row", 15)]) (g := gName 15) (tt := tYes) rfl sc_law.nd (pi_list (pv 3)) (blkOk_by (N := ["script", "pool", "turn", "segments", "many", "given", "tree", "node", "paths", "below", "at", "parent", "pair", "rows", "other", "row"]) (sc := defScope s_law) (own := [("row", 15)]) (by decide +kernel)) (fun _ _ _ _ _ => (pg_name (i := 15) sc_law.nd rfl (.inl rfl))) (fun _ _ _ _ _ => pts_nil) (fun _ _ _ _ _ => (pe_ix (kIxT (K := K) rfl) (pv 15) pe_int (fun _ _ => rfl))))) (pv 7) (fun _ _ => rfl)) pa_nil)))))
          (pss_one (ps_ret pe_bl))
          pss_nil)
        (pss_cons (ps_setLc (i := 9) (own := [("other", 14)]) (g := gName 14) (tt := _) rfl sc_law.nd rfl rfl (sw_true rfl rfl rfl (by decide +kernel)) (pi_range1 rfl T.range (pa_cons (pe_op op_add (pv 4) pe_int) pa_nil)) (blkOk_by (N := ["script", "pool", "turn", "segments", "many", "given", "tree", "node", "paths", "below", "at", "parent", "pair", "rows", "other", "row"]) (sc := defScope s_law) (own := [("other", 14)]) (by decide +kernel)) (fun _ _ _ _ _ => (pg_name (i := 14) sc_law.nd rfl (.inl rfl))) (fun _ _ _ _ _ => pts_one (pt_cmpR (kIn (K := K) rfl) (pv 7) (pe_ix (kIxL (K := K) rfl) (pv 8) (pv 14) (fun _ _ => rfl)) (by rfl))) (fun _ _ _ _ _ => (pv 14)))
        (pss_one (ps_if (PW.pt (pw_or (pt_not (pt_val (pe_call G_law_same (hr.mono (by omega)) (by rfl) g_law_same k_law_same b_law_same .nil pass0 (pa_cons (pe_meth (pv 6) c_WireTree M_WireTree_path G_WireTree_path (hr.mono (by omega)) b_WireTree_path .nil passX0 (pa_cons (pv 7) pa_nil)) (pa_cons (pe_ix ix_list (pv 8) (pv 7) (fun _ _ => rfl)) pa_nil))))) (pw_or1 (pt_not (pt_val (pe_call G_law_same (hr.mono (by omega)) (by rfl) g_law_same k_law_same b_law_same .nil pass0 (pa_cons (pe_meth (pv 6) c_WireTree M_WireTree_below G_WireTree_below (hr.mono (by omega)) b_WireTree_below .nil passX0 (pa_cons (pv 7) pa_nil)) (pa_cons (pv 9) pa_nil))))))))
          (pss_one (ps_ret pe_bl))
          pss_nil)))))
      (pss_cut (ps_if (PW.pt (pw_or (pt_not (pt_val (pe_call G_law_away (hr.mono (by omega)) (by rfl) g_law_away k_law_away b_law_away .nil pass0 (pa_cons (pv 6) (pa_cons (pe_op op_add (pe_op op_add (pv 4) pe_int) (pe_call G_law_draw (hr.mono (by omega)) (by rfl) g_law_draw k_law_draw b_law_draw .nil pass0 (pa_cons (pv 1) (pa_cons pe_int pa_nil)))) pa_nil))))) (pw_or1 (pt_not (pt_val (pe_call G_law_away (hr.mono (by omega)) (by rfl) g_law_away k_law_away b_law_away .nil pass0 (pa_cons (pv 6) (pa_cons (pe_op op_sub (pe_un un_neg pe_int) (pe_call G_law_draw (hr.mono (by omega)) (by rfl) g_law_draw k_law_draw b_law_draw .nil pass0 (pa_cons (pv 1) (pa_cons pe_int pa_nil)))) pa_nil))))))))
        (pss_one (ps_ret pe_bl))
        pss_nil)
      (pss_cons (ps_set (i := 10) sc_law.nd rfl (.inl rfl) (pe_call G_law_draw (hr.mono (by omega)) (by rfl) g_law_draw k_law_draw b_law_draw .nil pass0 (pa_cons (pv 1) (pa_cons (pe_op op_add (pv 4) pe_int) pa_nil))))
      (pss_cons (ps_set (i := 11) sc_law.nd rfl (.inl rfl) (pe_ix ix_list (pe_lst (pa_cons (pe_op op_sub (pe_un un_neg pe_int) (pe_call G_law_draw (hr.mono (by omega)) (by rfl) g_law_draw k_law_draw b_law_draw .nil pass0 (pa_cons (pv 1) (pa_cons pe_int pa_nil)))) (pa_cons (pe_op op_add (pe_op op_add (pv 10) pe_int) (pe_call G_law_draw (hr.mono (by omega)) (by rfl) g_law_draw k_law_draw b_law_draw .nil pass0 (pa_cons (pv 1) (pa_cons pe_int pa_nil)))) pa_nil))) (pe_call G_law_draw (hr.mono (by omega)) (by rfl) g_law_draw k_law_draw b_law_draw .nil pass0 (pa_cons (pv 1) (pa_cons pe_int pa_nil))) (fun _ _ => rfl)))
      (pss_cons (ps_set (i := 12) sc_law.nd rfl (.inl rfl) (pe_ix ix_list (pe_lst (pa_cons (pe_tup (pa_cons (pe_un un_neg pe_int) (pa_cons pe_int pa_nil))) (pa_cons (pe_tup (pa_cons pe_int (pa_cons pe_int pa_nil))) pa_nil))) (pe_call G_law_draw (hr.mono (by omega)) (by rfl) g_law_draw k_law_draw b_law_draw .nil pass0 (pa_cons (pv 1) (pa_cons pe_int pa_nil))) (fun _ _ => rfl)))
      (pss_cons (ps_set (i := 13) sc_law.nd rfl (.inl rfl) (pe_lst (pa_cons (pe_tup (pa_cons pe_int (pa_cons (pv 12) (pa_cons (pe_tup (pa_cons pe_int (pa_cons pe_int pa_nil))) pa_nil)))) (pa_cons (pe_tup (pa_cons pe_int (pa_cons (pe_tup (pa_cons pe_int (pa_cons pe_int pa_nil))) (pa_cons (pv 12) pa_nil)))) pa_nil))))
      (pss_cons (ps_if (pt_cmpR (op_neD hr.units) (pe_call G_law_refused (hr.mono (by omega)) (by rfl) g_law_refused k_law_refused b_law_refused .nil pass0 (pa_cons (pe_op op_cat (pe_op op_cat (pe_slice sl_list (pv 3) po_none (po_some (pv 10))) (pe_lst (pa_cons (pe_tup (pa_cons (pv 11) (pa_cons (pe_tup (pa_cons pe_int (pa_cons pe_int pa_nil))) (pa_cons (pe_tup (pa_cons pe_int (pa_cons pe_int pa_nil))) pa_nil)))) pa_nil))) (pe_slice sl_list (pv 3) (po_some (pv 10)) po_none)) pa_nil)) (pe_lst (pa_cons pe_bl (pa_cons pe_bl pa_nil))) (nomark _))
        (pss_one (ps_ret pe_bl))
        pss_nil)
      (pss_cons (ps_if (pt_cmpR (op_neD hr.units) (pe_call G_law_refused (hr.mono (by omega)) (by rfl) g_law_refused k_law_refused b_law_refused .nil pass0 (pa_cons (pe_op op_cat (pe_op op_cat (pe_slice sl_list (pv 3) po_none (po_some (pv 10))) (pe_lst (pa_cons (pe_ix ix_list (pv 13) (pe_call G_law_draw (hr.mono (by omega)) (by rfl) g_law_draw k_law_draw b_law_draw .nil pass0 (pa_cons (pv 1) (pa_cons pe_int pa_nil))) (fun _ _ => rfl)) pa_nil))) (pe_slice sl_list (pv 3) (po_some (pv 10)) po_none)) pa_nil)) (pe_lst (pa_cons pe_bl (pa_cons pe_bl pa_nil))) (nomark _))
        (pss_one (ps_ret pe_bl))
        pss_nil)
      (pss_one (ps_if (pt_cmpR (op_neD hr.units) (pe_call G_law_refused (hr.mono (by omega)) (by rfl) g_law_refused k_law_refused b_law_refused .nil pass0 (pa_cons (pe_op op_cat (pe_op op_cat (pe_lst (pa_cons (pe_ix ix_list (pv 13) (pe_call G_law_draw (hr.mono (by omega)) (by rfl) g_law_draw k_law_draw b_law_draw .nil pass0 (pa_cons (pv 1) (pa_cons pe_int pa_nil))) (fun _ _ => rfl)) pa_nil)) (pv 3)) (pe_lst (pa_cons (pe_tup (pa_cons (pe_op op_add (pv 4) pe_int) (pa_cons (pv 12) (pa_cons (pv 12) pa_nil)))) pa_nil))) pa_nil)) (pe_lst (pa_cons pe_bl (pa_cons pe_bl pa_nil))) (nomark _))
        (pss_one (ps_ret pe_bl))
        pss_nil))))))))))))))))))
    (pss_one (ps_ret pe_bl)))), ?_⟩
    refine ⟨_, rfl, sa, ns, rfl, hs, by omega, fun p a H0 hp E0 np => ?_⟩
    refine ⟨_, rfl, by decide, by decide, for_range (n := 3) (fun i σ H' => Px p a H0 H' ∧ ∃ x2 x3 x4 x5 x6 x7 x8 x9 x10 x11 x12 x13 : Option V, σ = [some (.ref sa), some (.ref p), x2, x3, x4, x5, x6, x7, x8, x9, x10, x11, x12, x13, none, none])
      ⟨Px.refl hp, _, _, _, _, _, _, _, _, _, _, _, _, rfl⟩ ?_ ?_⟩
    · rintro turn σ H1 _ ⟨X1, x2, x3, x4, x5, x6, x7, x8, x9, x10, x11, x12, x13, rfl⟩
      refine ⟨_, rfl, p, a, 9, rfl, by decide, X1.pool, fun l as segs H2 X2 nl hl hA hlen hPar hRng hBig => ?_⟩
      have lA := hA.1
      have hl2 := hid_get hl
      have hlp : l ≠ p := hid_neq hl
      refine ⟨_, rfl, _, _, rfl, .inl (SqL.of hl2), ?_⟩
      rw [List.length_map, lA]
      refine ⟨_, rfl, _, _, rfl, .inl (SqL.of hl2), fun gv ngv => ?_⟩
      have P2 := X2.pool
      have ngp : gv ≠ p := P2.ne ngv
      have nga : a ≠ gv := P2.ne2 ngv
      have nlg : l ≠ gv := ne_of_none hl2 ngv
      have E3 : Ex H2 (upd H2 gv (.lst (as.map V.ref))) := Ex.new ngv
      have h3 : upd H2 gv (.lst (as.map V.ref)) gv = some (.lst (as.map V.ref)) := upd_same
      generalize upd H2 gv (.lst (as.map V.ref)) = H3 at *
      -- the tree
      refine ⟨_, rfl, fun x dx nx nd ne => ?_⟩
      have EM : Ex H3 (upd (upd H3 dx (.own x)) x (.ins C dx [])) := (Ex.new nd).trans (Ex.new (by rw [upd_ne ne.symm]; exact nx))
      refine ⟨x, dx, gv, as, segs, rfl, upd_same, made_old nx nd h3, hA.imp fun _ _ z => z.ex (E3.trans EM), by omega, fun _ _ pp rr cc H4 npp nrr ncc eb hT => ⟨rfl, ?_⟩, fun z => absurd hPar z, fun _ z => absurd hRng z⟩
      have E4 := ExBut.made nx nd eb
      obtain ⟨dx', hob⟩ := hT.ob
      have h4 := E4 _ _ h3
      have k1 : pp ≠ gv := (ne_of_none h3 (made_free npp)).symm
      have k2 : rr ≠ gv := (ne_of_none h3 (made_free nrr)).symm
      have k3 : cc ≠ gv := (ne_of_none h3 (made_free ncc)).symm
      have P3 := P2.kept E3
      have j1 : pp ≠ p := P3.ne (made_free npp)
      have j2 : rr ≠ p := P3.ne (made_free nrr)
      have j3 : cc ≠ p := P3.ne (made_free ncc)
      -- what was handed in grows
      refine ⟨_, rfl, .inl ⟨rfl, _, SqL.of h4⟩, (by show 2 ≤ sizeLine; decide), fun t1 n1 => ⟨(by show 2 ≤ sizeLine; decide), fun t2 n2 => ⟨(by show 3 ≤ sizeLine; decide), fun t3 n3 => ?_⟩⟩⟩
      have E5 : Ex H4 (upd (upd (upd H4 t1 (.tup [.int 0, .int 0])) t2 (.tup [.int 0, .int 0])) t3 (.tup [.int 0, .ref t1, .ref t2])) := (Ex.new n1).trans ((Ex.new n2).trans (Ex.new n3))
      generalize upd (upd (upd H4 t1 (.tup [.int 0, .int 0])) t2 (.tup [.int 0, .int 0])) t3 (.tup [.int 0, .ref t1, .ref t2]) = H5 at *
      have h5 := E5 _ _ h4
      have hT5 := hT.ex E5
      refine ⟨gv, _, _, rfl, rfl, h5, sz_lt (by rw [List.length_map]; omega), ?_⟩
      have X6 : Px p a H2 (upd H5 gv (.lst (as.map V.ref ++ [.ref t3]))) := ((Px.ofEx P2 E3).more (E4.trans E5)).mut ngv
      have hT6 : TreeAt C (upd H5 gv (.lst (as.map V.ref ++ [.ref t3]))) x pp rr cc segs := by
        obtain ⟨⟨dx5, o1⟩, o2, ⟨rl, o3, o4⟩, ⟨cl, o5, o6⟩⟩ := hT5
        exact ⟨⟨dx5, by rw [upd_ne (ne_of o1 h5 (by intro z; cases z))]; exact o1⟩, by rw [upd_ne k1]; exact o2, ⟨rl, by rw [upd_ne k2]; exact o3, o4.imp fun _ _ z => mut_tup h5 _ _ z⟩, ⟨cl, by rw [upd_ne k3]; exact o5, o6.imp fun _ _ z => mut_tup h5 _ _ z⟩⟩
      generalize upd H5 gv (.lst (as.map V.ref ++ [.ref t3])) = H6 at *
      have hl6 := X6.at_ hl
      have hA6 : All2 (SegAt H6) as segs := hA.imp fun _ _ z => z.te (px_tup X6)
      have X06 := (X1.trans X2).trans X6
      obtain ⟨dx6, hob6⟩ := hT6.ob
      clear E4 E5 h4 h5 hT hT5 eb X6 hob h3 P3 E3 EM
      have nn : ∀ m : Str, ¬ m = "_capacitances" → ¬ m = "_resistances" → ¬ m = "_parents" → (tfl pp rr cc).lookup m = none := fun m a b c => tfl_no _ _ _ a b c
      -- len
      refine ⟨_, rfl, x, dx6, _, rfl, hob6, x, pp, rr, cc, segs, rfl, hT6, segs.length + 1, rfl, by omega, _, rfl, _, _, rfl, rfl, _, _, .int ((segs.length : Int) + 1), rfl, ?_, .int _, trivial, _, rfl, iteF ?_⟩
      · exact .int _
      -- paths
      have hsl : segs.length ≤ 100 := by omega
      have enn : ((segs.length : Int) + 1).toNat = segs.length + 1 := by omega
      refine ⟨_, rfl, _, _, rfl, rfl, _, rfl, by omega, by omega, fun L8 nL8 => lc_range (lo := 0) (n := ((segs.length : Int) + 1).toNat) (fun j H' => Ex H6 H' ∧ ∃ qs : List Addr, H' L8 = some (.lst (qs.map V.ref)) ∧ All2 (fun (b : Addr) (k : Nat) => hid L8 H' b = some (.lst (natsV (anc segs k).reverse))) qs (List.range j)) ⟨Ex.new nL8, [], upd_same, .nil⟩ ?_ ?_⟩
      · rintro j H7 hj ⟨E7, qs, hL8, hqs⟩
        refine ⟨rfl, tYes_in ?_⟩
        simp only [wipe, _root_.L2.start, List.map_cons, List.map_nil, List.length_cons, List.length_nil, Nat.reduceAdd, Nat.reduceSub, List.replicate_succ, List.replicate_zero, List.cons_append, List.nil_append, List.set_cons_zero, List.set_cons_succ]
        have hjl : j ≤ segs.length := by omega
        refine ⟨_, rfl, _, rfl, l, as, segs, j, by rw [Int.zero_add]; rfl, E7 _ _ hl6, hA6.imp fun _ _ z => z.ex E7, hPar, hsl, hjl, fun b H8 E8 nb hb => ?_⟩
        have hL9 := E8 _ _ hL8
        have nb8 : b ≠ L8 := (ne_of_none hL8 nb).symm
        have hql : qs.length = j := by rw [hqs.1, List.length_range]
        refine ⟨_, hL9, sz_lt (by rw [List.length_map]; omega), (E7.trans E8).mut nL8, qs ++ [b], by rw [upd_same, List.map_append]; rfl, ?_⟩
        rw [hid_upd, List.range_succ]
        exact (hqs.imp fun _ _ z => by rw [hid_ne (hid_neq z)]; exact E8 _ _ (hid_get z)).snoc (by rw [hid_ne nb8]; exact hb)
      rintro H7 ⟨E7, qs, hL8, hqs⟩
      rw [enn] at hqs
      have hqs7 : ∀ k, k ≤ segs.length → ∃ b, (qs.map V.ref)[k]? = some (.ref b) ∧ H7 b = some (.lst (natsV (anc segs k).reverse)) := fun k hk => by
        obtain ⟨b, hb, hv⟩ := hqs.of (i := k) (b := k) (by rw [List.getElem?_range (by omega)])
        exact ⟨b, by rw [List.getElem?_map, hb]; rfl, hid_get hv⟩
      have hT7 := hT6.ex E7
      have hob7 := E7 _ _ hob6
      have hl7 := E7 _ _ hl6
      have hA7 := hA6.imp fun _ _ z => z.ex E7
      have X07 := X06.more E7
      clear hqs
      -- each node
      refine ⟨_, rfl, _, _, rfl, rfl, _, rfl, by omega, by omega, for_range (n := ((segs.length : Int) + 1).toNat) (fun i σ H' => Ex H7 H' ∧ ∃ y7 y9 : Option V, σ = [some (.ref sa), some (.ref p), some (.int (0 + (turn : Int))), some (.ref l), some (.int (segs.length : Int)), some (.ref gv), some (.ref x), y7, some (.ref L8), y9, x10, x11, x12, x13, none, none]) ⟨.refl _, _, _, rfl⟩ ?_ ?_⟩
      · rintro i σ H8 hi ⟨E8, y7, y9, rfl⟩
        have hil : i ≤ segs.length := by omega
        rw [Int.zero_add]
        have hT8 := hT7.ex E8
        have hob8 := E8 _ _ hob7
        have hl8 := E8 _ _ hl7
        have hL88 := E8 _ _ hL8
        -- the parent
        refine ⟨_, rfl, x, dx6, _, rfl, hob8, nn "parent" (by decide +kernel) (by decide +kernel) (by decide +kernel), _, rfl, x, pp, rr, cc, segs, (i : Int), rfl, hT8, fun m z em hz => ?_, fun z => absurd ⟨by omega, by omega⟩ z⟩
        have hmi : m = i := by omega
        subst hmi
        refine ⟨_, rfl, (by show 1 ≤ sizeLine; decide), fun m1 nm1 => ?_⟩
        have E9 : Ex H8 (upd H8 m1 (.lst [.int (-1)])) := Ex.new nm1
        have g9 : upd H8 m1 (.lst [.int (-1)]) m1 = some (.lst [.int (-1)]) := upd_same
        generalize upd H8 m1 (.lst [.int (-1)]) = H9 at *
        refine ⟨_, rfl, l, rfl, ⟨_, SqL.of (E9 _ _ hl8)⟩, fun L nL => wk_list (K := K) (a := l) (xs := as.map V.ref) (fun j H' => Ex H9 H' ∧ H' L = some (.lst (((segs.take j).map (·.above)).map V.int))) ⟨Ex.new nL, upd_same⟩ (fun j H' _ z => SqL.of (z.1 _ _ (E9 _ _ hl8))) ?_ ?_⟩
        · rintro j y H10 hy ⟨E10, hL⟩
          obtain ⟨b, hb, rfl⟩ := refs_get hy
          obtain ⟨sg, hsg, ra, ca, s1, s2, s3⟩ := hA7.at_ hb
          have hj : j < segs.length := (List.getElem?_eq_some_iff.mp hsg).1
          have e := E8.trans (E9.trans E10)
          refine ⟨rfl, tYes_in ?_⟩
          simp only [wipe, _root_.L2.start, List.map_cons, List.map_nil, List.length_cons, List.length_nil, Nat.reduceAdd, Nat.reduceSub, List.replicate_succ, List.replicate_zero, List.cons_append, List.nil_append, List.set_cons_zero, List.set_cons_succ]
          refine ⟨_, rfl, _, _, _, _, rfl, rfl, SqT.of (e _ _ s1), atI_nat (j := 0) rfl, _, hL, sz_lt (by rw [List.length_map, List.length_map, List.length_take]; omega), E10.mut nL, ?_⟩
          rw [upd_same, take_snoc1 hsg, List.map_append, List.map_append]; rfl
        rintro H10 ⟨E10, hL⟩
        rw [List.length_map, lA, List.take_length] at hL
        refine ⟨m1, L, _, _, rfl, rfl, E10 _ _ g9, hL, sz_of (by simp only [List.length_map, List.length_cons, List.length_nil]; omega), fun pl npl => ?_⟩
        have E11 : Ex H10 (upd H10 pl (.lst ([.int (-1)] ++ (segs.map (·.above)).map V.int))) := Ex.new npl
        have hpl : upd H10 pl (.lst ([.int (-1)] ++ (segs.map (·.above)).map V.int)) pl = some (.lst ((parL segs).map V.int)) := upd_same
        generalize upd H10 pl (.lst ([.int (-1)] ++ (segs.map (·.above)).map V.int)) = H11 at *
        refine ⟨_, rfl, _, _, _, _, rfl, rfl, SqL.of hpl, atI_nat (j := m) (by rw [List.getElem?_map, hz]; rfl), _, _, .int z, rfl, .int _, .int _, trivial, _, rfl, iteF ?_⟩
        have e8b := E9.trans (E10.trans E11)
        have e7b := E8.trans e8b
        -- below
        refine ⟨_, rfl, _, _, rfl, rfl, _, rfl, by omega, by omega, fun L9 nL9 => lc_range (lo := 0) (n := ((segs.length : Int) + 1).toNat) (fun j H' => Ex H11 H' ∧ H' L9 = some (.lst (natsV ((List.range j).filter (isIn segs m))))) ⟨Ex.new nL9, upd_same⟩ ?_ ?_⟩
        · rintro j H12 hj ⟨E12, hL9⟩
          obtain ⟨b, hb1, hb2⟩ := hqs7 j (by omega)
          have e := e7b.trans E12
          refine ⟨rfl, ?_⟩
          simp only [wipe, _root_.L2.start, List.map_cons, List.map_nil, List.length_cons, List.length_nil, Nat.reduceAdd, Nat.reduceSub, List.replicate_succ, List.replicate_zero, List.cons_append, List.nil_append, List.set_cons_zero, List.set_cons_succ]
          refine ⟨_, rfl, _, rfl, _, rfl, _, _, _, _, rfl, rfl, SqL.of (e _ _ hL8), at_of (j := j) (by omega) hb1, b, _, rfl, .inl (SqL.of (e _ _ hb2)), rfl, flat_map (fun _ => rfl) _, _, rfl, ?_⟩
          rw [if_neg Bool.false_ne_true, inV_nats]
          have hd : decide (m ∈ (anc segs j).reverse) = isIn segs m j := by unfold isIn; rw [decide_eq_decide]; exact List.mem_reverse
          rw [hd]
          have hfl : ((List.range j).filter (isIn segs m)).length ≤ 200 := by
            have := List.length_filter_le (isIn segs m) (List.range j)
            rw [List.length_range] at this; omega
          cases hin : isIn segs m j with
          | true =>
            refine iteT ⟨_, rfl, _, hL9, sz_lt (by unfold natsV; rw [List.length_map]; omega), E12.mut nL9, ?_⟩
            rw [upd_same, List.range_succ, List.filter_append, List.filter_cons, if_pos hin]
            unfold natsV
            rw [List.map_append, Int.zero_add]; rfl
          | false =>
            refine iteF ⟨E12, ?_⟩
            rw [hL9, List.range_succ, List.filter_append, List.filter_cons, if_neg (by rw [hin]; decide), List.filter_nil, List.append_nil]
        rintro H12 ⟨E12, hL9⟩
        rw [enn] at hL9
        have e7c := e7b.trans E12
        obtain ⟨b, hb1, hb2⟩ := hqs7 m hil
        refine ⟨_, rfl, x, dx6, _, rfl, e7c _ _ hob7, nn "path" (by decide +kernel) (by decide +kernel) (by decide +kernel), _, rfl, x, pp, rr, cc, segs, (m : Int), rfl, hT7.ex e7c, hPar, hsl, fun m' em hm' lq H13 E13 nq hq => ?_, fun z => absurd ⟨by omega, by omega⟩ z⟩
        have : m' = m := by omega
        subst this
        have e7d := e7c.trans E13
        have hal : (anc segs m').reverse.length ≤ 1000 := by rw [List.length_reverse]; have := anc_len hPar m' hil; omega
        have hbl : (belowL segs m').length ≤ 1000 := by
          have := List.length_filter_le (isIn segs m') (List.range (segs.length + 1))
          rw [List.length_range] at this
          unfold belowL; omega
        refine ⟨_, rfl, _, rfl, _, _, _, _, rfl, rfl, SqL.of (e7d _ _ hL8), atI_nat (j := m') hb1, _, _, _, rfl, rep_nats hq, rep_nats (e7d _ _ hb2), okD_nats hal, _, rfl, iteF ⟨_, rfl, x, dx6, _, rfl, e7d _ _ hob7, nn "below" (by decide +kernel) (by decide +kernel) (by decide +kernel), _, rfl, x, pp, rr, cc, segs, (m' : Int), rfl, hT7.ex e7d, hPar, hsl, fun m2 em2 hm2 lb H14 E14 nb hb => ?_, fun z => absurd ⟨by omega, by omega⟩ z⟩⟩
        have : m2 = m' := by omega
        subst this
        exact ⟨_, rfl, _, _, _, rfl, rep_nats hb, rep_nats (E14 _ _ (E13 _ _ hL9)), okD_nats hbl, _, rfl, iteF ⟨e7d.trans E14, _, _, rfl⟩⟩
      · rintro σ H8 ⟨E8, y7, y9, rfl⟩
        have X08 := X07.more E8
        have hT8 := hT7.ex E8
        have hl8 := E8 _ _ hl7
        have hA8 := hA7.imp fun _ _ z => z.ex E8
        have hl8p : hid p H8 l = some (.lst (as.map V.ref)) := by rw [hid_ne hlp]; exact hl8
        have hTh : TreeAt C (hid p H8) x pp rr cc segs := by
          obtain ⟨_, _, _, _, _, ep, _⟩ := X08.pool
          obtain ⟨⟨dx8, o1⟩, o2, ⟨rl, o3, o4⟩, ⟨cl, o5, o6⟩⟩ := hT8
          exact ⟨⟨dx8, by rw [hid_ne (ne_of o1 ep (by intro z; cases z))]; exact o1⟩, by rw [hid_ne j1]; exact o2, ⟨rl, by rw [hid_ne j2]; exact o3, o4.imp fun b _ z => by show hid p H8 b = _; rw [hid_ne (ne_of z ep (by intro y; cases y))]; exact z⟩, ⟨cl, by rw [hid_ne j3]; exact o5, o6.imp fun b _ z => by show hid p H8 b = _; rw [hid_ne (ne_of z ep (by intro y; cases y))]; exact z⟩⟩
        -- nodes that are not there
        refine ⟨fun σ H' => Px p a H8 H' ∧ σ = [some (.ref sa), some (.ref p), some (.int (0 + (turn : Int))), some (.ref l), some (.int (segs.length : Int)), some (.ref gv), some (.ref x), y7, some (.ref L8), y9, x10, x11, x12, x13, none, none], ?_, ?_⟩
        · refine ⟨_, rfl, _, rfl, _, _, rfl, rfl, _, rfl, p, a, 5, rfl, by decide, by decide, X08.pool, fun v1 H9 hv1 X9 _ => ⟨_, _, rfl, rfl, x, pp, rr, cc, segs, _, rfl, (hTh.ex X9.ex).ex hid_ex, hPar, hsl, by omega, fun H10 E10 => ⟨_, rfl, iteF ?_⟩⟩⟩
          have X10 := X9.more E10
          refine ⟨_, rfl, _, rfl, _, rfl, p, a, 5, rfl, by decide, by decide, X10.pool, fun v2 H11 hv2 X11 _ => ⟨_, _, rfl, rfl, x, pp, rr, cc, segs, _, rfl, (hTh.ex (X10.trans X11).ex).ex hid_ex, hPar, hsl, by omega, fun H12 E12 => ⟨_, rfl, iteF ⟨(X10.trans X11).more E12, rfl⟩⟩⟩⟩
        · rintro σ H9 ⟨X9, rfl⟩
          refine ⟨_, rfl, _, rfl, _, _, rfl, rfl, p, a, (segs.length : Int) + 1, rfl, by omega, by omega, X9.pool, fun at_ H10 hat X10 _ => ?_⟩
          have X810 := X9.trans X10
          -- the parent
          dsimp only [gName, tSeq, tAsg]
          refine tif_by (tt := tOp _ _ _) (fun z H' => Px p a H8 H' ∧ ∃ pv : Int, z = .int pv ∧ (pv < 0 ∨ pv > (at_ : Int))) (fun Q' k => ?_) ?_
          · refine ⟨_, rfl, _, rfl, p, a, 3, rfl, by decide, by decide, X810.pool, fun d1 H11 hd1 X11 _ => ⟨_, _, rfl, rfl, _, rfl, _, _, rfl, rfl, _, rfl, p, a, 3, rfl, by decide, by decide, X11.pool, fun d2 H12 hd2 X12 _ => ⟨_, _, rfl, rfl, (by show 2 ≤ sizeLine; decide), fun m nm => ⟨_, rfl, p, a, 2, rfl, by decide, by decide, (X12.new nm).pool, fun v H13 hv X13 kp => ?_⟩⟩⟩⟩
            have hm : H13 m = some (.lst [.int (-1 - (d1 : Int)), .int ((at_ : Int) + 1 + d2)]) := by rw [kp _ (X12.pool.ne nm)]; exact upd_same
            have XX := X810.trans (X11.trans ((X12.new nm).trans X13))
            obtain rfl | rfl : v = 0 ∨ v = 1 := by omega
            · exact ⟨_, _, _, _, rfl, rfl, SqL.of hm, at_of (j := 0) rfl rfl, k _ _ ⟨XX, _, rfl, by omega⟩⟩
            · exact ⟨_, _, _, _, rfl, rfl, SqL.of hm, at_of (j := 1) rfl rfl, k _ _ ⟨XX, _, rfl, by omega⟩⟩
          rintro _ H11 ⟨X11, pv, rfl, hpv⟩
          -- the pair
          refine tif_by (tt := tOp _ _ _) (fun z H' => Px p a H8 H' ∧ ∃ (t : Addr) (bad : Int × Int), z = .ref t ∧ PrAt H' t bad ∧ ¬ okQ bad) (fun Q' k => ?_) ?_
          · refine ⟨_, rfl, (by show 2 ≤ sizeLine; decide), fun t1 n1 => ⟨(by show 2 ≤ sizeLine; decide), fun t2 n2 => ⟨(by show 2 ≤ sizeLine; decide), fun m nm => ⟨_, rfl, p, a, 2, rfl, by decide, by decide, (((X11.new n1).new n2).new nm).pool, fun v H13 hv X13 kp => ?_⟩⟩⟩⟩
            have XX := ((((X11.new n1).new n2).new nm)).trans X13
            have hm : H13 m = some (.lst [.ref t1, .ref t2]) := by rw [kp _ (((X11.new n1).new n2).pool.ne nm)]; exact upd_same
            have g1 : H13 t1 = some (.tup [.int (-1), .int 3]) := px_tup X13 _ _ (Ex.new nm _ _ (Ex.new n2 _ _ upd_same))
            have g2 : H13 t2 = some (.tup [.int 4, .int 3]) := px_tup X13 _ _ (Ex.new nm _ _ upd_same)
            obtain rfl | rfl : v = 0 ∨ v = 1 := by omega
            · exact ⟨_, _, _, _, rfl, rfl, SqL.of hm, at_of (j := 0) rfl rfl, k _ _ ⟨XX, t1, (-1, 3), rfl, g1, fun z => absurd z.1 (by decide)⟩⟩
            · exact ⟨_, _, _, _, rfl, rfl, SqL.of hm, at_of (j := 1) rfl rfl, k _ _ ⟨XX, t2, (4, 3), rfl, g2, fun z => absurd z.2 (by decide)⟩⟩
          rintro _ H12 ⟨X12, pt, bad, rfl, hpt, hbad⟩
          -- two rows with it
          refine ⟨_, rfl, (by show 2 ≤ sizeLine; decide), fun t1 n1 => ⟨(by show 3 ≤ sizeLine; decide), fun r1 m1 => ⟨(by show 2 ≤ sizeLine; decide), fun t2 n2 => ⟨_, rfl, (by show 3 ≤ sizeLine; decide), fun r2 m2 => ⟨(by show 2 ≤ sizeLine; decide), fun RL nRL => ?_⟩⟩⟩⟩⟩
          have e1 : Ex H12 (upd H12 t1 (.tup [.int 0, .int 0])) := Ex.new n1
          have g1 : upd H12 t1 (.tup [.int 0, .int 0]) t1 = some (.tup [.int 0, .int 0]) := upd_same
          generalize upd H12 t1 (.tup [.int 0, .int 0]) = J1 at *
          have e2 : Ex J1 (upd J1 r1 (.tup [.int 0, .ref pt, .ref t1])) := Ex.new m1
          have g2 : upd J1 r1 (.tup [.int 0, .ref pt, .ref t1]) r1 = some (.tup [.int 0, .ref pt, .ref t1]) := upd_same
          generalize upd J1 r1 (.tup [.int 0, .ref pt, .ref t1]) = J2 at *
          have e3 : Ex J2 (upd J2 t2 (.tup [.int 0, .int 0])) := Ex.new n2
          have g3 : upd J2 t2 (.tup [.int 0, .int 0]) t2 = some (.tup [.int 0, .int 0]) := upd_same
          generalize upd J2 t2 (.tup [.int 0, .int 0]) = J3 at *
          have e4 : Ex J3 (upd J3 r2 (.tup [.int 0, .ref t2, .ref pt])) := Ex.new m2
          have g4 : upd J3 r2 (.tup [.int 0, .ref t2, .ref pt]) r2 = some (.tup [.int 0, .ref t2, .ref pt]) := upd_same
          generalize upd J3 r2 (.tup [.int 0, .ref t2, .ref pt]) = J4 at *
          have nRLp : RL ≠ p := ((((X12.more e1).more e2).more e3).more e4).pool.ne nRL
          have e5 : Ex J4 (upd J4 RL (.lst [.ref r1, .ref r2])) := Ex.new nRL
          have g5 : upd J4 RL (.lst [.ref r1, .ref r2]) RL = some (.lst [.ref r1, .ref r2]) := upd_same
          generalize upd J4 RL (.lst [.ref r1, .ref r2]) = J5 at *
          have e05 := e1.trans (e2.trans (e3.trans (e4.trans e5)))
          have sg1 : SegAt J5 r1 ⟨0, bad, (0, 0)⟩ := ⟨pt, t1, (e3.trans (e4.trans e5)) _ _ g2, e05 _ _ hpt, (e2.trans (e3.trans (e4.trans e5))) _ _ g1⟩
          have sg2 : SegAt J5 r2 ⟨0, (0, 0), bad⟩ := ⟨t2, pt, e5 _ _ g4, (e4.trans e5) _ _ g3, e05 _ _ hpt⟩
          have X85 := X12.more e05
          have hatl : at_ ≤ segs.length := by omega
          have hata : at_ ≤ as.length := by omega
          have hl5 := X85.at_ hl8p
          have hA5 : All2 (SegAt J5) as segs := hA8.imp fun _ _ z => z.te (px_tup X85)
          have hm2 : at_ ≤ (as.map V.ref).length := by rw [List.length_map]; exact hata
          -- the wrong parent
          refine ⟨_, rfl, _, rfl, _, rfl, l, _, rfl, SqL.of hl5, fun c1 nc1 => ?_⟩
          rw [cutV_head hm2, ← List.map_take]
          have f1 : Ex J5 (upd J5 c1 (.lst ((as.take at_).map V.ref))) := Ex.new nc1
          have d1 : upd J5 c1 (.lst ((as.take at_).map V.ref)) c1 = some (.lst ((as.take at_).map V.ref)) := upd_same
          generalize upd J5 c1 (.lst ((as.take at_).map V.ref)) = I1 at *
          refine ⟨_, rfl, (by show 2 ≤ sizeLine; decide), fun u1 nu1 => ⟨(by show 2 ≤ sizeLine; decide), fun u2 nu2 => ⟨(by show 3 ≤ sizeLine; decide), fun u3 nu3 => ⟨(by show 1 ≤ sizeLine; decide), fun c2 nc2 => ?_⟩⟩⟩⟩
          have f2 : Ex I1 (upd I1 u1 (.tup [.int 0, .int 1])) := Ex.new nu1
          have d2 : upd I1 u1 (.tup [.int 0, .int 1]) u1 = some (.tup [.int 0, .int 1]) := upd_same
          generalize upd I1 u1 (.tup [.int 0, .int 1]) = I2 at *
          have f3 : Ex I2 (upd I2 u2 (.tup [.int 0, .int 1])) := Ex.new nu2
          have d3 : upd I2 u2 (.tup [.int 0, .int 1]) u2 = some (.tup [.int 0, .int 1]) := upd_same
          generalize upd I2 u2 (.tup [.int 0, .int 1]) = I3 at *
          have f4 : Ex I3 (upd I3 u3 (.tup [.int pv, .ref u1, .ref u2])) := Ex.new nu3
          have d4 : upd I3 u3 (.tup [.int pv, .ref u1, .ref u2]) u3 = some (.tup [.int pv, .ref u1, .ref u2]) := upd_same
          generalize upd I3 u3 (.tup [.int pv, .ref u1, .ref u2]) = I4 at *
          have f5 : Ex I4 (upd I4 c2 (.lst [.ref u3])) := Ex.new nc2
          have d5 : upd I4 c2 (.lst [.ref u3]) c2 = some (.lst [.ref u3]) := upd_same
          generalize upd I4 c2 (.lst [.ref u3]) = I5 at *
          have f15 := f2.trans (f3.trans (f4.trans f5))
          refine ⟨c1, c2, _, _, rfl, rfl, f15 _ _ d1, d5, sz_of (by simp only [List.length_map, List.length_take, List.length_cons, List.length_nil]; omega), fun c3 nc3 => ?_⟩
          have f6 : Ex I5 (upd I5 c3 (.lst ((as.take at_).map V.ref ++ [.ref u3]))) := Ex.new nc3
          have d6 : upd I5 c3 (.lst ((as.take at_).map V.ref ++ [.ref u3])) c3 = some (.lst ((as.take at_).map V.ref ++ [.ref u3])) := upd_same
          generalize upd I5 c3 (.lst ((as.take at_).map V.ref ++ [.ref u3])) = I6 at *
          have f06 := f1.trans (f15.trans f6)
          refine ⟨_, rfl, _, rfl, _, rfl, l, _, rfl, SqL.of (f06 _ _ hl5), fun c4 nc4 => ?_⟩
          rw [cutV_tail hm2, ← List.map_drop]
          have f7 : Ex I6 (upd I6 c4 (.lst ((as.drop at_).map V.ref))) := Ex.new nc4
          have d7 : upd I6 c4 (.lst ((as.drop at_).map V.ref)) c4 = some (.lst ((as.drop at_).map V.ref)) := upd_same
          generalize upd I6 c4 (.lst ((as.drop at_).map V.ref)) = I7 at *
          refine ⟨c3, c4, _, _, rfl, rfl, f7 _ _ d6, d7, sz_of (by simp only [List.length_append, List.length_map, List.length_take, List.length_drop, List.length_cons, List.length_nil]; omega), fun c5 nc5 => ?_⟩
          have f8 : Ex I7 (upd I7 c5 (.lst (((as.take at_).map V.ref ++ [.ref u3]) ++ (as.drop at_).map V.ref))) := Ex.new nc5
          have d8 : upd I7 c5 (.lst (((as.take at_).map V.ref ++ [.ref u3]) ++ (as.drop at_).map V.ref)) c5 = some (.lst ((as.take at_ ++ [u3] ++ as.drop at_).map V.ref)) := by rw [upd_same, List.map_append, List.map_append]; rfl
          generalize upd I7 c5 (.lst (((as.take at_).map V.ref ++ [.ref u3]) ++ (as.drop at_).map V.ref)) = I8 at *
          have f08 := f06.trans (f7.trans f8)
          have f68 := f6.trans (f7.trans f8)
          have hnew : SegAt I8 u3 ⟨pv, (0, 1), (0, 1)⟩ := ⟨u1, u2, (f5.trans f68) _ _ d4, (f3.trans (f4.trans (f5.trans f68))) _ _ d2, (f4.trans (f5.trans f68)) _ _ d3⟩
          have hlen1 : (segs.take at_ ++ [(⟨pv, (0, 1), (0, 1)⟩ : SegD)] ++ segs.drop at_).length ≤ 100 := by simp only [List.length_append, List.length_take, List.length_drop, List.length_cons, List.length_nil]; omega
          have hbad1 : ¬ ParOk (segs.take at_ ++ [(⟨pv, (0, 1), (0, 1)⟩ : SegD)] ++ segs.drop at_) := fun z => by
            have := z at_ _ (ins_at hatl)
            have h1 : 0 ≤ pv ∧ pv ≤ (at_ : Int) := this
            omega
          refine ⟨c5, _, _, rfl, d8, all2_ins (hA5.imp fun _ _ z => z.ex f08) hnew, hlen1, fun z _ => absurd z hbad1, fun _ q1 I9 E9 hq1 => ?_, fun z => absurd z hbad1⟩
          refine ⟨(by show 2 ≤ sizeLine; decide), fun m3 nm3 => ⟨.list [.bool true, .bool false], .list [.bool true, .bool false], .lst (SqL.of (Ex.new nm3 _ _ hq1)) (.cons (.bl _) (.cons (.bl _) .nil)), .lst (SqL.of upd_same) (.cons (.bl _) (.cons (.bl _) .nil)), by decide +kernel, by decide +kernel, _, rfl, it0 (by decide +kernel) ?_⟩⟩
          have f09 := f08.trans (E9.trans (Ex.new (o := .lst [.bl true, .bl false]) nm3))
          generalize upd I9 m3 (.lst [.bl true, .bl false]) = K1 at *
          clear f1 f2 f3 f4 f5 f6 f7 f8 f15 f06 f08 f68 d1 d2 d3 d4 d5 d6 d7 d8 hnew
          have X1k := X85.more f09
          have hl1 := f09 _ _ hl5
          -- a wrong range
          refine ⟨_, rfl, _, rfl, _, rfl, l, _, rfl, SqL.of hl1, fun c1 nc1 => ?_⟩
          rw [cutV_head hm2, ← List.map_take]
          have f1 : Ex K1 (upd K1 c1 (.lst ((as.take at_).map V.ref))) := Ex.new nc1
          have d1 : upd K1 c1 (.lst ((as.take at_).map V.ref)) c1 = some (.lst ((as.take at_).map V.ref)) := upd_same
          generalize upd K1 c1 (.lst ((as.take at_).map V.ref)) = I1 at *
          refine ⟨_, rfl, _, rfl, p, a, 2, rfl, by decide, by decide, (X1k.more f1).pool, fun v I2 hv X2 kp2 => ?_⟩
          have hRLp5 : hid p J5 RL = some (.lst [.ref r1, .ref r2]) := by rw [hid_ne nRLp]; exact g5
          have Y2 : Px p a J5 I2 := ((Px.ofEx X85.pool (f09.trans f1))).trans X2
          obtain ⟨rv, bs, hrv, hbs, hbs2⟩ : ∃ (rv : Addr) (bs : SegD), ([.ref r1, .ref r2] : List V)[v]? = some (.ref rv) ∧ SegAt J5 rv bs ∧ (bs.above = 0 ∧ ¬ (okQ bs.res ∧ okQ bs.cap)) := by
            obtain rfl | rfl : v = 0 ∨ v = 1 := by omega
            · exact ⟨r1, _, rfl, sg1, rfl, fun z => hbad z.1⟩
            · exact ⟨r2, _, rfl, sg2, rfl, fun z => hbad z.2⟩
          refine ⟨_, _, _, _, rfl, rfl, SqL.of (Y2.at_ hRLp5), atI_nat hrv, (by show 1 ≤ sizeLine; decide), fun c2 nc2 => ?_⟩
          have hc1p : c1 ≠ p := X1k.pool.ne nc1
          have d1' : I2 c1 = some (.lst ((as.take at_).map V.ref)) := by rw [kp2 _ hc1p]; exact d1
          have f5 : Ex I2 (upd I2 c2 (.lst [.ref rv])) := Ex.new nc2
          have d5 : upd I2 c2 (.lst [.ref rv]) c2 = some (.lst [.ref rv]) := upd_same
          generalize upd I2 c2 (.lst [.ref rv]) = I5 at *
          refine ⟨c1, c2, _, _, rfl, rfl, f5 _ _ d1', d5, sz_of (by simp only [List.length_map, List.length_take, List.length_cons, List.length_nil]; omega), fun c3 nc3 => ?_⟩
          have f6 : Ex I5 (upd I5 c3 (.lst ((as.take at_).map V.ref ++ [.ref rv]))) := Ex.new nc3
          have d6 : upd I5 c3 (.lst ((as.take at_).map V.ref ++ [.ref rv])) c3 = some (.lst ((as.take at_).map V.ref ++ [.ref rv])) := upd_same
          generalize upd I5 c3 (.lst ((as.take at_).map V.ref ++ [.ref rv])) = I6 at *
          have Y6 := (Y2.more f5).more f6
          have hl5p : hid p J5 l = some (.lst (as.map V.ref)) := by rw [hid_ne hlp]; exact hl5
          refine ⟨_, rfl, _, rfl, _, rfl, l, _, rfl, SqL.of (Y6.at_ hl5p), fun c4 nc4 => ?_⟩
          rw [cutV_tail hm2, ← List.map_drop]
          have f7 : Ex I6 (upd I6 c4 (.lst ((as.drop at_).map V.ref))) := Ex.new nc4
          have d7 : upd I6 c4 (.lst ((as.drop at_).map V.ref)) c4 = some (.lst ((as.drop at_).map V.ref)) := upd_same
          generalize upd I6 c4 (.lst ((as.drop at_).map V.ref)) = I7 at *
          refine ⟨c3, c4, _, _, rfl, rfl, f7 _ _ d6, d7, sz_of (by simp only [List.length_append, List.length_map, List.length_take, List.length_drop, List.length_cons, List.length_nil]; omega), fun c5 nc5 => ?_⟩
          have f8 : Ex I7 (upd I7 c5 (.lst (((as.take at_).map V.ref ++ [.ref rv]) ++ (as.drop at_).map V.ref))) := Ex.new nc5
          have d8 : upd I7 c5 (.lst (((as.take at_).map V.ref ++ [.ref rv]) ++ (as.drop at_).map V.ref)) c5 = some (.lst ((as.take at_ ++ [rv] ++ as.drop at_).map V.ref)) := by rw [upd_same, List.map_append, List.map_append]; rfl
          generalize upd I7 c5 (.lst (((as.take at_).map V.ref ++ [.ref rv]) ++ (as.drop at_).map V.ref)) = I8 at *
          have Y8 := (Y6.more f7).more f8
          have hpar2 : ParOk (segs.take at_ ++ [bs] ++ segs.drop at_) := ins_par hatl hPar ⟨by rw [hbs2.1]; decide, by rw [hbs2.1]; omega⟩
          have hbad2 : ¬ RngS (segs.take at_ ++ [bs] ++ segs.drop at_) := fun z => hbs2.2 (z bs (List.mem_append.mpr (.inl (List.mem_append.mpr (.inr (List.mem_singleton.mpr rfl))))))
          refine ⟨c5, _, _, rfl, d8, all2_ins (hA5.imp fun _ _ z => z.te (px_tup Y8)) (hbs.te (px_tup Y8)), by simp only [List.length_append, List.length_take, List.length_drop, List.length_cons, List.length_nil]; omega, fun _ z => absurd z hbad2, fun z => absurd hpar2 z, fun _ _ q1 I9 E9 hq1 => ?_⟩
          refine ⟨(by show 2 ≤ sizeLine; decide), fun m3 nm3 => ⟨.list [.bool false, .bool true], .list [.bool false, .bool true], .lst (SqL.of (Ex.new nm3 _ _ hq1)) (.cons (.bl _) (.cons (.bl _) .nil)), .lst (SqL.of upd_same) (.cons (.bl _) (.cons (.bl _) .nil)), by decide +kernel, by decide +kernel, _, rfl, it0 (by decide +kernel) ?_⟩⟩
          have Y9 : Px p a J5 (upd I9 m3 (.lst [.bl false, .bl true])) := Y8.more (E9.trans (Ex.new nm3))
          generalize upd I9 m3 (.lst [.bl false, .bl true]) = K2 at *
          -- both, the parent behind
          refine ⟨_, rfl, _, rfl, p, a, 2, rfl, by decide, by decide, Y9.pool, fun v I1 hv X1 _ => ?_⟩
          have Z1 := Y9.trans X1
          obtain ⟨rv, bs, hrv, hbs⟩ : ∃ (rv : Addr) (bs : SegD), ([.ref r1, .ref r2] : List V)[v]? = some (.ref rv) ∧ SegAt J5 rv bs := by
            obtain rfl | rfl : v = 0 ∨ v = 1 := by omega
            · exact ⟨r1, _, rfl, sg1⟩
            · exact ⟨r2, _, rfl, sg2⟩
          refine ⟨_, _, _, _, rfl, rfl, SqL.of (Z1.at_ hRLp5), atI_nat hrv, (by show 1 ≤ sizeLine; decide), fun c2 nc2 => ?_⟩
          have f5 : Ex I1 (upd I1 c2 (.lst [.ref rv])) := Ex.new nc2
          have d5 : upd I1 c2 (.lst [.ref rv]) c2 = some (.lst [.ref rv]) := upd_same
          generalize upd I1 c2 (.lst [.ref rv]) = I5 at *
          have Z5 := Z1.more f5
          refine ⟨_, rfl, c2, l, _, _, rfl, rfl, d5, Z5.at_ hl5p, sz_of (by simp only [List.length_map, List.length_cons, List.length_nil]; omega), fun c3 nc3 => ?_⟩
          have f6 : Ex I5 (upd I5 c3 (.lst ([.ref rv] ++ as.map V.ref))) := Ex.new nc3
          have d6 : upd I5 c3 (.lst ([.ref rv] ++ as.map V.ref)) c3 = some (.lst ([.ref rv] ++ as.map V.ref)) := upd_same
          generalize upd I5 c3 (.lst ([.ref rv] ++ as.map V.ref)) = I6 at *
          have Z6 := Z5.more f6
          refine ⟨_, rfl, _, _, rfl, rfl, _, rfl, _, rfl, (by show 3 ≤ sizeLine; decide), fun u3 nu3 => ⟨(by show 1 ≤ sizeLine; decide), fun c4 nc4 => ?_⟩⟩
          have f7 : Ex I6 (upd I6 u3 (.tup [.int ((segs.length : Int) + 2), .ref pt, .ref pt])) := Ex.new nu3
          have d7 : upd I6 u3 (.tup [.int ((segs.length : Int) + 2), .ref pt, .ref pt]) u3 = some (.tup [.int ((segs.length : Int) + 2), .ref pt, .ref pt]) := upd_same
          generalize upd I6 u3 (.tup [.int ((segs.length : Int) + 2), .ref pt, .ref pt]) = I7 at *
          have f8 : Ex I7 (upd I7 c4 (.lst [.ref u3])) := Ex.new nc4
          have d8 : upd I7 c4 (.lst [.ref u3]) c4 = some (.lst [.ref u3]) := upd_same
          generalize upd I7 c4 (.lst [.ref u3]) = I8 at *
          have f68 := f7.trans f8
          refine ⟨c3, c4, _, _, rfl, rfl, f68 _ _ d6, d8, sz_of (by simp only [List.length_append, List.length_map, List.length_cons, List.length_nil]; omega), fun c5 nc5 => ?_⟩
          have f9 : Ex I8 (upd I8 c5 (.lst (([.ref rv] ++ as.map V.ref) ++ [.ref u3]))) := Ex.new nc5
          have d9 : upd I8 c5 (.lst (([.ref rv] ++ as.map V.ref) ++ [.ref u3])) c5 = some (.lst (([rv] ++ as ++ [u3]).map V.ref)) := by rw [upd_same, List.map_append, List.map_append]; rfl
          generalize upd I8 c5 (.lst (([.ref rv] ++ as.map V.ref) ++ [.ref u3])) = I9 at *
          have Z9 := Z6.more (f68.trans f9)
          have hpt9 : PrAt I9 pt bad := px_tup Z9 _ _ (e05 _ _ hpt)
          have hu3 : SegAt I9 u3 ⟨(segs.length : Int) + 2, bad, bad⟩ := ⟨pt, pt, (f8.trans f9) _ _ d7, hpt9, hpt9⟩
          have hbad3 : ¬ ParOk ([bs] ++ segs ++ [(⟨(segs.length : Int) + 2, bad, bad⟩ : SegD)]) := fun z => by
            have := z (segs.length + 1) ⟨(segs.length : Int) + 2, bad, bad⟩ (by rw [List.getElem?_append_right (by rw [List.length_append]; show 1 + _ ≤ _; omega), List.length_append]; show [_][_ - (1 + _)]? = _; rw [show segs.length + 1 - (1 + segs.length) = 0 by omega]; rfl)
            have h1 : (segs.length : Int) + 2 ≤ ((segs.length + 1 : Nat) : Int) := this.2
            omega
          refine ⟨c5, _, _, rfl, d9, all2_app (all2_app (.cons (hbs.te (px_tup Z9)) .nil) (hA5.imp fun _ _ z => z.te (px_tup Z9))) (.cons hu3 .nil), by simp only [List.length_append, List.length_cons, List.length_nil]; omega, fun z _ => absurd z hbad3, fun _ q1 I10 E10 hq1 => ?_, fun z => absurd z hbad3⟩
          refine ⟨(by show 2 ≤ sizeLine; decide), fun m3 nm3 => ⟨.list [.bool true, .bool false], .list [.bool true, .bool false], .lst (SqL.of (Ex.new nm3 _ _ hq1)) (.cons (.bl _) (.cons (.bl _) .nil)), .lst (SqL.of upd_same) (.cons (.bl _) (.cons (.bl _) .nil)), by decide +kernel, by decide +kernel, _, rfl, it0 (by decide +kernel) ?_⟩⟩
          exact ⟨((X08.trans X85).trans Z9).more (E10.trans (Ex.new nm3)), _, _, _, _, _, _, _, _, _, _, _, _, rfl⟩
    · rintro σ H1 ⟨X1, x2, x3, x4, x5, x6, x7, x8, x9, x10, x11, x12, x13, rfl⟩
      exact q H1
end
end G
namespace G
open PySem PySem.Spec PyProof.Rows L2
/-- the defs and the built-in names as the top has left them -/
structure All (K : PySem.W.Frag) (mg : Str → Option Value) : Prop where
  d_law_pool : Dfd K mg "_law_pool" s_law_pool ["script"]
  d_law_spread : Dfd K mg "_law_spread" s_law_spread ["cell"]
  d_law_draw : Dfd K mg "_law_draw" s_law_draw ["pool", "many"]
  d_law_same : Dfd K mg "_law_same" s_law_same ["actual", "due"]
  d_law_segments : Dfd K mg "_law_segments" s_law_segments ["pool", "most"]
  d_law_path : Dfd K mg "_law_path" s_law_path ["segments", "node"]
  d_law_refused : Dfd K mg "_law_refused" s_law_refused ["segments"]
  d_law_away : Dfd K mg "_law_away" s_law_away ["tree", "node"]
  z_tuple : mg "tuple" = none
  z_list : mg "list" = none
  z_enumerate : mg "enumerate" = none
  z_len : mg "len" = none
  z_range : mg "range" = none
  z_sum : mg "sum" = none
  z_int : mg "int" = none
  z_isinstance : mg "isinstance" = none
  z_bool : mg "bool" = none
  z_str : mg "str" = none
  z_ValueError : mg "ValueError" = none
  k_WireTree : ∃ C : Addr, Cl_WireTree K mg C
  i_BadArgument : ∃ C : Addr, ExcI K mg "BadArgument" C ∧ IsK K mg C "BadArgument" true ∧ IsK K mg C "BadRange" false ∧ CatchK K mg C "SignoffError"
  i_BadRange : ∃ C : Addr, ExcI K mg "BadRange" C ∧ IsK K mg C "BadArgument" false ∧ IsK K mg C "BadRange" true ∧ CatchK K mg C "SignoffError"
end G
namespace G
open PySem PySem.Spec PyProof.Rows L2
theorem glue {P : Program} {w : World} {K : PySem.W.Frag} {mg : Str → Option Value} {base : Heap} (A : All K mg) {f : Addr} {fd : FuncData} (F : Fun K "law" "law" s_law f fd) : FnOk P w K mg base CX0 4 f fd ["script"] (spLaw K) := by
  have TL : TxtL mg := ⟨A.z_int, A.z_len, A.z_list, A.z_range⟩
  have TS : TxtS mg := ⟨A.z_isinstance, A.z_tuple, A.z_list, A.z_len, A.z_range, A.z_bool, A.z_int, A.z_str⟩
  have TT : TxtT mg := ⟨A.z_len, A.z_list, A.z_tuple, A.z_range, A.z_enumerate⟩
  obtain ⟨Bc, UB, b1, b2, b3⟩ := A.i_BadArgument
  obtain ⟨R, UR, r1, r2, r3⟩ := A.i_BadRange
  obtain ⟨S, gS, hS⟩ := id b3
  obtain ⟨C, W⟩ := A.k_WireTree
  obtain ⟨fi, di, Mi, Fi, bi⟩ := W.m_init
  obtain ⟨fl, dl, L, Lf, Fl, bl⟩ := W.m_len
  obtain ⟨fc, dc, Mc, Fc, bc⟩ := W.m_check_node
  obtain ⟨f1, d1, M1, F1, k1⟩ := W.m_parent
  obtain ⟨f2, d2, M2, F2, k2⟩ := W.m_path
  obtain ⟨f3, d3, M3, F3, k3⟩ := W.m_below
  obtain ⟨f4, d4, M4, F4, k4⟩ := W.m_delay_range
  have hd := drawX (P := P) (w := w) (base := base) (ok_law_draw A.d_law_draw TL (ok_law_spread A.d_law_spread TL))
  have gc := ok_WireTree_check_node (P := P) (w := w) (base := base) Fc W TT UB.u
  have gi := ok_WireTree_init (P := P) (w := w) (base := base) Fi W TT UB.u UR.u
  have g1 := ok_WireTree_parent (P := P) (w := w) (base := base) F1 W Mc gc bc
  have g2 := ok_WireTree_path (P := P) (w := w) (base := base) F2 W Mc gc bc
  have g3 := ok_WireTree_below (P := P) (w := w) (base := base) F3 W TT Mc gc bc
  have g4 := bad_WireTree_delay_range (P := P) (w := w) (base := base) F4 W Mc gc bc
  exact fn_law F TS W (ok_law_pool A.d_law_pool TL) hd (ok_law_segments A.d_law_segments TS hd) (ok_law_path A.d_law_path TS)
    (ok_law_refused A.d_law_refused TS W.gC UB.u.gC UR.u.gC gS UB.isc UR.isc (b1.at_ UB.u.gC) (b2.at_ UR.u.gC) (r1.at_ UB.u.gC) (r2.at_ UR.u.gC) hS (r3.at_ gS) Mi gi bi)
    (ok_law_away A.d_law_away TS W.cl UB.u.gC UB.hit M1 g1 k1 M2 g2 k2 M3 g3 k3 M4 g4 k4)
    (ok_law_same A.d_law_same TS 2) Mi gi bi L Lf (ok_WireTree_len Fl W TT) bl M1 g1 k1 M2 g2 k2 M3 g3 k3
end G
namespace G
open PySem PySem.Spec PyProof.Rows L2
theorem all_mk {l : PySem.W.OpenLaw} {w : World} {K : PySem.W.Frag} {h : Heap} {mg : Str → Option Value} {fa f0 f1 f2 f3 f4 f5 f6 f7 f8 : Addr} (X : K.In h) (G : h.Ns mainGlobals mg) (hfa : mg "law" = some (.ref fa))
    {od0 an0 od1 an1 od2 an2 od3 an3 od4 an4 od5 an5 od6 an6 od7 an7 od8 an8 : Option Addr} {sl0 sl1 sl2 sl3 sl4 sl5 sl6 sl7 sl8 : Array (Option Value)} {oc0 kv0 dc0 pm0 cd0 ct0 oc1 kv1 dc1 pm1 cd1 ct1 oc2 kv2 dc2 pm2 cd2 ct2 oc3 kv3 dc3 pm3 cd3 ct3 oc4 kv4 dc4 pm4 cd4 ct4 oc5 kv5 dc5 pm5 cd5 ct5 oc6 kv6 dc6 pm6 cd6 ct6 oc7 kv7 dc7 pm7 cd7 ct7 oc8 kv8 dc8 pm8 cd8 ct8 : Value}
    (a0 : PySem.W.nsIn K mainGlobals "_law_pool" = some (some (.ref f0))) (l0 : K.lookup f0 = some ⟨oc0, od0, .func (PySem.W.fnOf "_law_pool" "_law_pool" (defArgs s_law_pool) (defBody s_law_pool) (defScope s_law_pool) .none kv0 dc0 pm0 an0 cd0 ct0), sl0⟩) (c0 : PySem.W.codeIn K cd0 "_law_pool" = true) (k0 : PySem.W.keepIn K (.ref f0) = true)
    (a1 : PySem.W.nsIn K mainGlobals "_law_spread" = some (some (.ref f1))) (l1 : K.lookup f1 = some ⟨oc1, od1, .func (PySem.W.fnOf "_law_spread" "_law_spread" (defArgs s_law_spread) (defBody s_law_spread) (defScope s_law_spread) .none kv1 dc1 pm1 an1 cd1 ct1), sl1⟩) (c1 : PySem.W.codeIn K cd1 "_law_spread" = true) (k1 : PySem.W.keepIn K (.ref f1) = true)
    (a2 : PySem.W.nsIn K mainGlobals "_law_draw" = some (some (.ref f2))) (l2 : K.lookup f2 = some ⟨oc2, od2, .func (PySem.W.fnOf "_law_draw" "_law_draw" (defArgs s_law_draw) (defBody s_law_draw) (defScope s_law_draw) .none kv2 dc2 pm2 an2 cd2 ct2), sl2⟩) (c2 : PySem.W.codeIn K cd2 "_law_draw" = true) (k2 : PySem.W.keepIn K (.ref f2) = true)
    (a3 : PySem.W.nsIn K mainGlobals "_law_same" = some (some (.ref f3))) (l3 : K.lookup f3 = some ⟨oc3, od3, .func (PySem.W.fnOf "_law_same" "_law_same" (defArgs s_law_same) (defBody s_law_same) (defScope s_law_same) .none kv3 dc3 pm3 an3 cd3 ct3), sl3⟩) (c3 : PySem.W.codeIn K cd3 "_law_same" = true) (k3 : PySem.W.keepIn K (.ref f3) = true)
    (a4 : PySem.W.nsIn K mainGlobals "_law_segments" = some (some (.ref f4))) (l4 : K.lookup f4 = some ⟨oc4, od4, .func (PySem.W.fnOf "_law_segments" "_law_segments" (defArgs s_law_segments) (defBody s_law_segments) (defScope s_law_segments) .none kv4 dc4 pm4 an4 cd4 ct4), sl4⟩) (c4 : PySem.W.codeIn K cd4 "_law_segments" = true) (k4 : PySem.W.keepIn K (.ref f4) = true)
    (a5 : PySem.W.nsIn K mainGlobals "_law_path" = some (some (.ref f5))) (l5 : K.lookup f5 = some ⟨oc5, od5, .func (PySem.W.fnOf "_law_path" "_law_path" (defArgs s_law_path) (defBody s_law_path) (defScope s_law_path) .none kv5 dc5 pm5 an5 cd5 ct5), sl5⟩) (c5 : PySem.W.codeIn K cd5 "_law_path" = true) (k5 : PySem.W.keepIn K (.ref f5) = true)
    (a6 : PySem.W.nsIn K mainGlobals "_law_refused" = some (some (.ref f6))) (l6 : K.lookup f6 = some ⟨oc6, od6, .func (PySem.W.fnOf "_law_refused" "_law_refused" (defArgs s_law_refused) (defBody s_law_refused) (defScope s_law_refused) .none kv6 dc6 pm6 an6 cd6 ct6), sl6⟩) (c6 : PySem.W.codeIn K cd6 "_law_refused" = true) (k6 : PySem.W.keepIn K (.ref f6) = true)
    (a7 : PySem.W.nsIn K mainGlobals "_law_away" = some (some (.ref f7))) (l7 : K.lookup f7 = some ⟨oc7, od7, .func (PySem.W.fnOf "_law_away" "_law_away" (defArgs s_law_away) (defBody s_law_away) (defScope s_law_away) .none kv7 dc7 pm7 an7 cd7 ct7), sl7⟩) (c7 : PySem.W.codeIn K cd7 "_law_away" = true) (k7 : PySem.W.keepIn K (.ref f7) = true)
    (a8 : PySem.W.nsIn K mainGlobals "law" = some (some (.ref f8))) (l8 : K.lookup f8 = some ⟨oc8, od8, .func (PySem.W.fnOf "law" "law" (defArgs s_law) (defBody s_law) (defScope s_law) .none kv8 dc8 pm8 an8 cd8 ct8), sl8⟩) (c8 : PySem.W.codeIn K cd8 "law" = true) (k8 : PySem.W.keepIn K (.ref f8) = true)
    {iC0 iD0_0 iD0_1 iD0_2 : Addr} (w0_0 : PySem.W.nsIn K mainGlobals "BadArgument" = some (some (.ref iC0))) (w0_1 : PySem.W.excIn K iC0 [.type "ValueError", .type "Exception", .type "BaseException", .type "object"] "ValueError.__new__" = true) (w0_2 : PySem.W.keepIn K (.ref iC0) = true) (w0_3 : PySem.W.subIn K (.ref iC0) (.type "BaseException") = some true) (w0_4 : PySem.W.typeIn K (.ref iC0) = some (.type "type")) (w0_5 : PySem.W.hasDictIn K iC0 = true) (w0_6 : PySem.W.subIn K (.ref iC0) (.ref iC0) = some true) (w0_7 : PySem.W.findIn K (.ref iC0) "__getattribute__" = some (some (.builtin "BaseException.__getattribute__"))) (w0_8 : PySem.W.findIn K (.ref iC0) "__getattr__" = some none) (w0_9 : PySem.W.findIn K (.ref iC0) "__class__" = some (some (.builtin "object.__class__"))) (w0_10 : PySem.W.specialIn K (.builtin "object.__class__") "__get__" = some (some (.builtin "getset_descriptor.__get__"))) (w0_11 : PySem.W.takesIn K (.builtin "object.__class__") = some true) (w0_12 : PySem.W.mroIn K iC0 (.type "object") = some true) (w0_13 : PySem.W.nsIn K mainGlobals "BadArgument" = some (some (.ref iD0_0))) (w0_14 : PySem.W.kitOne K (.ref iC0) (.ref iD0_0) = some true) (w0_15 : PySem.W.nsIn K mainGlobals "BadRange" = some (some (.ref iD0_1))) (w0_16 : PySem.W.kitOne K (.ref iC0) (.ref iD0_1) = some false) (w0_17 : PySem.W.nsIn K mainGlobals "SignoffError" = some (some (.ref iD0_2))) (w0_18 : PySem.W.subIn K (.ref iD0_2) (.type "BaseException") = some true) (w0_19 : PySem.W.hasDictIn K iD0_2 = true) (w0_20 : PySem.W.typeIn K (.ref iD0_2) = some (.type "type")) (w0_21 : PySem.W.subIn K (.ref iC0) (.ref iD0_2) = some true)
    {iC1 iD1_0 iD1_1 iD1_2 : Addr} (w1_0 : PySem.W.nsIn K mainGlobals "BadRange" = some (some (.ref iC1))) (w1_1 : PySem.W.excIn K iC1 [.type "ValueError", .type "Exception", .type "BaseException", .type "object"] "ValueError.__new__" = true) (w1_2 : PySem.W.keepIn K (.ref iC1) = true) (w1_3 : PySem.W.subIn K (.ref iC1) (.type "BaseException") = some true) (w1_4 : PySem.W.typeIn K (.ref iC1) = some (.type "type")) (w1_5 : PySem.W.hasDictIn K iC1 = true) (w1_6 : PySem.W.subIn K (.ref iC1) (.ref iC1) = some true) (w1_7 : PySem.W.findIn K (.ref iC1) "__getattribute__" = some (some (.builtin "BaseException.__getattribute__"))) (w1_8 : PySem.W.findIn K (.ref iC1) "__getattr__" = some none) (w1_9 : PySem.W.findIn K (.ref iC1) "__class__" = some (some (.builtin "object.__class__"))) (w1_10 : PySem.W.specialIn K (.builtin "object.__class__") "__get__" = some (some (.builtin "getset_descriptor.__get__"))) (w1_11 : PySem.W.takesIn K (.builtin "object.__class__") = some true) (w1_12 : PySem.W.mroIn K iC1 (.type "object") = some true) (w1_13 : PySem.W.nsIn K mainGlobals "BadArgument" = some (some (.ref iD1_0))) (w1_14 : PySem.W.kitOne K (.ref iC1) (.ref iD1_0) = some false) (w1_15 : PySem.W.nsIn K mainGlobals "BadRange" = some (some (.ref iD1_1))) (w1_16 : PySem.W.kitOne K (.ref iC1) (.ref iD1_1) = some true) (w1_17 : PySem.W.nsIn K mainGlobals "SignoffError" = some (some (.ref iD1_2))) (w1_18 : PySem.W.subIn K (.ref iD1_2) (.type "BaseException") = some true) (w1_19 : PySem.W.hasDictIn K iD1_2 = true) (w1_20 : PySem.W.typeIn K (.ref iD1_2) = some (.type "type")) (w1_21 : PySem.W.subIn K (.ref iC1) (.ref iD1_2) = some true)
    {yC0 : Addr} {f0m0 : Addr} {od0m0 an0m0 : Option Addr} {sl0m0 : Array (Option Value)} {oc0m0 kv0m0 dc0m0 pm0m0 cd0m0 ct0m0 : Value} {f0m1 : Addr} {od0m1 an0m1 : Option Addr} {sl0m1 : Array (Option Value)} {oc0m1 kv0m1 dc0m1 pm0m1 cd0m1 ct0m1 : Value} {f0m2 : Addr} {od0m2 an0m2 : Option Addr} {sl0m2 : Array (Option Value)} {oc0m2 kv0m2 dc0m2 pm0m2 cd0m2 ct0m2 : Value} {f0m3 : Addr} {od0m3 an0m3 : Option Addr} {sl0m3 : Array (Option Value)} {oc0m3 kv0m3 dc0m3 pm0m3 cd0m3 ct0m3 : Value} {f0m4 : Addr} {od0m4 an0m4 : Option Addr} {sl0m4 : Array (Option Value)} {oc0m4 kv0m4 dc0m4 pm0m4 cd0m4 ct0m4 : Value} {f0m5 : Addr} {od0m5 an0m5 : Option Addr} {sl0m5 : Array (Option Value)} {oc0m5 kv0m5 dc0m5 pm0m5 cd0m5 ct0m5 : Value} {f0m6 : Addr} {od0m6 an0m6 : Option Addr} {sl0m6 : Array (Option Value)} {oc0m6 kv0m6 dc0m6 pm0m6 cd0m6 ct0m6 : Value}
    (y0_0 : PySem.W.nsIn K mainGlobals "WireTree" = some (some (.ref yC0))) (y0_4 : PySem.W.findIn K (.ref yC0) "__setattr__" = some (some (.builtin "object.__setattr__"))) (y0_10 : PySem.W.findIn K (.ref yC0) "__init__" = some (some (.ref f0m0))) (y0_15 : PySem.W.findIn K (.ref yC0) "__len__" = some (some (.ref f0m1))) (y0_20 : PySem.W.findIn K (.ref yC0) "parent" = some (some (.ref f0m2))) (y0_25 : PySem.W.findIn K (.ref yC0) "path" = some (some (.ref f0m3))) (y0_30 : PySem.W.findIn K (.ref yC0) "below" = some (some (.ref f0m4))) (y0_35 : PySem.W.findIn K (.ref yC0) "delay_range" = some (some (.ref f0m5))) (y0_40 : PySem.W.findIn K (.ref yC0) "_check_node" = some (some (.ref f0m6))) (y0_42 : PySem.W.findIn K (.ref yC0) "_parents" = some none) (y0_43 : PySem.W.findIn K (.ref yC0) "_resistances" = some none) (y0_44 : PySem.W.findIn K (.ref yC0) "_capacitances" = some none) (y0_1 : PySem.W.plainGet K yC0 Str.empty = true) (y0_2 : PySem.W.hasDictIn K yC0 = true) (y0_3 : PySem.W.plainOver K yC0 = true) (y0_5 : PySem.W.makesIn K yC0 = true) (y0_6 : PySem.W.keepIn K (.ref yC0) = true) (y0_7 : K.lookup f0m0 = some ⟨oc0m0, od0m0, .func (PySem.W.fnOf "__init__" "WireTree.__init__" (defArgs s_WireTree_init) (defBody s_WireTree_init) (defScope s_WireTree_init) .none kv0m0 dc0m0 pm0m0 an0m0 cd0m0 ct0m0), sl0m0⟩) (y0_8 : PySem.W.codeIn K cd0m0 "WireTree.__init__" = true) (y0_9 : PySem.W.keepIn K (.ref f0m0) = true) (y0_11 : PySem.W.isFn K (.ref f0m0) = true) (y0_12 : K.lookup f0m1 = some ⟨oc0m1, od0m1, .func (PySem.W.fnOf "__len__" "WireTree.__len__" (defArgs s_WireTree_len) (defBody s_WireTree_len) (defScope s_WireTree_len) .none kv0m1 dc0m1 pm0m1 an0m1 cd0m1 ct0m1), sl0m1⟩) (y0_13 : PySem.W.codeIn K cd0m1 "WireTree.__len__" = true) (y0_14 : PySem.W.keepIn K (.ref f0m1) = true) (y0_16 : PySem.W.isFn K (.ref f0m1) = true) (y0_17 : K.lookup f0m2 = some ⟨oc0m2, od0m2, .func (PySem.W.fnOf "parent" "WireTree.parent" (defArgs s_WireTree_parent) (defBody s_WireTree_parent) (defScope s_WireTree_parent) .none kv0m2 dc0m2 pm0m2 an0m2 cd0m2 ct0m2), sl0m2⟩) (y0_18 : PySem.W.codeIn K cd0m2 "WireTree.parent" = true) (y0_19 : PySem.W.keepIn K (.ref f0m2) = true) (y0_21 : PySem.W.isFn K (.ref f0m2) = true) (y0_22 : K.lookup f0m3 = some ⟨oc0m3, od0m3, .func (PySem.W.fnOf "path" "WireTree.path" (defArgs s_WireTree_path) (defBody s_WireTree_path) (defScope s_WireTree_path) .none kv0m3 dc0m3 pm0m3 an0m3 cd0m3 ct0m3), sl0m3⟩) (y0_23 : PySem.W.codeIn K cd0m3 "WireTree.path" = true) (y0_24 : PySem.W.keepIn K (.ref f0m3) = true) (y0_26 : PySem.W.isFn K (.ref f0m3) = true) (y0_27 : K.lookup f0m4 = some ⟨oc0m4, od0m4, .func (PySem.W.fnOf "below" "WireTree.below" (defArgs s_WireTree_below) (defBody s_WireTree_below) (defScope s_WireTree_below) .none kv0m4 dc0m4 pm0m4 an0m4 cd0m4 ct0m4), sl0m4⟩) (y0_28 : PySem.W.codeIn K cd0m4 "WireTree.below" = true) (y0_29 : PySem.W.keepIn K (.ref f0m4) = true) (y0_31 : PySem.W.isFn K (.ref f0m4) = true) (y0_32 : K.lookup f0m5 = some ⟨oc0m5, od0m5, .func (PySem.W.fnOf "delay_range" "WireTree.delay_range" (defArgs s_WireTree_delay_range) (defBody s_WireTree_delay_range) (defScope s_WireTree_delay_range) .none kv0m5 dc0m5 pm0m5 an0m5 cd0m5 ct0m5), sl0m5⟩) (y0_33 : PySem.W.codeIn K cd0m5 "WireTree.delay_range" = true) (y0_34 : PySem.W.keepIn K (.ref f0m5) = true) (y0_36 : PySem.W.isFn K (.ref f0m5) = true) (y0_37 : K.lookup f0m6 = some ⟨oc0m6, od0m6, .func (PySem.W.fnOf "_check_node" "WireTree._check_node" (defArgs s_WireTree_check_node) (defBody s_WireTree_check_node) (defScope s_WireTree_check_node) .none kv0m6 dc0m6 pm0m6 an0m6 cd0m6 ct0m6), sl0m6⟩) (y0_38 : PySem.W.codeIn K cd0m6 "WireTree._check_node" = true) (y0_39 : PySem.W.keepIn K (.ref f0m6) = true) (y0_41 : PySem.W.isFn K (.ref f0m6) = true)
    (z0 : PySem.W.nsIn K mainGlobals "tuple" = some none) (z1 : PySem.W.nsIn K mainGlobals "list" = some none) (z2 : PySem.W.nsIn K mainGlobals "enumerate" = some none) (z3 : PySem.W.nsIn K mainGlobals "len" = some none) (z4 : PySem.W.nsIn K mainGlobals "range" = some none) (z5 : PySem.W.nsIn K mainGlobals "sum" = some none) (z6 : PySem.W.nsIn K mainGlobals "int" = some none) (z7 : PySem.W.nsIn K mainGlobals "isinstance" = some none) (z8 : PySem.W.nsIn K mainGlobals "bool" = some none) (z9 : PySem.W.nsIn K mainGlobals "str" = some none) (z10 : PySem.W.nsIn K mainGlobals "ValueError" = some none) :
    ∃ fd : FuncData, (∀ (s : Shared) (v : Value), BindsTo s fd ⟨[v], []⟩ [("script", v)]) ∧ ∀ base : Heap, K.In base → base.Ns mainGlobals mg → FnOk l.prog w K mg base CX0 4 fa fd ["script"] (spLaw K) := by
  have e := hfa.symm.trans (PySem.W.mg_of X G a8)
  cases e
  have F0 := fun_mk (st := s_law_pool) l0 c0 k0
  have F1 := fun_mk (st := s_law_spread) l1 c1 k1
  have F2 := fun_mk (st := s_law_draw) l2 c2 k2
  have F3 := fun_mk (st := s_law_same) l3 c3 k3
  have F4 := fun_mk (st := s_law_segments) l4 c4 k4
  have F5 := fun_mk (st := s_law_path) l5 c5 k5
  have F6 := fun_mk (st := s_law_refused) l6 c6 k6
  have F7 := fun_mk (st := s_law_away) l7 c7 k7
  have F8 := fun_mk (st := s_law) l8 c8 k8
  have A : All K mg := ⟨⟨f0, _, F0, PySem.W.mg_of X G a0, F0.binds (ps := ["script"]) fun _ _ _ _ _ _ us hl => match us, hl with | [_], _ => rfl⟩,
    ⟨f1, _, F1, PySem.W.mg_of X G a1, F1.binds (ps := ["cell"]) fun _ _ _ _ _ _ us hl => match us, hl with | [_], _ => rfl⟩,
    ⟨f2, _, F2, PySem.W.mg_of X G a2, F2.binds (ps := ["pool", "many"]) fun _ _ _ _ _ _ us hl => match us, hl with | [_, _], _ => rfl⟩,
    ⟨f3, _, F3, PySem.W.mg_of X G a3, F3.binds (ps := ["actual", "due"]) fun _ _ _ _ _ _ us hl => match us, hl with | [_, _], _ => rfl⟩,
    ⟨f4, _, F4, PySem.W.mg_of X G a4, F4.binds (ps := ["pool", "most"]) fun _ _ _ _ _ _ us hl => match us, hl with | [_, _], _ => rfl⟩,
    ⟨f5, _, F5, PySem.W.mg_of X G a5, F5.binds (ps := ["segments", "node"]) fun _ _ _ _ _ _ us hl => match us, hl with | [_, _], _ => rfl⟩,
    ⟨f6, _, F6, PySem.W.mg_of X G a6, F6.binds (ps := ["segments"]) fun _ _ _ _ _ _ us hl => match us, hl with | [_], _ => rfl⟩,
    ⟨f7, _, F7, PySem.W.mg_of X G a7, F7.binds (ps := ["tree", "node"]) fun _ _ _ _ _ _ us hl => match us, hl with | [_, _], _ => rfl⟩,
    PySem.W.mg_none_of X G z0,
    PySem.W.mg_none_of X G z1,
    PySem.W.mg_none_of X G z2,
    PySem.W.mg_none_of X G z3,
    PySem.W.mg_none_of X G z4,
    PySem.W.mg_none_of X G z5,
    PySem.W.mg_none_of X G z6,
    PySem.W.mg_none_of X G z7,
    PySem.W.mg_none_of X G z8,
    PySem.W.mg_none_of X G z9,
    PySem.W.mg_none_of X G z10,
    ⟨yC0, ⟨PySem.W.mg_of X G y0_0, ⟨y0_1, y0_2, y0_3, y0_4⟩, ⟨f0m0, _, ⟨y0_5, y0_10, y0_11, y0_6⟩, (fun_mk (st := s_WireTree_init) y0_7 y0_8 y0_9), (fun_mk (st := s_WireTree_init) y0_7 y0_8 y0_9).binds (ps := ["self", "segments"]) fun _ _ _ _ _ _ us hl => match us, hl with | [_, _], _ => rfl⟩, ⟨f0m1, _, y0_15, y0_16, (fun_mk (st := s_WireTree_len) y0_12 y0_13 y0_14), (fun_mk (st := s_WireTree_len) y0_12 y0_13 y0_14).binds (ps := ["self"]) fun _ _ _ _ _ _ us hl => match us, hl with | [_], _ => rfl⟩, ⟨f0m2, _, ⟨y0_20, y0_21, y0_19⟩, (fun_mk (st := s_WireTree_parent) y0_17 y0_18 y0_19), (fun_mk (st := s_WireTree_parent) y0_17 y0_18 y0_19).binds (ps := ["self", "node"]) fun _ _ _ _ _ _ us hl => match us, hl with | [_, _], _ => rfl⟩, ⟨f0m3, _, ⟨y0_25, y0_26, y0_24⟩, (fun_mk (st := s_WireTree_path) y0_22 y0_23 y0_24), (fun_mk (st := s_WireTree_path) y0_22 y0_23 y0_24).binds (ps := ["self", "node"]) fun _ _ _ _ _ _ us hl => match us, hl with | [_, _], _ => rfl⟩, ⟨f0m4, _, ⟨y0_30, y0_31, y0_29⟩, (fun_mk (st := s_WireTree_below) y0_27 y0_28 y0_29), (fun_mk (st := s_WireTree_below) y0_27 y0_28 y0_29).binds (ps := ["self", "node"]) fun _ _ _ _ _ _ us hl => match us, hl with | [_, _], _ => rfl⟩, ⟨f0m5, _, ⟨y0_35, y0_36, y0_34⟩, (fun_mk (st := s_WireTree_delay_range) y0_32 y0_33 y0_34), Fun.kbn1 (n := 2) (ps := ["self", "node", "unit"]) (fun_mk (st := s_WireTree_delay_range) y0_32 y0_33 y0_34) fun _ _ _ _ _ _ _ us hl => match us, hl with | [_, _], _ => rfl⟩, ⟨f0m6, _, ⟨y0_40, y0_41, y0_39⟩, (fun_mk (st := s_WireTree_check_node) y0_37 y0_38 y0_39), (fun_mk (st := s_WireTree_check_node) y0_37 y0_38 y0_39).binds (ps := ["self", "node"]) fun _ _ _ _ _ _ us hl => match us, hl with | [_, _], _ => rfl⟩, y0_42, y0_43, y0_44⟩⟩,
    ⟨iC0, ⟨⟨PySem.W.mg_of X G w0_0, w0_1, w0_2, w0_3, w0_4⟩, w0_5, w0_6, ⟨w0_7, w0_8, w0_3, w0_5, w0_9, w0_10, w0_11, w0_12⟩⟩, ⟨iD0_0, PySem.W.mg_of X G w0_13, w0_14⟩, ⟨iD0_1, PySem.W.mg_of X G w0_15, w0_16⟩, ⟨iD0_2, PySem.W.mg_of X G w0_17, PySem.W.exm_ref w0_18 w0_19 w0_20 w0_21⟩⟩,
    ⟨iC1, ⟨⟨PySem.W.mg_of X G w1_0, w1_1, w1_2, w1_3, w1_4⟩, w1_5, w1_6, ⟨w1_7, w1_8, w1_3, w1_5, w1_9, w1_10, w1_11, w1_12⟩⟩, ⟨iD1_0, PySem.W.mg_of X G w1_13, w1_14⟩, ⟨iD1_1, PySem.W.mg_of X G w1_15, w1_16⟩, ⟨iD1_2, PySem.W.mg_of X G w1_17, PySem.W.exm_ref w1_18 w1_19 w1_20 w1_21⟩⟩⟩
  exact ⟨_, fun s v => .of_eq rfl, fun base _ _ => glue A F8⟩
end G
open PySem PySem.W PyProof.Rows
set_option maxRecDepth 100000 in
set_option maxHeartbeats 0 in
theorem PySem.Challenge.cw_signoff_k28_wire_trees_holds : PySem.Challenge.rw_signoff_k28_wire_trees.Holds := by
  w_on; o_law; k_head; (case hw => w_witness2)
  k_fill
  refine L2.walk_of (l := PySem.Challenge.rw_signoff_k28_wire_trees) (n := 63) (k := 4) (x := "script") (CX := fun _ => L2.CX0) (sp := fun w => G.spLaw _) rfl (by decide) rfl ⟨rfl, by decide, by decide⟩ (fun w h Y => PySem.W.kIn_of Y) ?F (fun _ _ a ns hl _ hS => ⟨a, ns, rfl, hS, hl, fun _ => rfl⟩) (fun _ _ _ _ _ h => h)
  case F =>
    intro w mg fa h KX GN hmg
    refine' G.all_mk KX GN hmg ?a0 ?l0 ?c0 ?k0 ?a1 ?l1 ?c1 ?k1 ?a2 ?l2 ?c2 ?k2 ?a3 ?l3 ?c3 ?k3 ?a4 ?l4 ?c4 ?k4 ?a5 ?l5 ?c5 ?k5 ?a6 ?l6 ?c6 ?k6 ?a7 ?l7 ?c7 ?k7 ?a8 ?l8 ?c8 ?k8 ?xw0_0 ?xw0_1 ?xw0_2 ?xw0_3 ?xw0_4 ?xw0_5 ?xw0_6 ?xw0_7 ?xw0_8 ?xw0_9 ?xw0_10 ?xw0_11 ?xw0_12 ?xw0_13 ?xw0_14 ?xw0_15 ?xw0_16 ?xw0_17 ?xw0_18 ?xw0_19 ?xw0_20 ?xw0_21 ?xw1_0 ?xw1_1 ?xw1_2 ?xw1_3 ?xw1_4 ?xw1_5 ?xw1_6 ?xw1_7 ?xw1_8 ?xw1_9 ?xw1_10 ?xw1_11 ?xw1_12 ?xw1_13 ?xw1_14 ?xw1_15 ?xw1_16 ?xw1_17 ?xw1_18 ?xw1_19 ?xw1_20 ?xw1_21 ?vy0_0 ?vy0_4 ?vy0_10 ?vy0_15 ?vy0_20 ?vy0_25 ?vy0_30 ?vy0_35 ?vy0_40 ?vy0_42 ?vy0_43 ?vy0_44 ?vy0_1 ?vy0_2 ?vy0_3 ?vy0_5 ?vy0_6 ?vy0_7 ?vy0_8 ?vy0_9 ?vy0_11 ?vy0_12 ?vy0_13 ?vy0_14 ?vy0_16 ?vy0_17 ?vy0_18 ?vy0_19 ?vy0_21 ?vy0_22 ?vy0_23 ?vy0_24 ?vy0_26 ?vy0_27 ?vy0_28 ?vy0_29 ?vy0_31 ?vy0_32 ?vy0_33 ?vy0_34 ?vy0_36 ?vy0_37 ?vy0_38 ?vy0_39 ?vy0_41 ?z0 ?z1 ?z2 ?z3 ?z4 ?z5 ?z6 ?z7 ?z8 ?z9 ?z10
    (case a0 => k_is)
    (case l0 => k_is)
    (case c0 => k_is)
    (case k0 => k_is)
    (case a1 => k_is)
    (case l1 => k_is)
    (case c1 => k_is)
    (case k1 => k_is)
    (case a2 => k_is)
    (case l2 => k_is)
    (case c2 => k_is)
    (case k2 => k_is)
    (case a3 => k_is)
    (case l3 => k_is)
    (case c3 => k_is)
    (case k3 => k_is)
    (case a4 => k_is)
    (case l4 => k_is)
    (case c4 => k_is)
    (case k4 => k_is)
    (case a5 => k_is)
    (case l5 => k_is)
    (case c5 => k_is)
    (case k5 => k_is)
    (case a6 => k_is)
    (case l6 => k_is)
    (case c6 => k_is)
    (case k6 => k_is)
    (case a7 => k_is)
    (case l7 => k_is)
    (case c7 => k_is)
    (case k7 => k_is)
    (case a8 => k_is)
    (case l8 => k_is)
    (case c8 => k_is)
    (case k8 => k_is)
    (case xw0_0 => first | k_exc | k_is | rfl)
    (case xw0_1 => first | k_exc | k_is | rfl)
    (case xw0_2 => first | k_exc | k_is | rfl)
    (case xw0_3 => first | k_exc | k_is | rfl)
    (case xw0_4 => first | k_exc | k_is | rfl)
    (case xw0_5 => first | k_exc | k_is | rfl)
    (case xw0_6 => first | k_exc | k_is | rfl)
    (case xw0_7 => first | k_exc | k_is | rfl)
    (case xw0_8 => first | k_exc | k_is | rfl)
    (case xw0_9 => first | k_exc | k_is | rfl)
    (case xw0_10 => first | k_exc | k_is | rfl)
    (case xw0_11 => first | k_exc | k_is | rfl)
    (case xw0_12 => first | k_exc | k_is | rfl)
    (case xw0_13 => first | k_exc | k_is | rfl)
    (case xw0_14 => first | k_exc | k_is | rfl)
    (case xw0_15 => first | k_exc | k_is | rfl)
    (case xw0_16 => first | k_exc | k_is | rfl)
    (case xw0_17 => first | k_exc | k_is | rfl)
    (case xw0_18 => first | k_exc | k_is | rfl)
    (case xw0_19 => first | k_exc | k_is | rfl)
    (case xw0_20 => first | k_exc | k_is | rfl)
    (case xw0_21 => first | k_exc | k_is | rfl)
    (case xw1_0 => first | k_exc | k_is | rfl)
    (case xw1_1 => first | k_exc | k_is | rfl)
    (case xw1_2 => first | k_exc | k_is | rfl)
    (case xw1_3 => first | k_exc | k_is | rfl)
    (case xw1_4 => first | k_exc | k_is | rfl)
    (case xw1_5 => first | k_exc | k_is | rfl)
    (case xw1_6 => first | k_exc | k_is | rfl)
    (case xw1_7 => first | k_exc | k_is | rfl)
    (case xw1_8 => first | k_exc | k_is | rfl)
    (case xw1_9 => first | k_exc | k_is | rfl)
    (case xw1_10 => first | k_exc | k_is | rfl)
    (case xw1_11 => first | k_exc | k_is | rfl)
    (case xw1_12 => first | k_exc | k_is | rfl)
    (case xw1_13 => first | k_exc | k_is | rfl)
    (case xw1_14 => first | k_exc | k_is | rfl)
    (case xw1_15 => first | k_exc | k_is | rfl)
    (case xw1_16 => first | k_exc | k_is | rfl)
    (case xw1_17 => first | k_exc | k_is | rfl)
    (case xw1_18 => first | k_exc | k_is | rfl)
    (case xw1_19 => first | k_exc | k_is | rfl)
    (case xw1_20 => first | k_exc | k_is | rfl)
    (case xw1_21 => first | k_exc | k_is | rfl)
    (case vy0_0 => k_is)
    (case vy0_4 => k_is)
    (case vy0_10 => k_is)
    (case vy0_15 => k_is)
    (case vy0_20 => k_is)
    (case vy0_25 => k_is)
    (case vy0_30 => k_is)
    (case vy0_35 => k_is)
    (case vy0_40 => k_is)
    (case vy0_42 => k_is)
    (case vy0_43 => k_is)
    (case vy0_44 => k_is)
    (case vy0_1 => k_is)
    (case vy0_2 => k_is)
    (case vy0_3 => k_is)
    (case vy0_5 => k_is)
    (case vy0_6 => k_is)
    (case vy0_7 => k_is)
    (case vy0_8 => k_is)
    (case vy0_9 => k_is)
    (case vy0_11 => k_is)
    (case vy0_12 => k_is)
    (case vy0_13 => k_is)
    (case vy0_14 => k_is)
    (case vy0_16 => k_is)
    (case vy0_17 => k_is)
    (case vy0_18 => k_is)
    (case vy0_19 => k_is)
    (case vy0_21 => k_is)
    (case vy0_22 => k_is)
    (case vy0_23 => k_is)
    (case vy0_24 => k_is)
    (case vy0_26 => k_is)
    (case vy0_27 => k_is)
    (case vy0_28 => k_is)
    (case vy0_29 => k_is)
    (case vy0_31 => k_is)
    (case vy0_32 => k_is)
    (case vy0_33 => k_is)
    (case vy0_34 => k_is)
    (case vy0_36 => k_is)
    (case vy0_37 => k_is)
    (case vy0_38 => k_is)
    (case vy0_39 => k_is)
    (case vy0_41 => k_is)
    (case z0 => k_is)
    (case z1 => k_is)
    (case z2 => k_is)
    (case z3 => k_is)
    (case z4 => k_is)
    (case z5 => k_is)
    (case z6 => k_is)
    (case z7 => k_is)
    (case z8 => k_is)
    (case z9 => k_is)
    (case z10 => k_is)
#print axioms PySem.Challenge.cw_signoff_k28_wire_trees_holds
