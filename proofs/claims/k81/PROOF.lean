import PyProof.Rows.All
import Wide.All
import OpenK.AllK
import Wide.FinOn
import HandS.ForMost
import HandS.Evl
import HandS.Wide
import HandS.WideBits
import HandS.Flow
import HandS.IsInst
import HandS.TupAny
import HandS.Walk
import HandS.Zip
import HandS.Steps
import KE.GoesMore
import KE.GoesEnum
import KE.KEqSeq
import HandS.ForExc
import HandS.ExcIs
import HandS.Style
import HandS.Small
import HandS.FStr
import HandS.StrMore
import HandS.SetKeys
import HandS.Strs
import HandS.DictComp
import PyProof.StrLawsFirst
import HandS.CallSlots
import HandS.Property
import PySem.Challenge.RW_signoff_k81_sizes_put_in
set_option Elab.async false
set_option linter.all false
set_option maxRecDepth 100000
set_option maxHeartbeats 4000000
set_option Elab.async false
set_option linter.all false
set_option maxRecDepth 100000
set_option maxHeartbeats 4000000
namespace G
open PySem PySem.Spec PyProof.Rows L2 Evl
/-! ## defs by name -/
def Dfd (K : PySem.W.Frag) (mg : Str → Option Value) (x : Str) (st : Stmt) (ps : List Str) : Prop := ∃ (f : Addr) (fd : FuncData), Fun K x x st f fd ∧ mg x = some (.ref f) ∧ Binds K fd ps []
def Has (P : Program) (w : World) (K : PySem.W.Frag) (mg : Str → Option Value) (base : Heap) (k : Nat) (x : Str) (ps : List Str) (sp : Sp) : Prop :=
  ∃ (f : Addr) (fd : FuncData), FnOk P w K mg base CX0 k f fd ps sp ∧ mg x = some (.ref f) ∧ PySem.W.keepIn K (.ref f) = true ∧ Binds K fd ps []
section
variable {P : Program} {w : World} {K : PySem.W.Frag} {mg : Str → Option Value} {base : Heap}
theorem Dfd.has {x : Str} {st : Stmt} {ps : List Str} {k : Nat} {sp : Sp} (d : Dfd K mg x st ps) (h : ∀ f fd, Fun K x x st f fd → FnOk P w K mg base CX0 k f fd ps sp) : Has P w K mg base k x ps sp := by
  obtain ⟨f, fd, F, g, b⟩ := d
  exact ⟨f, fd, h f fd F, g, F.kp, b⟩
theorem Has.mono {x : Str} {ps : List Str} {j k : Nat} {sp : Sp} (h : Has P w K mg base j x ps sp) (l : j ≤ k) : Has P w K mg base k x ps sp := by
  obtain ⟨f, fd, F, g⟩ := h
  exact ⟨f, fd, F.mono l, g⟩
theorem Has.imp {x : Str} {ps : List Str} {k : Nat} {sp sp' : Sp} (h : Has P w K mg base k x ps sp) (i : ∀ vs H Q E, sp' vs H Q E → sp vs H Q E) : Has P w K mg base k x ps sp' := by
  obtain ⟨f, fd, F, g⟩ := h
  exact ⟨f, fd, F.imp i, g⟩
end
/-! ## heaps -/
theorem sq_ex {K : PySem.W.Frag} {H H' : Hp} {a : Addr} {xs : List V} (e : Ex H H') (h : SqL K H a xs) : SqL K H' a xs := ex_l e h
/-- the heap without what stands at p -/
def hid (p : Addr) (H : Hp) : Hp := fun b => if b = p then none else H b
theorem hid_self {p : Addr} {H : Hp} : hid p H p = none := by unfold hid; rw [if_pos rfl]
theorem hid_ne {p b : Addr} {H : Hp} (h : b ≠ p) : hid p H b = H b := by unfold hid; rw [if_neg h]
theorem hid_get {p b : Addr} {H : Hp} {o : HO} (h : hid p H b = some o) : H b = some o := by
  by_cases e : b = p
  · subst e; rw [hid_self] at h; cases h
  · rw [hid_ne e] at h; exact h
theorem hid_neq {p b : Addr} {H : Hp} {o : HO} (h : hid p H b = some o) : b ≠ p := by
  intro e; subst e; rw [hid_self] at h; cases h
theorem hid_ex {p : Addr} {H : Hp} : Ex (hid p H) H := fun _ _ h => hid_get h
theorem hid_upd {p : Addr} {H : Hp} {o : HO} : hid p (upd H p o) = hid p H := by
  funext b
  by_cases e : b = p
  · subst e; rw [hid_self, hid_self]
  · rw [hid_ne e, hid_ne e, upd_ne e]
theorem hid_upd_ne {p q : Addr} {H : Hp} {o : HO} (h : q ≠ p) : hid p (upd H q o) = upd (hid p H) q o := by
  funext b
  by_cases e2 : b = q
  · subst e2; rw [hid_ne h, upd_same, upd_same]
  · rw [upd_ne e2]
    by_cases e : b = p
    · subst e; rw [hid_self, hid_self]
    · rw [hid_ne e, hid_ne e, upd_ne e2]
theorem hid_none {p b : Addr} {H : Hp} (h : H b = none) : hid p H b = none := by
  unfold hid; split
  · rfl
  · exact h
/-! ## the pool of draws: the list at p, the script's copy at a -/
def PoolOk (p a : Addr) (H : Hp) : Prop := ∃ (ns : List Int) (i : Nat) (c k s : Int), H p = some (.lst [.ref a, .int i, .int c, .int k, .int s]) ∧ hid p H a = some (.lst (ns.map V.int)) ∧ ns.length ≤ 1000
/-- from H to H' all but the pool is kept, and the pool is a pool -/
structure Px (p a : Addr) (H H' : Hp) : Prop where
  was : PoolOk p a H
  pool : PoolOk p a H'
  ex : Ex (hid p H) (hid p H')
section
variable {p a : Addr} {H H1 H2 H' : Hp}
theorem Px.refl (h : PoolOk p a H) : Px p a H H := ⟨h, h, Ex.refl _⟩
theorem Px.trans (x : Px p a H H1) (y : Px p a H1 H2) : Px p a H H2 := ⟨x.was, y.pool, x.ex.trans y.ex⟩
theorem PoolOk.ne {b : Addr} (h : PoolOk p a H) (n : H b = none) : b ≠ p := by
  obtain ⟨_, _, _, _, _, e, _⟩ := h
  exact (ne_of_none e n).symm
theorem PoolOk.ne2 {b : Addr} (h : PoolOk p a H) (n : H b = none) : a ≠ b := by
  obtain ⟨_, _, _, _, _, _, e, _⟩ := h
  exact ne_of_none (hid_get e) n
theorem PoolOk.kept (h : PoolOk p a H) (e : Ex H H') : PoolOk p a H' := by
  obtain ⟨ns, i, c, k, s, h1, h2, h3⟩ := h
  exact ⟨ns, i, c, k, s, e _ _ h1, by rw [hid_ne (hid_neq h2)]; exact e _ _ (hid_get h2), h3⟩
theorem Px.ofEx (h : PoolOk p a H) (e : Ex H H') : Px p a H H' := ⟨h, h.kept e, fun b o hb => by rw [hid_ne (hid_neq hb)]; exact e _ _ (hid_get hb)⟩
theorem Px.more (x : Px p a H H1) (e : Ex H1 H2) : Px p a H H2 := x.trans (Px.ofEx x.pool e)
theorem Px.draw {o : HO} (w : PoolOk p a H) (h : PoolOk p a (upd H p o)) : Px p a H (upd H p o) := ⟨w, h, by rw [hid_upd]; exact Ex.refl _⟩
theorem Px.new (x : Px p a H H1) {l : Addr} {o : HO} (n : H1 l = none) : Px p a H (upd H1 l o) := x.more (Ex.new n)
/-- what H has is kept -/
theorem Px.get (x : Px p a H H1) {b : Addr} {o : HO} (h : hid p H b = some o) : hid p H1 b = some o := x.ex _ _ h
theorem Px.at_ (x : Px p a H H1) {b : Addr} {o : HO} (h : hid p H b = some o) : H1 b = some o := hid_get (x.ex _ _ h)
theorem Px.free (x : Px p a H H1) {b : Addr} (n : H1 b = none) : H b = none := by
  cases e : H b with
  | none => rfl
  | some o =>
    have hb : b ≠ p := x.pool.ne n
    have := x.ex b o (by rw [hid_ne hb]; exact e)
    rw [hid_get this] at n; cases n
/-- an object that H does not have may change -/
theorem Px.mut (x : Px p a H H1) {l : Addr} {o : HO} (n : H l = none) : Px p a H (upd H1 l o) := by
  have hl : l ≠ p := x.was.ne n
  have ha : a ≠ l := x.was.ne2 n
  refine ⟨x.was, ?_, ?_⟩
  · obtain ⟨ns, i, c, k, s, h1, h2, h3⟩ := x.pool
    exact ⟨ns, i, c, k, s, by rw [upd_ne hl.symm]; exact h1, by rw [hid_upd_ne hl, upd_ne ha]; exact h2, h3⟩
  · rw [hid_upd_ne hl]; exact Ex.mut x.ex (hid_none n)
/-- a fresh object stands apart from the pool -/
theorem Px.seen (x : Px p a H H1) {l : Addr} {o : HO} (n : H l = none) (e : H1 l = some o) : hid p H1 l = some o := by
  rw [hid_ne (x.was.ne n)]; exact e
end
end G
namespace G
open PySem PySem.Spec PyProof.Rows L2 Evl
/-! ## comprehensions whose elements are plain values -/
theorem given_all {n : Nat} {v : Nat → V} : given n (fun _ => true) v = (List.range n).map v := by
  unfold given
  rw [List.filter_eq_self.mpr (fun _ _ => rfl)]
section
variable {lo : Int} {n j : Nat} {tt : TT} {te : TE} {vs : List Nat} {σ : L2.St} {H1 : Hp} {D : Addr} {Qd : Hp → Prop} {K : PySem.W.Frag} {a : Addr} {xs : List V}
theorem lc_turn {f : Nat → Bool} {v : Nat → V} {i : Nat} {H : Hp} {σ2 : L2.St} (e : H = upd H1 D (.lst (given i f v))) (hi : i < 100000) (ht : Ans tt σ2 H (f i)) (he : f i = true → Val te σ2 H (v i)) :
    tt σ2 H fun b H3 => if b = true then te σ2 H3 fun y H4 => ∃ acc, H4 D = some (.lst acc) ∧ acc.length < sizeLine ∧ (upd H4 D (.lst (acc ++ [y]))) = upd H1 D (.lst (given (i + 1) f v)) else H3 = upd H1 D (.lst (given (i + 1) f v)) := by
  refine ht _ ?_
  subst e
  cases hf : f i with
  | true =>
    refine iteT (he hf _ ⟨_, upd_same, sz_lt (by have := given_len i f v; omega), ?_⟩)
    rw [given_yes hf, upd_upd]
  | false =>
    refine iteF ?_
    rw [given_no hf]
theorem lcR (f : Nat → Bool) (v : Nat → V) (hn : n ≤ 100000) (hw : ∀ x, wipe ((wipe σ vs).set j (some x)) vs = wipe σ vs)
    (ht : ∀ (i : Nat) (H : Hp), i < n → H = upd H1 D (.lst (given i f v)) → Ans tt ((wipe σ vs).set j (some (.int (lo + i)))) H (f i))
    (he : ∀ (i : Nat) (H : Hp), i < n → H = upd H1 D (.lst (given i f v)) → f i = true → Val te ((wipe σ vs).set j (some (.int (lo + i)))) H (v i)) (q : Qd (upd H1 D (.lst (given n f v)))) :
    ∃ W : Nat → Nat → Hp → Prop, (∃ m, W 0 m (upd H1 D (.lst []))) ∧ ∀ i m H, W i m H →
      ((Itr lo n).stop i H ∧ Qd H) ∨ ((Itr lo n).go i H ∧ ∃ Nx : Hp → Prop, (∀ H', Nx H' → ∃ m', m' < m ∧ W (i + 1) m' H') ∧ ∀ x H', (Itr lo n).yld i H x H' → gName j x (wipe σ vs) H' fun σ2 H2 => wipe σ2 vs = wipe σ vs ∧ tt σ2 H2 fun b H3 =>
        if b = true then te σ2 H3 fun y H4 => ∃ acc, H4 D = some (.lst acc) ∧ acc.length < sizeLine ∧ Nx (upd H4 D (.lst (acc ++ [y]))) else Nx H3) :=
  lc_range (fun i H => H = upd H1 D (.lst (given i f v))) rfl (fun i H hi e => ⟨hw _, lc_turn e (by omega) (ht i H hi e) (he i H hi e)⟩) (fun H e => by rw [e]; exact q)
theorem lcRv (v : Nat → V) (hn : n ≤ 100000) (hw : ∀ x, wipe ((wipe σ vs).set j (some x)) vs = wipe σ vs)
    (he : ∀ (i : Nat) (H : Hp), i < n → H = upd H1 D (.lst (given i (fun _ => true) v)) → Val te ((wipe σ vs).set j (some (.int (lo + i)))) H (v i)) (q : Qd (upd H1 D (.lst ((List.range n).map v)))) :
    ∃ W : Nat → Nat → Hp → Prop, (∃ m, W 0 m (upd H1 D (.lst []))) ∧ ∀ i m H, W i m H →
      ((Itr lo n).stop i H ∧ Qd H) ∨ ((Itr lo n).go i H ∧ ∃ Nx : Hp → Prop, (∀ H', Nx H' → ∃ m', m' < m ∧ W (i + 1) m' H') ∧ ∀ x H', (Itr lo n).yld i H x H' → gName j x (wipe σ vs) H' fun σ2 H2 => wipe σ2 vs = wipe σ vs ∧ tYes σ2 H2 fun b H3 =>
        if b = true then te σ2 H3 fun y H4 => ∃ acc, H4 D = some (.lst acc) ∧ acc.length < sizeLine ∧ Nx (upd H4 D (.lst (acc ++ [y]))) else Nx H3) :=
  lcR (fun _ => true) v hn hw (fun _ _ _ _ => fun _ q => q) (fun i H hi e _ => he i H hi e) (by rw [given_all]; exact q)
theorem lcL (f : Nat → Bool) (v : Nat → V) (hx : SqL K H1 a xs) (hD : H1 D = none) (hn : xs.length ≤ 100000) (hw : ∀ x, wipe ((wipe σ vs).set j (some x)) vs = wipe σ vs)
    (ht : ∀ (i : Nat) (x : V) (H : Hp), xs[i]? = some x → H = upd H1 D (.lst (given i f v)) → Ans tt ((wipe σ vs).set j (some x)) H (f i))
    (he : ∀ (i : Nat) (x : V) (H : Hp), xs[i]? = some x → H = upd H1 D (.lst (given i f v)) → f i = true → Val te ((wipe σ vs).set j (some x)) H (v i)) (q : Qd (upd H1 D (.lst (given xs.length f v)))) :
    ∃ W : Nat → Nat → Hp → Prop, (∃ m, W 0 m (upd H1 D (.lst []))) ∧ ∀ i m H, W i m H →
      ((Itl K a).stop i H ∧ Qd H) ∨ ((Itl K a).go i H ∧ ∃ Nx : Hp → Prop, (∀ H', Nx H' → ∃ m', m' < m ∧ W (i + 1) m' H') ∧ ∀ x H', (Itl K a).yld i H x H' → gName j x (wipe σ vs) H' fun σ2 H2 => wipe σ2 vs = wipe σ vs ∧ tt σ2 H2 fun b H3 =>
        if b = true then te σ2 H3 fun y H4 => ∃ acc, H4 D = some (.lst acc) ∧ acc.length < sizeLine ∧ Nx (upd H4 D (.lst (acc ++ [y]))) else Nx H3) :=
  lc_list (fun i H => H = upd H1 D (.lst (given i f v))) rfl (fun i H hi e => by rw [e]; exact ex_l (Ex.new hD) hx) (fun i x H hi e => ⟨hw _, lc_turn e (by have := (List.getElem?_eq_some_iff.mp hi).1; omega) (ht i x H hi e) (he i x H hi e)⟩) (fun H e => by rw [e]; exact q)
theorem lcT (f : Nat → Bool) (v : Nat → V) (hx : SqT K H1 a xs) (hD : H1 D = none) (hn : xs.length ≤ 100000) (hw : ∀ x, wipe ((wipe σ vs).set j (some x)) vs = wipe σ vs)
    (ht : ∀ (i : Nat) (x : V) (H : Hp), xs[i]? = some x → H = upd H1 D (.lst (given i f v)) → Ans tt ((wipe σ vs).set j (some x)) H (f i))
    (he : ∀ (i : Nat) (x : V) (H : Hp), xs[i]? = some x → H = upd H1 D (.lst (given i f v)) → f i = true → Val te ((wipe σ vs).set j (some x)) H (v i)) (q : Qd (upd H1 D (.lst (given xs.length f v)))) :
    ∃ W : Nat → Nat → Hp → Prop, (∃ m, W 0 m (upd H1 D (.lst []))) ∧ ∀ i m H, W i m H →
      ((Itt K a).stop i H ∧ Qd H) ∨ ((Itt K a).go i H ∧ ∃ Nx : Hp → Prop, (∀ H', Nx H' → ∃ m', m' < m ∧ W (i + 1) m' H') ∧ ∀ x H', (Itt K a).yld i H x H' → gName j x (wipe σ vs) H' fun σ2 H2 => wipe σ2 vs = wipe σ vs ∧ tt σ2 H2 fun b H3 =>
        if b = true then te σ2 H3 fun y H4 => ∃ acc, H4 D = some (.lst acc) ∧ acc.length < sizeLine ∧ Nx (upd H4 D (.lst (acc ++ [y]))) else Nx H3) :=
  lc_tup (fun i H => H = upd H1 D (.lst (given i f v))) rfl (fun i H hi e => by rw [e]; exact ex_t (Ex.new hD) hx) (fun i x H hi e => ⟨hw _, lc_turn e (by have := (List.getElem?_eq_some_iff.mp hi).1; omega) (ht i x H hi e) (he i x H hi e)⟩) (fun H e => by rw [e]; exact q)
theorem lcLm (g : V → V) (hx : SqL K H1 a xs) (hD : H1 D = none) (hn : xs.length ≤ 100000) (hw : ∀ x, wipe ((wipe σ vs).set j (some x)) vs = wipe σ vs)
    (he : ∀ (i : Nat) (x : V) (H : Hp), xs[i]? = some x → H = upd H1 D (.lst ((xs.take i).map g)) → Val te ((wipe σ vs).set j (some x)) H (g x)) (q : Qd (upd H1 D (.lst (xs.map g)))) :
    ∃ W : Nat → Nat → Hp → Prop, (∃ m, W 0 m (upd H1 D (.lst []))) ∧ ∀ i m H, W i m H →
      ((Itl K a).stop i H ∧ Qd H) ∨ ((Itl K a).go i H ∧ ∃ Nx : Hp → Prop, (∀ H', Nx H' → ∃ m', m' < m ∧ W (i + 1) m' H') ∧ ∀ x H', (Itl K a).yld i H x H' → gName j x (wipe σ vs) H' fun σ2 H2 => wipe σ2 vs = wipe σ vs ∧ tYes σ2 H2 fun b H3 =>
        if b = true then te σ2 H3 fun y H4 => ∃ acc, H4 D = some (.lst acc) ∧ acc.length < sizeLine ∧ Nx (upd H4 D (.lst (acc ++ [y]))) else Nx H3) :=
  lc_list (fun i H => H = upd H1 D (.lst ((xs.take i).map g))) (by rw [List.take_zero]; rfl) (fun i H hi e => by rw [e]; exact ex_l (Ex.new hD) hx)
    (fun i x H hi e => ⟨hw _, by
      refine iteT (B := H = upd H1 D (.lst ((xs.take (i + 1)).map g))) ?_
      refine he i x H hi e _ ?_
      subst e
      refine ⟨_, upd_same, sz_lt ?_, ?_⟩
      · rw [List.length_map, List.length_take]; have := (List.getElem?_eq_some_iff.mp hi).1; omega
      · rw [upd_upd, List.take_add_one, hi, List.map_append]; rfl⟩) (fun H e => by rw [e, List.take_length]; exact q)
theorem lcTm (g : V → V) (hx : SqT K H1 a xs) (hD : H1 D = none) (hn : xs.length ≤ 100000) (hw : ∀ x, wipe ((wipe σ vs).set j (some x)) vs = wipe σ vs)
    (he : ∀ (i : Nat) (x : V) (H : Hp), xs[i]? = some x → H = upd H1 D (.lst ((xs.take i).map g)) → Val te ((wipe σ vs).set j (some x)) H (g x)) (q : Qd (upd H1 D (.lst (xs.map g)))) :
    ∃ W : Nat → Nat → Hp → Prop, (∃ m, W 0 m (upd H1 D (.lst []))) ∧ ∀ i m H, W i m H →
      ((Itt K a).stop i H ∧ Qd H) ∨ ((Itt K a).go i H ∧ ∃ Nx : Hp → Prop, (∀ H', Nx H' → ∃ m', m' < m ∧ W (i + 1) m' H') ∧ ∀ x H', (Itt K a).yld i H x H' → gName j x (wipe σ vs) H' fun σ2 H2 => wipe σ2 vs = wipe σ vs ∧ tYes σ2 H2 fun b H3 =>
        if b = true then te σ2 H3 fun y H4 => ∃ acc, H4 D = some (.lst acc) ∧ acc.length < sizeLine ∧ Nx (upd H4 D (.lst (acc ++ [y]))) else Nx H3) :=
  lc_tup (fun i H => H = upd H1 D (.lst ((xs.take i).map g))) (by rw [List.take_zero]; rfl) (fun i H hi e => by rw [e]; exact ex_t (Ex.new hD) hx)
    (fun i x H hi e => ⟨hw _, by
      refine iteT (B := H = upd H1 D (.lst ((xs.take (i + 1)).map g))) ?_
      refine he i x H hi e _ ?_
      subst e
      refine ⟨_, upd_same, sz_lt ?_, ?_⟩
      · rw [List.length_map, List.length_take]; have := (List.getElem?_eq_some_iff.mp hi).1; omega
      · rw [upd_upd, List.take_add_one, hi, List.map_append]; rfl⟩) (fun H e => by rw [e, List.take_length]; exact q)
end
end G
namespace G
open PySem PySem.Spec PyProof.Rows L2 Evl
/-! ## rules within a comprehension's block: the written part by its letter -/
section
variable {X : Cx} {K : PySem.W.Frag}
theorem kIxT (h : X.K = K) : IxR X (rIxT K) := by subst h; exact ix_tup
theorem kIxL (h : X.K = K) : IxR X (rIxL K) := by subst h; exact ix_list
theorem kIx (h : X.K = K) : IxR X (rIx K) := by subst h; exact ix_seq
theorem kIn (h : X.K = K) : OpR X (compareOp .In) (rIn K false) := by subst h; exact op_in_seq
theorem kNotIn (h : X.K = K) : OpR X (compareOp .NotIn) (rIn K true) := by subst h; exact op_notIn_seq
theorem kLen (h : X.K = K) : CallR X (.builtin "len") (rLenS K) := by subst h; exact call_len_seq
theorem gStr {x s : Str} {t : Tok} {pos : Pos} (hg : Gl X x) (h : X.mg x = some (.str s t)) (hd : (x == ("__debug__" : Str)) = false := by decide) : PE X (.Name x pos) (tC (.str s)) := pe_glob (v := .str s) hg h ⟨t, rfl⟩ hd
theorem gInt {x : Str} {i : Int} {t : Tok} {pos : Pos} (hg : Gl X x) (h : X.mg x = some (.int i t)) (hd : (x == ("__debug__" : Str)) = false := by decide) : PE X (.Name x pos) (tC (.int i)) := pe_glob (v := .int i) hg h ⟨t, rfl⟩ hd
theorem gRef {x : Str} {a : Addr} {pos : Pos} (hg : Gl X x) (h : X.mg x = some (.ref a)) (hd : (x == ("__debug__" : Str)) = false := by decide) : PE X (.Name x pos) (tC (.ref a)) := pe_glob (v := .ref a) hg h rfl hd
theorem kSlL (h : X.K = K) : SlR X (rSlL K) := by subst h; exact sl_list
theorem kCatA (h : X.K = K) : OpR X (binaryOp .Add) (rCatA K) := by subst h; exact op_catA
theorem kAny (h : X.K = K) (hc : X.calm = true) : CallR X (.builtin "any") (rAny K) := by subst h; exact cr_any hc
theorem kAll (h : X.K = K) (hc : X.calm = true) : CallR X (.builtin "all") (rAll K) := by subst h; exact cr_all hc
theorem kLtT (h : X.K = K) (hu : X.A.units < cLine) : OpR X (compareOp .Lt) (rLtT K) := by subst h; exact op_ltT hu
theorem kPiT {e tg : Expr} {te : TE} (h : X.K = K) (he : PE X e te) : PI X tg e (iTup K te) := by subst h; exact pi_tup he
theorem kPiL {e tg : Expr} {te : TE} (h : X.K = K) (he : PE X e te) : PI X tg e (iList K te) := by subst h; exact pi_list he
theorem kSlA (h : X.K = K) : SlR X (rSlA K) := by subst h; exact sl_tupA
end
end G
namespace G
open PySem PySem.Spec PyProof.Rows L2 Evl
theorem dpAll_map {α : Type} {K : PySem.W.Frag} {H : Hp} {f : α → V} {g : α → PyData} (h : ∀ x, Dp K H (f x) (g x)) : ∀ l : List α, DpAll K H (l.map f) (l.map g)
  | [] => .nil
  | x :: r => .cons (h x) (dpAll_map h r)
theorem dp_ints {K : PySem.W.Frag} {H : Hp} {a : Addr} {ns : List Int} (h : SqL K H a (ns.map V.int)) : Dp K H (.ref a) (.list (ns.map PyData.int)) := .lst h (dpAll_map (fun i => .int i) ns)
theorem dp_nil {K : PySem.W.Frag} {H : Hp} {a : Addr} (h : SqL K H a []) : Dp K H (.ref a) (.list []) := .lst h .nil
theorem eqv_nil (l : List PyData) : PyData.eqv (.list l) (.list []) = l.isEmpty := by cases l <;> rfl
theorem shaped_nil : SeqAt.shaped (.list []) = true := by decide +kernel
end G
/-! enumerate over a tuple -/
namespace PySem
section
variable {prog : Program} {w : World} {A : Around} {E : Value → Shared → Prop} {s : Shared}
theorem G_tupOf {h : Heap} {a : Addr} {xs : Array Value} (p : PyProof.Rows.IsTup h a xs) : h.IsTuple a xs := p
set_option maxHeartbeats 2000000 in
theorem G_enumNew {v : Value} {o : Obj} {Hh : Heap → Prop} (B : Begins v o Hh) :
    Meets (Builtin.«enumerate.__new__» ⟨[.type "enumerate", v], []⟩) (fun _ R s => Hh s.heap ∧
      R (.ok (.ret (.ref (s.heap.push o).objs.size))) { s with heap := (s.heap.push o).push { cls := .type "enumerate", data := .fields #[.none, .bool false, .ref s.heap.objs.size, rawInt 0, .none, .none] } }) :=
  .of_wp fun pr wo ar rr sh hh => by
    obtain ⟨hp, gg, dd, tk, os⟩ := sh; obtain ⟨h1, h2⟩ := hh
    have sub0 := sub_enumerate
    have qq : ∀ {A' : Around} {E : Value → Shared → Prop} {Q : Value → Shared → Prop}, Q (.ref hp.objs.size) ⟨hp.push o, gg, dd, tk, os⟩ → wpAny (model pr wo) A' (pyIter v) Q E ⟨hp, gg, dd, tk, os⟩ :=
      fun z => B.iter pr wo _ _ ⟨hp, gg, dd, tk, os⟩ _ h1 z
    wp_walk using qq
    refine wpAny_stack_any fun _ => wpAny_pure ?_
    split
    · rename_i cc _ _ _ _ _
      cases (cc == Value.type "enumerate") <;> (wp_walk using qq; exact ⟨_, rfl, h2⟩)
    · wp_walk using qq
      exact ⟨_, rfl, h2⟩
theorem G_enumCall {v : Value} {o : Obj} {Hh : Heap → Prop} {Q : Value → Shared → Prop} (B : Begins v o Hh) (h1 : Hh s.heap)
    (k : ∀ h', IsEnum h' (s.heap.objs.size + 1) s.heap.objs.size 0 .none → h'.get? s.heap.objs.size = some o → (∀ b u, s.heap.get? b = some u → h'.get? b = some u) → Q (.ref (s.heap.objs.size + 1)) { s with heap := h' }) :
    wpAny (model prog w) A (call (.type "enumerate") [v]) Q E s := by
  refine callType_new F.called_enumerate (by decide) (F.typeCall_enumerate_1 _) (F.newCall_enumerate_1 _) (fun y => F.args_object_init_2 y _) F.entry_enumerate_new (G_enumNew B) ⟨h1, ?_⟩
  have hz : (s.heap.push o).objs.size = s.heap.objs.size + 1 := Heap.size_push ..
  show _ ∧ _
  rw [hz]
  have he : IsEnum ((s.heap.push o).push { cls := .type "enumerate", data := .fields #[.none, .bool false, .ref s.heap.objs.size, rawInt 0, .none, .none] }) (s.heap.objs.size + 1) s.heap.objs.size 0 .none := by
    have hs := Heap.get?_push_size (s.heap.push o) (o := { cls := .type "enumerate", data := .fields #[.none, .bool false, .ref s.heap.objs.size, rawInt 0, .none, .none] }) rfl
    rw [hz] at hs; exact hs
  exact ⟨⟨_, he, rfl⟩, k _ he (Heap.get?_push_of_some _ (Heap.get?_push_size _ B.free)) fun b u x => Heap.get?_push_of_some _ (Heap.get?_push_of_some _ x)⟩
end
end PySem
namespace G
open PySem PySem.Spec PyProof.Rows L2 Evl
/-- the tuple at a at each turn, each item in a new pair -/
def IteT (K : PySem.W.Frag) (a : Addr) : It :=
  ⟨fun i H => ∃ (xs : List V) (x : V), SqT K H a xs ∧ xs[i]? = some x,
   fun i H v H' => ∃ T x, v = .ref T ∧ H T = none ∧ H' = upd H T (.tup [.int (i : Nat), x]) ∧ ∀ xs, SqT K H a xs → xs[i]? = some x,
   fun i H => ∃ xs : List V, SqT K H a xs ∧ xs.length = i⟩
theorem turn_enumT {P : Program} {w : World} {K : PySem.W.Frag} {elts : List Expr} {kk : Nat} {tpos : Pos} (a e it : Addr) :
    Turn P w K (.Tuple elts kk tpos) (IteT K a) [e, it] e (fun i h => (∃ old, IsEnum h e it ((i : Nat) : Int) old) ∧ h.IsTupleIter it a i ∧ e ≠ it ∧ a ≠ it ∧ a ≠ e) where
  mem := by simp
  obj := fun i h st b hb => by
    obtain ⟨⟨old, he⟩, ⟨o, ho, hc, hd⟩, _⟩ := st
    have hb' : b = e ∨ b = it := by simpa using hb
    rcases hb' with z | z
    · rw [z]; exact ⟨_, he, fun v q => nomatch q⟩
    · rw [z]; exact ⟨o, ho, fun v q => by rw [hd] at q; cases q⟩
  keep := fun i h h' st k => by
    obtain ⟨⟨old, he⟩, hi, hne⟩ := st
    exact ⟨⟨old, k e (by simp) _ he⟩, hi.at fun o q => k it (by simp) o q, hne⟩
  item := by
    intro X hP hw hK hc i pins s σ H E I hf st hg
    subst hP hw hK
    obtain ⟨⟨old, he⟩, hit, hne, hai, hae⟩ := st
    obtain ⟨xs, x, hq, hx⟩ := hg
    obtain ⟨its, rv, p, hz⟩ := I.tuple hq
    obtain ⟨u, hu, ru⟩ := rv.get hx
    have hel : e < s.heap.objs.size := Heap.lt_size he
    have hil : it < s.heap.objs.size := by obtain ⟨_, q, _⟩ := hit; exact Heap.lt_size q
    have hh : X.A.handled = none := I.ok.hd hc
    refine wpAny_pyNext_enum_itemD (Draws.tuple (A := X.A.in1) hh it a hai its.toArray) he ⟨hit, p⟩ ?_ hne ?_ fun y h' tk hy ho hst hT hsz hk => ?_
    · have := (List.getElem?_eq_some_iff.mp hu).1
      simpa using this
    · intro hm
      have hm' : e = it ∨ e = a := by simpa using hm
      rcases hm' with z | z
      · exact hne z
      · exact hae z.symm
    · have ey : y = u := by
        have hy' : its[i]? = some y := by simpa using hy
        exact Option.some.inj (hy'.symm.trans hu)
      subst ey
      refine ⟨_, rfl, wpAny_letOwnedTupleGo_enum (s := { s with heap := h', toks := tk + 1 }) ho fun h'' he' sb => ?_⟩
      have hT2 : h''.get? s.heap.objs.size = some { cls := .type "tuple", data := .seq #[.int i tk, y] } := (sb.2 _ (Nat.ne_of_gt hel)).trans hT
      have new : ObjOk X.prog X.w (upd H s.heap.objs.size (.tup [.int (i : Nat), x])) h'' s.heap.objs.size (.tup [.int (i : Nat), x]) :=
        ⟨by show 2 ≤ sizeLine; decide, [.int i tk, y], .cons ⟨_, rfl⟩ (.cons ru .nil), ⟨_, hT2, rfl, _, rfl⟩⟩
      have I1 : Inv X pins σ (upd H s.heap.objs.size (.tup [.int (i : Nat), x])) { s with heap := h'', toks := tk + 1 } :=
        I.turnedNew (ch := [e, it]) (fun b ob hb q => (sb.2 b (fun z => hb (by simp [z]))).trans (hk b ob (fun z => hb (by simp [z])) (fun z => hb (by simp [z])) q)) hf (Nat.le_refl _) new
      refine ⟨.ref s.heap.objs.size, _, I1, rfl, ⟨_, x, rfl, I.hok.fresh (Nat.le_refl _), rfl, fun ys hy => by rw [I.tuple_inj hy hq]; exact hx⟩, ⟨⟨y, ?_⟩, hst.1.at fun o q => (sb.2 it (Ne.symm hne)).trans q, hne, hai, hae⟩, fun b hb => ?_⟩
      · have e1 : ((i + 1 : Nat) : Int) = (i : Int) + 1 := by omega
        rw [e1]; exact he'
      · have hb' : b < s.heap.objs.size := by
          have hb2 : b = e ∨ b = it := by simpa using hb
          rcases hb2 with z | z
          · rw [z]; exact hel
          · rw [z]; exact hil
        rw [upd_ne (Nat.ne_of_lt hb')]
        exact (hf b hb).1
  done := by
    intro X hP hw hK hc i pins s σ H E I hf st hg
    subst hP hw hK
    obtain ⟨⟨old, he⟩, hit, hne, hai, hae⟩ := st
    obtain ⟨xs, hq, hx⟩ := hg
    obtain ⟨its, rv, p, hz⟩ := I.tuple hq
    obtain ⟨f0, f1, f2, f3, f4, f5⟩ := hf it (by simp)
    have hl := rv.length
    have hh : X.A.handled = none := I.ok.hd hc
    have ei : its.toArray.size = i := by rw [List.size_toArray, ← hl]; exact hx
    have st2 : s.heap.IsTupleIter it a its.toArray.size ∧ s.heap.IsTuple a its.toArray := by rw [ei]; exact ⟨hit, p⟩
    exact wpAny_pyNext_enum_endD (Draws.tuple (A := X.A.in1) hh it a hai its.toArray) he st2 fun h' eb => ⟨rfl, I.turned (t' := s.toks) (fun b o hb q => eb b o hb q) f0 f1 f3 f4 f5⟩
  self := fun A i s Q E st h => by
    obtain ⟨⟨_, he⟩, _⟩ := st
    exact wpAny_pyIter_enum he h
def iEnumT (K : PySem.W.Frag) (ta : TA) : TI := fun σ H R => ta σ H fun vs H1 => ∃ a xs, vs = [.ref a] ∧ SqT K H1 a xs ∧ R (IteT K a) H1
theorem pi_enumT {X : Cx} {e : Expr} {ta : TA} {p pos tpos : Pos} {elts : List Expr} {kk : Nat} (hg : Gl X "enumerate") (hm : X.mg "enumerate" = none) (ha : PA X [e] ta) (hs : starEach [e] X.env = [(false, eval e X.env)] := by rfl) :
    PI X (.Tuple elts kk tpos) (.Call (.Name "enumerate" p) [e] [] pos) (iEnumT X.K ta) := by
  refine ⟨fun pins s σ H R I h => Call_ (ld_blt I hg hm boot_enumerate (PyProof.Rows.callWith_type1 (thn (ha.run pos pins s σ H _ I h) fun us s1 ⟨vs, H1, I1, r1, q1⟩ => ?_) hs rfl))⟩
  obtain ⟨a, xs, rfl, hq, q⟩ := q1
  cases r1 with
  | cons r rr =>
    cases rr
    cases r
    obtain ⟨its, rv, p', hz⟩ := I1.tuple hq
    have hal : a < s1.heap.objs.size := by obtain ⟨o, ho, _⟩ := p'; exact Heap.lt_size ho
    refine G_enumCall (begins_tuple a its.toArray) p' fun h' he hit hk => wpAny_pyIter_enum he ?_
    have I2 : Inv X pins σ H1 { s1 with heap := h' } := I1.kept (t' := s1.toks) hk
    refine ⟨s1.heap.objs.size + 1, [s1.heap.objs.size + 1, s1.heap.objs.size], _, _, H1, rfl, I2, turn_enumT a (s1.heap.objs.size + 1) s1.heap.objs.size,
      ⟨⟨.none, he⟩, ⟨_, hit, rfl, rfl⟩, Nat.succ_ne_self _, Nat.ne_of_lt hal, Nat.ne_of_lt (Nat.lt_succ_of_lt hal)⟩, fun b hb => ?_, q⟩
    have hb' : b = s1.heap.objs.size + 1 ∨ b = s1.heap.objs.size := by simpa using hb
    have hle : s1.heap.objs.size ≤ b := by
      rcases hb' with z | z
      · rw [z]; exact Nat.le_add_right _ _
      · rw [z]; exact Nat.le_refl _
    exact I1.fpOk hle (I1.hok.fresh hle)
theorem walk_enumT {K : PySem.W.Frag} {a : Addr} {xs : List V} : Walk (IteT K a) xs.length (fun H => SqT K H a xs) (YPair (fun i => some (.int (i : Nat))) (fun i => xs[i]?)) := by
  refine ⟨fun i _ hi q => ⟨xs, xs[i], q, by simp [hi]⟩, fun _ q => ⟨xs, q, rfl⟩, fun i H v H' _ q y => ?_⟩
  obtain ⟨T, x, h1, h2, h3, h4⟩ := y
  exact ⟨T, .int (i : Nat), x, h1, h2, h3, rfl, h4 xs q⟩
theorem kPiEnumT {X : Cx} {K : PySem.W.Frag} {e : Expr} {ta : TA} {p pos tpos : Pos} {elts : List Expr} {kk : Nat} (h : X.K = K) (hg : Gl X "enumerate") (hm : X.mg "enumerate" = none) (ha : PA X [e] ta) (hs : starEach [e] X.env = [(false, eval e X.env)] := by rfl) :
    PI X (.Tuple elts kk tpos) (.Call (.Name "enumerate" p) [e] [] pos) (iEnumT K ta) := by subst h; exact pi_enumT hg hm ha hs
end G
/-! t[a::2], t a tuple -/
namespace HT
open PySem PySem.Spec PyProof.Rows L2
section
variable {prog : Program} {w : World} {A : Around} {E : Value → Shared → Prop} {s : Shared}
theorem g_applied {sl : Addr} {vl vu vs : Value} {lo hi : Option Int} {st : Int} {n : Nat} {Q : Int × Int × Nat → Shared → Prop} (hs : s.heap.IsSliceOf sl vl vu vs) (pl : IsPart vl lo) (pu : IsPart vu hi) (ps : IsPart vs (some st)) (h0 : st ≠ 0)
    (h : Q ((Builtin.Slice.sliceAdjust lo hi st (n : Int)).1, st, Builtin.Slice.slicePlaces (Builtin.Slice.sliceAdjust lo hi st (n : Int)).1 (Builtin.Slice.sliceAdjust lo hi st (n : Int)).2 st) s) :
    wpAny (model prog w) A (Builtin.Slice.sliceApplied (.ref sl) (pure (n : Int))) Q E s := by
  obtain ⟨ob, hob, _, hd⟩ := id hs
  unfold Builtin.Slice.sliceApplied Builtin.Slice.sliceFields
  refine wpAny_bind (wpAny_bind (wpAny_field hob hd (x := vl) rfl (wpAny_bind (wpAny_field hob hd (x := vu) rfl (wpAny_bind (wpAny_field hob hd (x := vs) rfl (wpAny_pure ?_)))))))
  refine wpAny_bind (slicePart_ ps ?_)
  show wpAny _ _ (if (st == 0) = true then _ else _) _ _ s
  rw [if_neg (by intro q; exact h0 (eq_of_beq q))]
  exact wpAny_bind (slicePart_ pl (wpAny_bind (slicePart_ pu (wpAny_bind (wpAny_pure (wpAny_pure h))))))
def stepped (xs : List Value) (lo st : Int) (n : Nat) : List Value := (List.range n).filterMap fun (k : Nat) => xs.toArray[(lo + (k : Int) * st).toNat]?
theorem g_getStep {t sl : Addr} {its : List Value} {vl vu vs : Value} {lo hi : Option Int} {st : Int} {Q : Value → Shared → Prop} (ht : IsTup s.heap t its.toArray) (hs : s.heap.IsSliceOf sl vl vu vs) (pl : IsPart vl lo) (pu : IsPart vu hi) (ps : IsPart vs (some st)) (h0 : st ≠ 0) (h1 : st ≠ 1)
    (hz : (stepped its (Builtin.Slice.sliceAdjust lo hi st (its.toArray.size : Int)).1 st (Builtin.Slice.slicePlaces (Builtin.Slice.sliceAdjust lo hi st (its.toArray.size : Int)).1 (Builtin.Slice.sliceAdjust lo hi st (its.toArray.size : Int)).2 st)).length ≤ sizeLine)
    (h : Q (.ref s.heap.objs.size) { s with heap := s.heap.push { cls := .type "tuple", data := .seq (stepped its (Builtin.Slice.sliceAdjust lo hi st (its.toArray.size : Int)).1 st (Builtin.Slice.slicePlaces (Builtin.Slice.sliceAdjust lo hi st (its.toArray.size : Int)).1 (Builtin.Slice.sliceAdjust lo hi st (its.toArray.size : Int)).2 st)).toArray } }) :
    wpAny (model prog w) A (getItem (.ref t) (.ref sl)) Q E s := by
  have ok : sizeOk (.seq (stepped its (Builtin.Slice.sliceAdjust lo hi st (its.toArray.size : Int)).1 st (Builtin.Slice.slicePlaces (Builtin.Slice.sliceAdjust lo hi st (its.toArray.size : Int)).1 (Builtin.Slice.sliceAdjust lo hi st (its.toArray.size : Int)).2 st)).toArray) := by
    show (stepped its _ st _).toArray.size ≤ sizeLine
    rw [List.size_toArray]; exact hz
  obtain ⟨ob, hob, hc, hd⟩ := id hs
  have hTs : s.TypeIs (.ref sl) "slice" := ⟨ob, hob, hc⟩
  unfold getItem
  try with_reducible refine wpAny_holding ?_
  first | refine wpAny_bind (wpAny_pure ?_) | skip
  refine wpAny_bind (wpAny_sequenceKey ht.typeIs (by decide) ?_)
  refine wpAny_bind (wpAny_callSpecial?_slot (name := Str.ofString "__getitem__") ht.typeIs slot_tuple_getitem (wpAny_call_entry slot_tuple_getitem ht.typeIs entry_tuple_getitem ?_ (args_tuple_getitem _ _)))
  show wpAny _ _ (Builtin.Tuple.tupleItemsOf (.ref t) >>= _) _ _ s
  refine wpAny_bind (tupleItemsOf_ ht (wpAny_bind (wpAny_typeOf hTs ?_)))
  rw [if_pos (by decide)]
  refine wpAny_bind (g_applied hs pl pu ps h0 ?_)
  generalize (Builtin.Slice.sliceAdjust lo hi st (its.toArray.size : Int)).1 = l0 at *
  generalize Builtin.Slice.slicePlaces l0 (Builtin.Slice.sliceAdjust lo hi st (its.toArray.size : Int)).2 st = n0 at *
  have hno : ¬ ((l0 == 0 && st == 1 && n0 == its.toArray.size) = true) := by
    intro q
    rw [Bool.and_eq_true, Bool.and_eq_true] at q
    exact h1 (eq_of_beq q.1.2)
  show wpAny _ _ (if (l0 == 0 && st == 1 && n0 == its.toArray.size) = true then _ else _) _ _ s
  rw [if_neg hno]
  first
    | exact wpAny_bind (m := Builtin.Tuple.tupleExact _) (wpAny_newObj_type (wpAny_pure ⟨_, rfl, wpAny_pure h⟩) ok)
    | exact wpAny_bind (m := Builtin.Tuple.tupleExact _) (wpAny_newObj_type (wpAny_bind (wpAny_pure (wpAny_pure ⟨_, rfl, wpAny_pure h⟩))) ok)
    | exact wpAny_bind (wpAny_bind (m := Builtin.Tuple.tupleExact _) (wpAny_newObj_type (wpAny_pure (wpAny_pure ⟨_, rfl, wpAny_pure h⟩)) ok))
    | exact wpAny_bind (wpAny_bind (m := Builtin.Tuple.tupleExact _) (wpAny_newObj_type (wpAny_pure ⟨_, rfl, wpAny_pure h⟩) ok))
end
end HT
namespace G
open PySem PySem.Spec PyProof.Rows L2 Evl
/-- every second item from a on -/
def halfL {α : Type} (a : Nat) (xs : List α) : List α := (List.range ((xs.length - a + 1) / 2)).filterMap fun k => xs[a + 2 * k]?
theorem halfL_len {α : Type} (a : Nat) (xs : List α) : (halfL a xs).length ≤ xs.length + 1 := by
  unfold halfL
  refine Nat.le_trans (List.length_filterMap_le _ _) ?_
  rw [List.length_range]; omega
theorem vals_filterMap {f : Nat → Option V} {g : Nat → Option Value} : ∀ {l : List Nat}, (∀ k, k ∈ l → RelO (f k) (g k)) → Vals (l.filterMap f) (l.filterMap g)
  | [], _ => .nil
  | k :: r, h => by
    have hk := h k (List.mem_cons_self ..)
    have ih := vals_filterMap (l := r) fun j hj => h j (List.mem_cons_of_mem _ hj)
    rw [List.filterMap_cons, List.filterMap_cons]
    cases e : f k with
    | none =>
      cases e2 : g k with
      | none => exact ih
      | some u => rw [e, e2] at hk; exact hk.elim
    | some v =>
      cases e2 : g k with
      | none => rw [e, e2] at hk; exact hk.elim
      | some u => rw [e, e2] at hk; exact .cons hk ih
def tHalf (K : PySem.W.Frag) (a : Nat) (te : TE) : TE := fun σ H Q => te σ H fun x H1 => ∃ t xs, x = .ref t ∧ SqT K H1 t xs ∧ xs.length ≤ 100000 ∧ ∀ p, H1 p = none → Q (.ref p) (upd H1 p (.tup (halfL a xs)))
theorem half_places {a n : Nat} (h : a ≤ 1) : (Builtin.Slice.sliceAdjust (some (a : Int)) none 2 (n : Int)).1 = ((min a n : Nat) : Int) ∧
    Builtin.Slice.slicePlaces (Builtin.Slice.sliceAdjust (some (a : Int)) none 2 (n : Int)).1 (Builtin.Slice.sliceAdjust (some (a : Int)) none 2 (n : Int)).2 2 = (n - a + 1) / 2 := by
  have h2 : ¬ ((2 : Int) < 0) := by omega
  have h3 : (2 : Int) > 0 := by omega
  have ha : ¬ ((a : Int) < 0) := by omega
  have e : Builtin.Slice.sliceAdjust (some (a : Int)) none 2 (n : Int) = (((min a n : Nat) : Int), (n : Int)) := by
    unfold Builtin.Slice.sliceAdjust
    simp only [h2, if_false, ha]
    refine Prod.ext ?_ rfl
    show min (a : Int) (n : Int) = ((min a n : Nat) : Int)
    omega
  rw [e]
  refine ⟨rfl, ?_⟩
  show Builtin.Slice.slicePlaces ((min a n : Nat) : Int) (n : Int) 2 = (n - a + 1) / 2
  unfold Builtin.Slice.slicePlaces
  simp only [h3, if_true]
  split <;> omega
section
variable {X : Cx}
theorem pe_half {e : Expr} {te : TE} {a : Nat} {k1 k2 : Nat} {p1 p2 p3 pos : Pos} (ha : a ≤ 1) (he : PE X e te) : PE X (.Subscript e (.Slice (some (.Constant (.int (a : Int)) k1 p1)) none (some (.Constant (.int 2) k2 p2)) p3) pos) (tHalf X.K a te) := by
  refine ⟨fun pins s σ H Q I h => Subscript_ (thn (he.run pins s σ H _ I h) fun v s1 ⟨x, H1, I1, r1, q1⟩ => ?_)⟩
  obtain ⟨t, xs, rfl, hx, hlen, q⟩ := q1
  cases r1
  have hlo : PO X (some (.Constant (.int (a : Int)) k1 p1)) (tPart (tC (.int (a : Int)))) := po_some pe_int
  have hst : PO X (some (.Constant (.int 2) k2 p2)) (tPart (tC (.int 2))) := po_some pe_int
  refine wpAny_Slice (thn (hlo.run pins s1 σ H1 (fun o H2 => o = some (a : Int) ∧ H2 = H1) I1 ⟨_, rfl, rfl, rfl⟩) fun vl s2 ⟨l, H2, I2, pl, el, e2⟩ => ?_)
  subst el e2
  refine thn (po_none.run pins s2 σ H2 (fun o H3 => o = none ∧ H3 = H2) I2 ⟨rfl, rfl⟩) fun vu s3 ⟨u, H3, I3, pu, eu, e3⟩ => ?_
  subst eu e3
  refine thn (hst.run pins s3 σ H3 (fun o H4 => o = some 2 ∧ H4 = H3) I3 ⟨_, rfl, rfl, rfl⟩) fun vs s4 ⟨o, H4, I4, ps, eo, e4⟩ => ?_
  subst eo e4
  have I5 : Inv X pins σ H4 { s4 with heap := s4.heap.push { cls := .type "slice", data := .fields #[vl, vu, vs] } } := I4.kept (t' := s4.toks) fun b ob q => Heap.get?_push_of_some _ q
  obtain ⟨its, r, ht, hz⟩ := I5.tuple hx
  have hl : its.toArray.size = xs.length := by rw [List.size_toArray]; exact r.length.symm
  obtain ⟨hp1, hp2⟩ := half_places (n := xs.length) ha
  have hrel : Vals (halfL a xs) (HT.stepped its ((min a xs.length : Nat) : Int) 2 ((xs.length - a + 1) / 2)) := by
    unfold halfL HT.stepped
    refine vals_filterMap fun k hk => ?_
    have hk' := List.mem_range.mp hk
    have hi : a + 2 * k < xs.length := by omega
    have en : (((min a xs.length : Nat) : Int) + (k : Int) * 2).toNat = a + 2 * k := by omega
    rw [en, List.getElem?_eq_getElem hi]
    obtain ⟨u, hu, ru⟩ := r.get (List.getElem?_eq_getElem hi)
    rw [List.getElem?_toArray, hu]
    exact ru
  have hsz : (halfL a xs).length ≤ sizeLine := sz_of (by
    unfold halfL
    refine Nat.le_trans (List.length_filterMap_le _ _) ?_
    rw [List.length_range]
    omega)
  show wpAny (model X.prog X.w) X.A (subscriptTail e (.Slice (some (.Constant (.int (a : Int)) k1 p1)) none (some (.Constant (.int 2) k2 p2)) p3) (.ref t) (.ref s4.heap.objs.size)) (EP X pins σ Q) X.xe { s4 with heap := s4.heap.push { cls := .type "slice", data := .fields #[vl, vu, vs] } }
  refine tail_any (ops := [.ref t, .ref s4.heap.objs.size]) ht.typeIs PyProof.Rows.slot_tuple_getitem.lookup ?_ (by with_unfolding_all rfl)
  refine HT.g_getStep ht (Heap.IsSliceOf.new _ vl vu vs) pl pu ps (by decide) (by decide) ?_ ?_
  · rw [hl, hp2, hp1, ← hrel.length]; exact hsz
  · rw [hl, hp2, hp1]
    refine ⟨.ref _, _, I5.laid (t' := s4.toks) (o := .tup (halfL a xs)) (fun b ob q => Heap.get?_push_of_some _ q) (Nat.le_refl _) ?_, rfl, q _ (I5.hok.fresh (Nat.le_refl _))⟩
    exact ⟨hsz, _, hrel, ⟨_, Heap.get?_push_size _ rfl, rfl, _, rfl⟩⟩
end
end G
namespace G
open PySem PySem.Spec PyProof.Rows L2 Evl
theorem tYes_in {σ : L2.St} {H : Hp} {A B : Hp → Prop} (h : A H) : tYes σ H (fun b H3 => if b = true then A H3 else B H3) := by
  show if true = true then A H else B H
  exact iteT h
def tabV (bs : List Bool) : HO := .tup (bs.map V.bl)
theorem inV_ints {k : Int} {l : List Int} : inV (.int k) (l.map V.int) = l.contains k := by
  unfold inV
  rw [List.any_map, List.contains_eq_any_beq]
  congr 1
  funext y
  show (y == k) = (k == y)
  rw [Bool.eq_iff_iff]; simp; exact eq_comm
theorem inV_bls {k : Bool} {l : List Bool} : inV (.bl k) (l.map V.bl) = l.contains k := by
  unfold inV
  rw [List.any_map, List.contains_eq_any_beq]
  congr 1
  funext y
  show (y == k) = (k == y)
  cases y <;> cases k <;> rfl
theorem flat_map {α : Type} {f : α → V} (h : ∀ x, flatV (f x) = true) (l : List α) : (l.map f).all flatV = true := by
  rw [List.all_map]
  exact List.all_eq_true.mpr fun x _ => h x
theorem tif_by {tt : TE} {σ : L2.St} {H : Hp} {Q : VK} (R : V → Hp → Prop) (h : ∀ Q' : VK, (∀ v H', R v H' → Q' v H') → tt σ H Q') (rest : ∀ v H', R v H' → Q v H') : tt σ H Q := h Q rest
theorem bl_eq (a b : Bool) : decide (V.bl a = V.bl b) = decide (a = b) := by cases a <;> cases b <;> rfl
end G
namespace G
open PySem PySem.Spec PyProof.Rows L2
def topS (i : Nat) : Stmt := PySem.Challenge.pw_signoff_k81_sizes_put_in.main.body.getD i (.Pass ⟨0, 0, 0, 0⟩)
abbrev s_check_pin_range : Stmt := topS 8
abbrev s_with_ranges : Stmt := topS 9
abbrev s_sized : Stmt := topS 11
abbrev s_total_cost : Stmt := topS 12
abbrev s_check_counts : Stmt := topS 13
abbrev s_check_costs : Stmt := topS 14
abbrev s_check_ranges : Stmt := topS 15
abbrev s_law_pool : Stmt := topS 17
abbrev s_law_spread : Stmt := topS 18
abbrev s_law_draw : Stmt := topS 19
abbrev s_law_same : Stmt := topS 20
abbrev s_law_bits : Stmt := topS 21
abbrev s_law_table : Stmt := topS 22
abbrev s_law_register : Stmt := topS 23
abbrev s_law_shuffled : Stmt := topS 24
abbrev s_law_circuit : Stmt := topS 25
abbrev s_law_sizes : Stmt := topS 26
abbrev s_law_told : Stmt := topS 27
abbrev s_law_fault : Stmt := topS 28
abbrev s_law : Stmt := topS 29
end G
namespace G
open PySem PySem.Spec PyProof.Rows L2 Evl
structure TxtL (mg : Str → Option Value) : Prop where
  int : mg "int" = none
  len : mg "len" = none
  list : mg "list" = none
  range : mg "range" = none
section
variable {P : Program} {w : World} {K : PySem.W.Frag} {mg : Str → Option Value} {base : Heap}
def spSpread : Sp := fun vs H Q _ => ∃ (c : Int), vs = [.int c] ∧ ∀ v : Int, Q (.int v) H
theorem sc_law_spread : FnScope ["cell", "mixed", "total", "k"] ["cell"] (defScope s_law_spread) := ⟨rfl, rfl, rfl, by decide +kernel, rfl, by decide +kernel, by decide +kernel⟩
theorem ok_law_spread (D : Dfd K mg "_law_spread" s_law_spread ["cell"]) (T : TxtL mg) : Has P w K mg base 1 "_law_spread" ["cell"] spSpread := by
  refine D.has fun f fd F => F.ok sc_law_spread (fun vs H Q E h => ?_) (fun cdv A outer s H vs Q E hr h => ?_)
  · obtain ⟨c, rfl, _⟩ := h
    rfl
  · obtain ⟨c, rfl, q⟩ := h
    refine ⟨_, (pss_cons (ps_set (i := 1) sc_law_spread.nd rfl (.inl rfl) (pe_op op_mod (pe_callTy call_int1 (by rfl) T.int (by decide +kernel) (pa_cons (pv 0) pa_nil)) pe_int))
      (pss_cons (ps_set (i := 2) sc_law_spread.nd rfl (.inl rfl) pe_int)
      (pss_cons (ps_for PassesOwn.never rfl (pi_range1 rfl T.range (pa_cons pe_int pa_nil)) (pg_name (i := 3) sc_law_spread.nd rfl (.inl rfl))
        (pss_cons (ps_set (i := 1) sc_law_spread.nd rfl (.inl rfl) (pe_op op_mod (pe_callTy call_int1 (by rfl) T.int (by decide +kernel) (pa_cons (pe_op op_add (pe_op op_add (pe_op op_mul (pv 1) pe_int) pe_int) (pv 3)) pa_nil)) pe_int))
        (pss_one (ps_set (i := 2) sc_law_spread.nd rfl (.inl rfl) (pe_op op_add (pe_op op_mul (pv 2) pe_int) (pv 1))))))
      (pss_one (ps_ret (pv 2)))))), ?_⟩
    refine ⟨_, rfl, .inl ⟨_, rfl, _, _, rfl, rfl, (by show (0 : Int) < 2147483647; decide), 4, rfl, by decide, by decide, for_range (n := 4) (fun _ σ H' => H' = H ∧ ∃ (x y : Int) (z : Option V), σ = [some (.int c), some (.int x), some (.int y), z]) ⟨rfl, _, _, _, rfl⟩ ?_ ?_⟩⟩
    · rintro i σ H' hi ⟨rfl, x, y, z, rfl⟩
      refine ⟨_, rfl, _, _, rfl, rfl, .inr ⟨by decide, by decide⟩, _, _, rfl, rfl, _, rfl, _, _, rfl, rfl, .inl ⟨_, rfl, _, _, rfl, rfl, (by show (0 : Int) < 2147483647; decide), _, rfl, _, _, rfl, rfl, .inr ⟨by decide, by decide⟩, _, rfl, _, _, rfl, rfl, rfl, _, _, _, rfl⟩⟩
    · rintro σ H' ⟨rfl, x, y, z, rfl⟩
      exact ⟨_, rfl, q y⟩
/-- a draw below n -/
def spDraw : Sp := fun vs H Q _ => ∃ (p a : Addr) (n : Int), vs = [.ref p, .int n] ∧ 0 < n ∧ n.natAbs.log2 < 9000 ∧ PoolOk p a H ∧ ∀ (v : Int) (o : HO), 0 ≤ v → v < n → PoolOk p a (upd H p o) → Q (.int v) (upd H p o)
theorem sc_law_draw : FnScope ["pool", "many", "cell", "mixed", "value"] ["pool", "many"] (defScope s_law_draw) := ⟨rfl, rfl, rfl, by decide +kernel, rfl, by decide +kernel, by decide +kernel⟩
theorem ok_law_draw (D : Dfd K mg "_law_draw" s_law_draw ["pool", "many"]) (T : TxtL mg) (C : Has P w K mg base 1 "_law_spread" ["cell"] spSpread) : Has P w K mg base 2 "_law_draw" ["pool", "many"] spDraw := by
  obtain ⟨f_law_spread, d_law_spread, G_law_spread, g_law_spread, k_law_spread, b_law_spread⟩ := C
  refine D.has fun f fd F => F.ok sc_law_draw (fun vs H Q E h => ?_) (fun cdv A outer s H vs Q E hr h => ?_)
  · obtain ⟨p, a, n, rfl, _⟩ := h
    rfl
  · obtain ⟨p, a, n, rfl, n0, n9, hp, q⟩ := h
    refine ⟨_, (pss_cut (ps_if (PW.pt (pw_and (pt_cmpR op_le (pe_ix ix_list (pv 0) pe_int (fun _ _ => rfl)) pe_int (nomark _)) (pw_and1 (pt_cmpR op_lt (pe_ix ix_list (pv 0) pe_int (fun _ _ => rfl)) (pe_callB call_len_seq (by rfl) T.len (by decide +kernel) (pa_cons (pe_ix ix_list (pv 0) pe_int (fun _ _ => rfl)) pa_nil)) (nomark _)))))
      (pss_cons (ps_set (i := 2) sc_law_draw.nd rfl (.inl rfl) (pe_ix ix_list (pe_ix ix_list (pv 0) pe_int (fun _ _ => rfl)) (pe_ix ix_list (pv 0) pe_int (fun _ _ => rfl)) (fun _ _ => rfl)))
      (pss_cons (ps_asg (pe_op op_add (pe_ix ix_list (pv 0) pe_int (fun _ _ => rfl)) pe_int) (pg_sub (pv 0) pe_int set_list))
      (pss_cons (ps_asg (pv 2) (pg_sub (pv 0) pe_int set_list))
      (pss_one (ps_if (pt_cmpR op_lt (pv 2) pe_int (nomark _))
        (pss_one (ps_asg (pe_call G_law_spread hr (by rfl) g_law_spread k_law_spread b_law_spread .nil pass0 (pa_cons (pv 2) pa_nil)) (pg_sub (pv 0) pe_int set_list)))
        pss_nil)))))
      pss_nil)
    (pss_cons (ps_asg (pe_op op_add (pe_ix ix_list (pv 0) pe_int (fun _ _ => rfl)) pe_int) (pg_sub (pv 0) pe_int set_list))
    (pss_cons (ps_if (pt_cmpR op_le (pe_ix ix_list (pv 0) pe_int (fun _ _ => rfl)) pe_int (nomark _))
      (pss_cons (ps_set (i := 3) sc_law_draw.nd rfl (.inl rfl) (pe_op op_mod (pe_callTy call_int1 (by rfl) T.int (by decide +kernel) (pa_cons (pe_op op_add (pe_op op_add (pe_op op_mul (pe_ix ix_list (pv 0) pe_int (fun _ _ => rfl)) pe_int) (pe_op op_mul (pe_ix ix_list (pv 0) pe_int (fun _ _ => rfl)) pe_int)) pe_int) pa_nil)) pe_int))
      (pss_cons (ps_set (i := 3) sc_law_draw.nd rfl (.inl rfl) (pe_op op_mod (pe_callTy call_int1 (by rfl) T.int (by decide +kernel) (pa_cons (pe_op op_add (pe_op op_mul (pv 3) pe_int) (pe_ix ix_list (pv 0) pe_int (fun _ _ => rfl))) pa_nil)) pe_int))
      (pss_one (ps_ret (pe_op op_mod (pe_op op_fdiv (pv 3) pe_int) (pv 1))))))
      pss_nil)
    (pss_cons (ps_set (i := 4) sc_law_draw.nd rfl (.inl rfl) (pe_op op_mod (pe_callTy call_int1 (by rfl) T.int (by decide +kernel) (pa_cons (pe_ix ix_list (pv 0) pe_int (fun _ _ => rfl)) pa_nil)) (pv 1)))
    (pss_cons (ps_asg (pe_op op_fdivW (pe_ix ix_list (pv 0) pe_int (fun _ _ => rfl)) (pv 1)) (pg_sub (pv 0) pe_int set_list))
    (pss_one (ps_ret (pv 4)))))))), ?_⟩
    obtain ⟨ns, i, c, k, s5, hl, ha, hn⟩ := hp
    have hap : a ≠ p := hid_neq ha
    have haH := hid_get ha
    -- the pool as it stands after writes
    have pk : ∀ (i' : Nat) (c' k' s' : Int), PoolOk p a (upd H p (.lst [.ref a, .int i', .int c', .int k', .int s'])) := fun i' c' k' s' =>
      ⟨ns, i', c', k', s', upd_same, by rw [hid_upd]; exact ha, hn⟩
    refine ⟨fun σ H' => ∃ (i' : Nat) (c' k' s' : Int) (o1 : Option V), σ = [some (.ref p), some (.int n), o1, none, none] ∧ H' p = some (.lst [.ref a, .int i', .int c', .int k', .int s']) ∧ (∀ o, upd H' p o = upd H p o), ?_, ?_⟩
    · refine ⟨_, rfl, _, _, _, _, rfl, rfl, SqL.of hl, atI_nat (j := 2) rfl, _, _, rfl, rfl, _, rfl, ite2 (fun e1 => ?_) (fun e1 => ?_)⟩
      · refine ⟨_, rfl, _, _, _, _, rfl, rfl, SqL.of hl, atI_nat (j := 1) rfl, _, rfl, _, _, _, _, rfl, rfl, SqL.of hl, atI_nat (j := 0) rfl, _, _, rfl, .inl (SqL.of haH), _, _, rfl, rfl, _, rfl, ite2 (fun e2 => ?_) (fun e2 => ?_)⟩
        · have hi : i < (ns.map V.int).length := by have := of_decide_eq_true e2; omega
          have hi' : i < ns.length := by rw [List.length_map] at hi; exact hi
          have gi : (ns.map V.int)[i]? = some (.int ns[i]) := by rw [List.getElem?_map, List.getElem?_eq_getElem hi']; rfl
          refine ⟨_, rfl, _, _, _, _, rfl, rfl, SqL.of hl, atI_nat (j := 0) rfl, _, rfl, _, _, _, _, rfl, rfl, SqL.of hl, atI_nat (j := 1) rfl, _, _, _, _, rfl, rfl, SqL.of haH, atI_nat gi, ?_⟩
          refine ⟨_, rfl, _, _, _, _, rfl, rfl, SqL.of hl, atI_nat (j := 1) rfl, _, _, rfl, rfl, _, rfl, _, _, _, 1, rfl, rfl, hl, rfl, ?_⟩
          refine ⟨_, rfl, _, rfl, _, _, _, 2, rfl, rfl, upd_same, rfl, ?_⟩
          refine ⟨_, rfl, _, _, rfl, rfl, _, rfl, ite2 (fun e3 => ?_) (fun e3 => ?_)⟩
          · refine ⟨_, rfl, _, rfl, fun v => ⟨_, rfl, _, _, _, 2, rfl, rfl, upd_same, rfl, ?_⟩⟩
            exact ⟨i + 1, v, k, s5, _, rfl, upd_same, fun o => by rw [upd_upd, upd_upd, upd_upd]⟩
          · exact ⟨i + 1, ns[i], k, s5, _, rfl, upd_same, fun o => by rw [upd_upd, upd_upd]⟩
        · exact ⟨i, c, k, s5, _, rfl, hl, fun _ => rfl⟩
      · exact iteF ⟨i, c, k, s5, _, rfl, hl, fun _ => rfl⟩
    · rintro σ H' ⟨i, c, k, s5, o1, rfl, hl', hu⟩
      refine ⟨_, rfl, _, _, _, _, rfl, rfl, SqL.of hl', atI_nat (j := 3) rfl, _, _, rfl, rfl, _, rfl, _, _, _, 3, rfl, rfl, hl', rfl, ?_⟩
      refine ⟨_, rfl, _, _, _, _, rfl, rfl, SqL.of upd_same, atI_nat (j := 2) rfl, _, _, rfl, rfl, _, rfl, ite2 (fun e1 => ?_) (fun e1 => ?_)⟩
      · refine ⟨_, rfl, _, _, _, _, rfl, rfl, SqL.of upd_same, atI_nat (j := 4) rfl, _, _, rfl, rfl, .inr ⟨by decide, by decide⟩, _, rfl, _, _, _, _, rfl, rfl, SqL.of upd_same, atI_nat (j := 3) rfl, _, _, rfl, rfl, .inr ⟨by decide, by decide⟩, _, _, rfl, rfl, _, _, rfl, rfl, .inl ⟨_, rfl, _, _, rfl, rfl, (by show (0 : Int) < 2147483647; decide), ?_⟩⟩
        refine ⟨_, rfl, _, _, rfl, rfl, .inr ⟨by decide, by decide⟩, _, rfl, _, _, _, _, rfl, rfl, SqL.of upd_same, atI_nat (j := 3) rfl, _, _, rfl, rfl, .inl ⟨_, rfl, _, _, rfl, rfl, (by show (0 : Int) < 2147483629; decide), ?_⟩⟩
        refine ⟨_, rfl, _, _, rfl, rfl, ⟨by decide, by decide⟩, _, rfl, _, _, rfl, rfl, n0, ?_⟩
        show Q _ _
        rw [hu]
        exact q _ _ (Int.emod_nonneg _ (by omega)) (Int.emod_lt_of_pos _ n0) (pk i c (k + 1) s5)
      · refine ⟨_, rfl, _, _, _, _, rfl, rfl, SqL.of upd_same, atI_nat (j := 2) rfl, .inl ⟨_, rfl, _, rfl, _, _, rfl, rfl, n0, ?_⟩⟩
        refine ⟨_, rfl, _, _, _, _, rfl, rfl, SqL.of upd_same, atI_nat (j := 2) rfl, _, rfl, _, _, rfl, rfl, ⟨n0, n9⟩, _, rfl, _, _, _, 2, rfl, rfl, upd_same, rfl, _, rfl, ?_⟩
        show Q _ _
        rw [upd_upd, hu]
        exact q _ _ (Int.emod_nonneg _ (by omega)) (Int.emod_lt_of_pos _ n0) (pk i (c / n) (k + 1) s5)
/-- the same, the heap behind it a letter -/
def spDrawX : Sp := fun vs H Q _ => ∃ (p a : Addr) (n : Int), vs = [.ref p, .int n] ∧ 0 < n ∧ n ≤ 2 ^ 70 ∧ PoolOk p a H ∧ ∀ (v : Nat) (H' : Hp), (v : Int) < n → Px p a H H' → (∀ b, b ≠ p → H' b = H b) → Q (.int v) H'
theorem log2_small {n : Int} (h0 : 0 < n) (h : n ≤ 2 ^ 70) : n.natAbs.log2 < 9000 := by
  have h1 : n.natAbs < 2 ^ 71 := by omega
  have := PySem.Flt.log2_lt_of (by decide : 0 < 71) h1
  omega
theorem drawX (C : Has P w K mg base 2 "_law_draw" ["pool", "many"] spDraw) : Has P w K mg base 2 "_law_draw" ["pool", "many"] spDrawX :=
  C.imp fun vs H Q E h => by
    obtain ⟨p, a, n, rfl, h0, h1, hp, q⟩ := h
    refine ⟨p, a, n, rfl, h0, log2_small h0 h1, hp, fun v o v0 v1 hq => ?_⟩
    have e : v = ((v.toNat : Nat) : Int) := by omega
    rw [e]
    exact q v.toNat _ (by omega) (Px.draw hp hq) fun b hb => upd_ne hb
end
end G
namespace G
open PySem PySem.Spec PyProof.Rows L2 Evl
section
variable {P : Program} {w : World} {K : PySem.W.Frag} {mg : Str → Option Value} {base : Heap}
theorem cutV_mem {xs : List V} {lo hi : Option Int} {i : Nat} {x : V} (h : (cutV xs lo hi)[i]? = some x) : x ∈ xs := by
  unfold cutV at h
  exact List.mem_of_mem_drop (List.mem_of_mem_take (List.mem_of_getElem? h))
theorem int_of {ns : List Int} {x : V} (h : x ∈ ns.map V.int) : ∃ z, x = .int z := by
  obtain ⟨z, _, e⟩ := List.mem_map.mp h
  exact ⟨z, e.symm⟩
def spPool (K : PySem.W.Frag) : Sp := fun vs H Q _ => ∃ (s : Addr) (ns : List Int), vs = [.ref s] ∧ SqL K H s (ns.map V.int) ∧ ns.length ≤ 1000 ∧ ∀ (p a : Addr) (H' : Hp), PoolOk p a H' → Ex H H' → H p = none → Q (.ref p) H'
theorem sc_law_pool : FnScope ["script", "salt", "cell"] ["script"] (defScope s_law_pool) := ⟨rfl, rfl, rfl, by decide +kernel, rfl, by decide +kernel, by decide +kernel⟩
theorem ok_law_pool (D : Dfd K mg "_law_pool" s_law_pool ["script"]) (T : TxtL mg) : Has P w K mg base 1 "_law_pool" ["script"] (spPool K) := by
  refine D.has fun f fd F => F.ok sc_law_pool (fun vs H Q E h => ?_) (fun cdv A outer s H vs Q E hr h => ?_)
  · obtain ⟨c, _, rfl, _⟩ := h
    rfl
  · obtain ⟨sa, ns, rfl, hs, hn, q⟩ := h
    refine ⟨_, (pss_cons (ps_set (i := 1) sc_law_pool.nd rfl (.inl rfl) pe_int)
      (pss_cons (ps_for PassesOwn.never rfl (pi_list (pe_slice sl_list (pv 0) po_none (po_some pe_int))) (pg_name (i := 2) sc_law_pool.nd rfl (.inl rfl))
        (pss_one (ps_set (i := 1) sc_law_pool.nd rfl (.inl rfl) (pe_op op_mod (pe_callTy call_int1 (by rfl) T.int (by decide +kernel) (pa_cons (pe_op op_add (pe_op op_mul (pv 1) pe_int) (pv 2)) pa_nil)) pe_int))))
      (pss_one (ps_ret (pe_lst (pa_cons (pe_callTy call_list_of (by rfl) T.list (by decide +kernel) (pa_cons (pv 0) pa_nil)) (pa_cons pe_int (pa_cons pe_int (pa_cons pe_int (pa_cons (pv 1) pa_nil)))))))))), ?_⟩
    refine ⟨_, rfl, _, rfl, sa, _, rfl, hs, fun c nc => ⟨c, rfl, ⟨_, SqL.of upd_same⟩, for_list (K := K) (a := c) (xs := cutV (ns.map V.int) none (some 63)) (fun _ σ H' => H' = upd H c (.lst (cutV (ns.map V.int) none (some 63))) ∧ ∃ (x : Int) (z : Option V), σ = [some (.ref sa), some (.int x), z]) ⟨rfl, _, _, rfl⟩ ?_ ?_ ?_⟩⟩
    · rintro i σ H' _ ⟨rfl, _⟩
      exact SqL.of upd_same
    · rintro i x σ H' hi ⟨rfl, y, z, rfl⟩
      obtain ⟨m, rfl⟩ := int_of (cutV_mem hi)
      exact ⟨_, rfl, _, _, rfl, rfl, .inr ⟨by decide, by decide⟩, _, rfl, _, _, rfl, rfl, .inl ⟨_, rfl, _, _, rfl, rfl, (by show (0 : Int) < 1000003; decide), rfl, _, _, rfl⟩⟩
    · rintro σ H' ⟨rfl, y, z, rfl⟩
      have e1 : Ex H (upd H c (.lst (cutV (ns.map V.int) none (some 63)))) := Ex.new nc
      refine ⟨_, rfl, _, _, rfl, .inl (ex_l e1 hs), fun l nl => ⟨_, rfl, (by show 5 ≤ sizeLine; decide), fun p np => ?_⟩⟩
      have e2 := e1.trans (Ex.new (o := .lst (ns.map V.int)) nl)
      have npl : l ≠ p := ne_of_none upd_same np
      exact q p l _ ⟨ns, 0, 0, 0, y, upd_same, by rw [hid_ne npl, upd_ne npl]; exact upd_same, hn⟩ (e2.trans (Ex.new np)) (fresh_back e2 np)
end
end G
namespace G
open PySem PySem.Spec PyProof.Rows L2 Evl
/-! ## data -/
inductive D where
  | non | bl (b : Bool) | int (i : Int) | str (s : Str) | tup (l : List D) | lst (l : List D)
def okD : Nat → D → Prop
  | 0, .tup _ => False
  | 0, .lst _ => False
  | n + 1, .tup l => l.length < 2 ^ 61 ∧ ∀ d ∈ l, okD n d
  | n + 1, .lst l => l.length < 2 ^ 61 ∧ ∀ d ∈ l, okD n d
  | _, _ => True
inductive Rep (H : Hp) : V → D → Prop where
  | non : Rep H .non .non
  | bl (b : Bool) : Rep H (.bl b) (.bl b)
  | int (i : Int) : Rep H (.int i) (.int i)
  | str (s : Str) : Rep H (.str s) (.str s)
  | tup {a : Addr} {xs : List V} {ds : List D} (h : H a = some (.tup xs)) (hl : xs.length = ds.length) (hr : ∀ (i : Nat) (x : V) (d : D), xs[i]? = some x → ds[i]? = some d → Rep H x d) : Rep H (.ref a) (.tup ds)
  | lst {a : Addr} {xs : List V} {ds : List D} (h : H a = some (.lst xs)) (hl : xs.length = ds.length) (hr : ∀ (i : Nat) (x : V) (d : D), xs[i]? = some x → ds[i]? = some d → Rep H x d) : Rep H (.ref a) (.lst ds)
theorem Rep.ex {H H' : Hp} (e : Ex H H') {x : V} {d : D} (r : Rep H x d) : Rep H' x d := by
  induction r with
  | non => exact .non
  | bl b => exact .bl b
  | int i => exact .int i
  | str s => exact .str s
  | tup h hl _ ih => exact .tup (e _ _ h) hl ih
  | lst h hl _ ih => exact .lst (e _ _ h) hl ih
theorem okD.mono : ∀ {n m : Nat} {d : D}, n ≤ m → okD n d → okD m d
  | 0, 0, d, _, h => h
  | 0, m + 1, .non, _, _ => trivial
  | 0, m + 1, .bl _, _, _ => trivial
  | 0, m + 1, .int _, _, _ => trivial
  | 0, m + 1, .str _, _, _ => trivial
  | 0, m + 1, .tup _, _, h => h.elim
  | 0, m + 1, .lst _, _, h => h.elim
  | n + 1, m + 1, .non, _, _ => trivial
  | n + 1, m + 1, .bl _, _, _ => trivial
  | n + 1, m + 1, .int _, _, _ => trivial
  | n + 1, m + 1, .str _, _, _ => trivial
  | n + 1, m + 1, .tup l, le, h => ⟨h.1, fun d hd => okD.mono (Nat.le_of_succ_le_succ le) (h.2 d hd)⟩
  | n + 1, m + 1, .lst l, le, h => ⟨h.1, fun d hd => okD.mono (Nat.le_of_succ_le_succ le) (h.2 d hd)⟩
structure TxtS (mg : Str → Option Value) : Prop where
  isinstance : mg "isinstance" = none
  tuple : mg "tuple" = none
  list : mg "list" = none
  len : mg "len" = none
  range : mg "range" = none
  bool : mg "bool" = none
  int : mg "int" = none
  str : mg "str" = none
section
variable {P : Program} {w : World} {K : PySem.W.Frag} {mg : Str → Option Value} {base : Heap}
/-- equal data: the answer is True -/
def spSame : Nat → Sp
  | 0 => fun _ _ _ _ => False
  | n + 1 => fun vs H Q _ => ∃ (x y : V) (d : D), vs = [x, y] ∧ Rep H x d ∧ Rep H y d ∧ okD n d ∧ Q (.bl true) H
theorem sc_law_same : FnScope ["actual", "due", "k"] ["actual", "due"] (defScope s_law_same) := ⟨rfl, rfl, rfl, by decide +kernel, rfl, by decide +kernel, by decide +kernel⟩
theorem fn_law_same {f : Addr} {fd : FuncData} (F : Fun K "_law_same" "_law_same" s_law_same f fd) (g_law_same : mg "_law_same" = some (.ref f)) (b_law_same : Binds K fd ["actual", "due"] []) (T : TxtS mg) : ∀ n, FnOk P w K mg base CX0 n f fd ["actual", "due"] (spSame n)
  | 0 => ⟨fun _ _ _ _ h => h.elim, fun _ _ _ _ _ _ _ _ _ _ _ _ _ h => h.elim⟩
  | n + 1 => by
    have G_law_same := fn_law_same F g_law_same b_law_same T n
    have k_law_same := F.kp
    refine F.ok sc_law_same (fun vs H Q E h => ?_) (fun cdv A outer s H vs Q E hr h => ?_)
    · obtain ⟨x, y, d, rfl, _⟩ := h
      rfl
    · obtain ⟨x, y, d, rfl, rx, ry, hd, q⟩ := h
      refine ⟨_, (pss_cons (ps_if (PW.pt (pw_or (pt_val (pe_callB call_isi (by rfl) T.isinstance (by decide +kernel) (pa_cons (pv 1) (pa_cons (pe_bltn (v := .ty "tuple") (by rfl) T.tuple (by decide +kernel) rfl) pa_nil)))) (pw_or1 (pt_val (pe_callB call_isi (by rfl) T.isinstance (by decide +kernel) (pa_cons (pv 1) (pa_cons (pe_bltn (v := .ty "list") (by rfl) T.list (by decide +kernel) rfl) pa_nil)))))))
      (pss_cons (ps_if (PW.pt (pw_or (pt_cmpR op_ne (pe_callB call_isi (by rfl) T.isinstance (by decide +kernel) (pa_cons (pv 1) (pa_cons (pe_bltn (v := .ty "tuple") (by rfl) T.tuple (by decide +kernel) rfl) pa_nil))) (pe_callB call_isi (by rfl) T.isinstance (by decide +kernel) (pa_cons (pv 0) (pa_cons (pe_bltn (v := .ty "tuple") (by rfl) T.tuple (by decide +kernel) rfl) pa_nil))) (nomark _)) (pw_or1 (pt_cmpR op_ne (pe_callB call_isi (by rfl) T.isinstance (by decide +kernel) (pa_cons (pv 1) (pa_cons (pe_bltn (v := .ty "list") (by rfl) T.list (by decide +kernel) rfl) pa_nil))) (pe_callB call_isi (by rfl) T.isinstance (by decide +kernel) (pa_cons (pv 0) (pa_cons (pe_bltn (v := .ty "list") (by rfl) T.list (by decide +kernel) rfl) pa_nil))) (nomark _)))))
        (pss_one (ps_ret pe_bl))
        pss_nil)
      (pss_cons (ps_if (pt_cmpR op_ne (pe_callB call_len_seq (by rfl) T.len (by decide +kernel) (pa_cons (pv 0) pa_nil)) (pe_callB call_len_seq (by rfl) T.len (by decide +kernel) (pa_cons (pv 1) pa_nil)) (nomark _))
        (pss_one (ps_ret pe_bl))
        pss_nil)
      (pss_cons (ps_for PassesOwn.never rfl (pi_range1 rfl T.range (pa_cons (pe_callB call_len_seq (by rfl) T.len (by decide +kernel) (pa_cons (pv 1) pa_nil)) pa_nil)) (pg_name (i := 2) sc_law_same.nd rfl (.inl rfl))
        (pss_one (ps_if (pt_not (pt_val (pe_call G_law_same hr (by rfl) g_law_same k_law_same b_law_same .nil pass0 (pa_cons (pe_ix ix_seq (pv 0) (pv 2) (fun _ _ => rfl)) (pa_cons (pe_ix ix_seq (pv 1) (pv 2) (fun _ _ => rfl)) pa_nil)))))
          (pss_one (ps_ret pe_bl))
          pss_nil)))
      (pss_one (ps_ret pe_bl)))))
      pss_nil)
    (pss_cons (ps_if (pt_cmpR op_isN (pv 1) pe_non (nomark _))
      (pss_one (ps_ret (pe_cmpR op_isN (pv 0) pe_non (nomark _))))
      pss_nil)
    (pss_cons (ps_if (pt_val (pe_callB call_isi (by rfl) T.isinstance (by decide +kernel) (pa_cons (pv 1) (pa_cons (pe_bltn (v := .ty "bool") (by rfl) T.bool (by decide +kernel) rfl) pa_nil))))
      (pss_one (ps_ret (pe_and (pe_callB call_isi (by rfl) T.isinstance (by decide +kernel) (pa_cons (pv 0) (pa_cons (pe_bltn (v := .ty "bool") (by rfl) T.bool (by decide +kernel) rfl) pa_nil))) (pe_one (pe_cmpR op_eq (pv 0) (pv 1) (nomark _))))))
      pss_nil)
    (pss_cons (ps_if (pt_val (pe_callB call_isi (by rfl) T.isinstance (by decide +kernel) (pa_cons (pv 1) (pa_cons (pe_bltn (v := .ty "int") (by rfl) T.int (by decide +kernel) rfl) pa_nil))))
      (pss_one (ps_ret (pe_and (pe_callB call_isi (by rfl) T.isinstance (by decide +kernel) (pa_cons (pv 0) (pa_cons (pe_bltn (v := .ty "int") (by rfl) T.int (by decide +kernel) rfl) pa_nil))) (pe_and (pe_not (pe_callB call_isi (by rfl) T.isinstance (by decide +kernel) (pa_cons (pv 0) (pa_cons (pe_bltn (v := .ty "bool") (by rfl) T.bool (by decide +kernel) rfl) pa_nil)))) (pe_one (pe_cmpR op_eq (pv 0) (pv 1) (nomark _)))))))
      pss_nil)
    (pss_one (ps_ret (pe_and (pe_callB call_isi (by rfl) T.isinstance (by decide +kernel) (pa_cons (pv 0) (pa_cons (pe_bltn (v := .ty "str") (by rfl) T.str (by decide +kernel) rfl) pa_nil))) (pe_one (pe_cmpR op_eq (pv 0) (pv 1) (nomark _)))))))))), ?_⟩
      cases rx with
      | non =>
        cases ry
        refine ⟨_, rfl, _, _, _, _, _, rfl, .ty "tuple", .base .non, kit_ty (a := "NoneType") (r := false) (by decide +kernel), _, rfl, iteF ⟨_, rfl, _, _, _, _, _, rfl, .ty "list", .base .non, kit_ty (a := "NoneType") (r := false) (by decide +kernel), _, rfl, iteF ⟨_, rfl, rfl, _, rfl, iteT ⟨_, rfl, rfl, ?_⟩⟩⟩⟩
        exact q
      | bl b =>
        cases ry
        refine ⟨_, rfl, _, _, _, _, _, rfl, .ty "tuple", .base (.bl _), kit_ty (a := "bool") (r := false) (by decide +kernel), _, rfl, iteF ⟨_, rfl, _, _, _, _, _, rfl, .ty "list", .base (.bl _), kit_ty (a := "bool") (r := false) (by decide +kernel), _, rfl, iteF ⟨_, rfl, rfl, _, rfl, iteF ⟨_, rfl, _, _, _, _, _, rfl, .ty "bool", .base (.bl _), kit_ty (a := "bool") (r := true) (by decide +kernel), _, rfl, iteT ⟨_, rfl, _, _, _, _, _, rfl, .ty "bool", .base (.bl _), kit_ty (a := "bool") (r := true) (by decide +kernel), _, rfl, iteT ⟨_, rfl, _, rfl, rfl, ?_⟩⟩⟩⟩⟩⟩
        rw [decide_eq_true rfl]
        exact q
      | int b =>
        cases ry
        refine ⟨_, rfl, _, _, _, _, _, rfl, .ty "tuple", .base (.int _), kit_ty (a := "int") (r := false) (by decide +kernel), _, rfl, iteF ⟨_, rfl, _, _, _, _, _, rfl, .ty "list", .base (.int _), kit_ty (a := "int") (r := false) (by decide +kernel), _, rfl, iteF ⟨_, rfl, rfl, _, rfl, iteF ⟨_, rfl, _, _, _, _, _, rfl, .ty "bool", .base (.int _), kit_ty (a := "int") (r := false) (by decide +kernel), _, rfl, iteF ⟨_, rfl, _, _, _, _, _, rfl, .ty "int", .base (.int _), kit_ty (a := "int") (r := true) (by decide +kernel), _, rfl, iteT ⟨_, rfl, _, _, _, _, _, rfl, .ty "int", .base (.int _), kit_ty (a := "int") (r := true) (by decide +kernel), _, rfl, iteT ⟨_, rfl, _, _, _, _, _, rfl, .ty "bool", .base (.int _), kit_ty (a := "int") (r := false) (by decide +kernel), _, rfl, _, rfl, iteT ⟨_, rfl, _, rfl, rfl, ?_⟩⟩⟩⟩⟩⟩⟩⟩
        rw [decide_eq_true rfl]
        exact q
      | str b =>
        cases ry
        refine ⟨_, rfl, _, _, _, _, _, rfl, .ty "tuple", .base (.str _), kit_ty (a := "str") (r := false) (by decide +kernel), _, rfl, iteF ⟨_, rfl, _, _, _, _, _, rfl, .ty "list", .base (.str _), kit_ty (a := "str") (r := false) (by decide +kernel), _, rfl, iteF ⟨_, rfl, rfl, _, rfl, iteF ⟨_, rfl, _, _, _, _, _, rfl, .ty "bool", .base (.str _), kit_ty (a := "str") (r := false) (by decide +kernel), _, rfl, iteF ⟨_, rfl, _, _, _, _, _, rfl, .ty "int", .base (.str _), kit_ty (a := "str") (r := false) (by decide +kernel), _, rfl, iteF ⟨_, rfl, _, _, _, _, _, rfl, .ty "str", .base (.str _), kit_ty (a := "str") (r := true) (by decide +kernel), _, rfl, iteT ⟨_, rfl, _, rfl, rfl, ?_⟩⟩⟩⟩⟩⟩⟩
        rw [decide_eq_true rfl]
        exact q
      | @tup a xs ds hx lx rx =>
        cases ry with
        | @tup b ys _ hy ly ry =>
          cases n with
          | zero => exact hd.elim
          | succ m =>
            obtain ⟨hlen, hall⟩ := hd
            refine ⟨_, rfl, _, _, _, _, _, rfl, .ty "tuple", .base (.tup hy), kit_ty (a := "tuple") (r := true) (by decide +kernel), _, rfl, iteT (iteT ⟨_, rfl, _, _, _, _, _, rfl, .ty "tuple", .base (.tup hy), kit_ty (a := "tuple") (r := true) (by decide +kernel), _, rfl, _, _, _, _, _, rfl, .ty "tuple", .base (.tup hx), kit_ty (a := "tuple") (r := true) (by decide +kernel), rfl, _, rfl, iteF ⟨_, rfl, _, _, _, _, _, rfl, .ty "list", .base (.tup hy), kit_ty (a := "tuple") (r := false) (by decide +kernel), _, rfl, _, _, _, _, _, rfl, .ty "list", .base (.tup hx), kit_ty (a := "tuple") (r := false) (by decide +kernel), rfl, _, rfl, iteF ⟨_, rfl, _, _, rfl, .inr (SqT.of hx), _, rfl, _, _, rfl, .inr (SqT.of hy), rfl, _, rfl, ?_⟩⟩⟩)⟩
            have el : decide (V.int (xs.length : Int) = V.int (ys.length : Int)) = true := decide_eq_true (by rw [lx, ly])
            rw [el]
            refine ⟨_, rfl, _, _, rfl, .inr (SqT.of hy), _, rfl, by omega, by omega, for_range (n := (ys.length : Int).toNat) (fun _ σ H' => H' = H ∧ ∃ z : Option V, σ = [some (.ref a), some (.ref b), z]) ⟨rfl, _, rfl⟩ ?_ ?_⟩
            · rintro i σ H' hi ⟨rfl, z, rfl⟩
              have hi' : i < ds.length := by omega
              have e0 : (0 : Int) + (i : Int) = (i : Int) := Int.zero_add _
              have g1 : xs[i]? = some xs[i] := List.getElem?_eq_getElem (by omega)
              have g2 : ys[i]? = some ys[i] := List.getElem?_eq_getElem (by omega)
              have g3 : ds[i]? = some ds[i] := List.getElem?_eq_getElem hi'
              rw [e0]
              refine ⟨_, rfl, _, rfl, .inr (.inl ⟨_, _, _, _, rfl, rfl, SqT.of hx, atI_nat g1, _, rfl, _, rfl, .inr (.inl ⟨_, _, _, _, rfl, rfl, SqT.of hy, atI_nat g2, ?_⟩)⟩)⟩
              exact ⟨_, _, ds[i], rfl, rx i _ _ g1 g3, ry i _ _ g2 g3, hall _ (List.getElem_mem hi'), _, rfl, rfl, _, rfl⟩
            · rintro σ H' ⟨rfl, z, rfl⟩
              exact q
      | @lst a xs ds hx lx rx =>
        cases ry with
        | @lst b ys _ hy ly ry =>
          cases n with
          | zero => exact hd.elim
          | succ m =>
            obtain ⟨hlen, hall⟩ := hd
            refine ⟨_, rfl, _, _, _, _, _, rfl, .ty "tuple", .base (.lst hy), kit_ty (a := "list") (r := false) (by decide +kernel), _, rfl, iteF ⟨_, rfl, _, _, _, _, _, rfl, .ty "list", .base (.lst hy), kit_ty (a := "list") (r := true) (by decide +kernel), _, rfl, iteT ⟨_, rfl, _, _, _, _, _, rfl, .ty "tuple", .base (.lst hy), kit_ty (a := "list") (r := false) (by decide +kernel), _, rfl, _, _, _, _, _, rfl, .ty "tuple", .base (.lst hx), kit_ty (a := "list") (r := false) (by decide +kernel), rfl, _, rfl, iteF ⟨_, rfl, _, _, _, _, _, rfl, .ty "list", .base (.lst hy), kit_ty (a := "list") (r := true) (by decide +kernel), _, rfl, _, _, _, _, _, rfl, .ty "list", .base (.lst hx), kit_ty (a := "list") (r := true) (by decide +kernel), rfl, _, rfl, iteF ⟨_, rfl, _, _, rfl, .inl (SqL.of hx), _, rfl, _, _, rfl, .inl (SqL.of hy), rfl, _, rfl, ?_⟩⟩⟩⟩⟩
            have el : decide (V.int (xs.length : Int) = V.int (ys.length : Int)) = true := decide_eq_true (by rw [lx, ly])
            rw [el]
            refine ⟨_, rfl, _, _, rfl, .inl (SqL.of hy), _, rfl, by omega, by omega, for_range (n := (ys.length : Int).toNat) (fun _ σ H' => H' = H ∧ ∃ z : Option V, σ = [some (.ref a), some (.ref b), z]) ⟨rfl, _, rfl⟩ ?_ ?_⟩
            · rintro i σ H' hi ⟨rfl, z, rfl⟩
              have hi' : i < ds.length := by omega
              have e0 : (0 : Int) + (i : Int) = (i : Int) := Int.zero_add _
              have g1 : xs[i]? = some xs[i] := List.getElem?_eq_getElem (by omega)
              have g2 : ys[i]? = some ys[i] := List.getElem?_eq_getElem (by omega)
              have g3 : ds[i]? = some ds[i] := List.getElem?_eq_getElem hi'
              rw [e0]
              refine ⟨_, rfl, _, rfl, .inl ⟨_, _, _, _, rfl, rfl, SqL.of hx, atI_nat g1, _, rfl, _, rfl, .inl ⟨_, _, _, _, rfl, rfl, SqL.of hy, atI_nat g2, ?_⟩⟩⟩
              exact ⟨_, _, ds[i], rfl, rx i _ _ g1 g3, ry i _ _ g2 g3, hall _ (List.getElem_mem hi'), _, rfl, rfl, _, rfl⟩
            · rintro σ H' ⟨rfl, z, rfl⟩
              exact q
theorem ok_law_same (D : Dfd K mg "_law_same" s_law_same ["actual", "due"]) (T : TxtS mg) (n : Nat) : Has P w K mg base n "_law_same" ["actual", "due"] (spSame n) := by
  obtain ⟨f, fd, F, g, b⟩ := D
  exact ⟨f, fd, fn_law_same F g b T n, g, F.kp, b⟩
end
/-! ## data made of flat lists -/
theorem rep_map {H : Hp} {α : Type} {f : α → V} {g : α → D} {l : List α} (h : ∀ x, Rep H (f x) (g x)) : (l.map f).length = (l.map g).length ∧ ∀ (i : Nat) (x : V) (d : D), (l.map f)[i]? = some x → (l.map g)[i]? = some d → Rep H x d := by
  refine ⟨by rw [List.length_map, List.length_map], fun i x d hx hd => ?_⟩
  rw [List.getElem?_map] at hx hd
  cases e : l[i]? with
  | none => rw [e] at hx; cases hx
  | some y =>
    rw [e] at hx hd
    have e1 : f y = x := Option.some.inj hx
    have e2 : g y = d := Option.some.inj hd
    rw [← e1, ← e2]
    exact h y
theorem rep_ints {H : Hp} {a : Addr} {l : List Int} (h : H a = some (.lst (l.map V.int))) : Rep H (.ref a) (.lst (l.map D.int)) :=
  let r := rep_map (H := H) (f := V.int) (g := D.int) (l := l) fun i => .int i
  .lst h r.1 r.2
theorem rep_bls {H : Hp} {a : Addr} {l : List Bool} (h : H a = some (.tup (l.map V.bl))) : Rep H (.ref a) (.tup (l.map D.bl)) :=
  let r := rep_map (H := H) (f := V.bl) (g := D.bl) (l := l) fun i => .bl i
  .tup h r.1 r.2
theorem okD_ints {l : List Int} (h : l.length < 2 ^ 61) : okD 1 (.lst (l.map D.int)) := ⟨by rw [List.length_map]; exact h, fun d hd => by obtain ⟨_, _, rfl⟩ := List.mem_map.mp hd; trivial⟩
end G
namespace G
open PySem PySem.Spec PyProof.Rows L2 Evl
def bitsOf (x m : Nat) : List Bool := (List.range m).map fun k => x.testBit k
theorem bitsOf_len (x m : Nat) : (bitsOf x m).length = m := by unfold bitsOf; rw [List.length_map, List.length_range]
theorem bitsOf_succ (x m : Nat) : bitsOf x (m + 1) = bitsOf x m ++ [x.testBit m] := by unfold bitsOf; rw [List.range_succ, List.map_append]; rfl
theorem bit_at (x i : Nat) : decide (V.int (((x / 2 ^ i : Nat) : Int) % 2) = V.int 1) = x.testBit i := by
  rw [Nat.testBit_eq_decide_div_mod_eq, Bool.eq_iff_iff, decide_eq_true_iff, decide_eq_true_iff, V.int.injEq]
  omega
theorem half_at (x i : Nat) : ((x / 2 ^ i : Nat) : Int) / 2 = ((x / 2 ^ (i + 1) : Nat) : Int) := by
  rw [Nat.pow_succ, ← Nat.div_div_eq_div_mul]
  omega
section
variable {P : Program} {w : World} {K : PySem.W.Frag} {mg : Str → Option Value} {base : Heap}
def spBits : Sp := fun vs H Q _ => ∃ (x m : Nat), vs = [.int x, .int m] ∧ m ≤ 1000 ∧ ∀ (t : Addr) (H' : Hp), H t = none → Ex H H' → H' t = some (.tup ((bitsOf x m).map V.bl)) → Q (.ref t) H'
theorem sc_law_bits : FnScope ["index", "many", "out", "k"] ["index", "many"] (defScope s_law_bits) := ⟨rfl, rfl, rfl, by decide +kernel, rfl, by decide +kernel, by decide +kernel⟩
theorem ok_law_bits (D : Dfd K mg "_law_bits" s_law_bits ["index", "many"]) (T : TxtS mg) : Has P w K mg base 1 "_law_bits" ["index", "many"] spBits := by
  refine D.has fun f fd F => F.ok sc_law_bits (fun vs H Q E h => ?_) (fun cdv A outer s H vs Q E hr h => ?_)
  · obtain ⟨c, _, rfl, _⟩ := h
    rfl
  · obtain ⟨x, m, rfl, hm, q⟩ := h
    refine ⟨_, (pss_cons (ps_set (i := 2) sc_law_bits.nd rfl (.inl rfl) (pe_lst pa_nil))
    (pss_cons (ps_for PassesOwn.never rfl (pi_range1 rfl T.range (pa_cons (pv 1) pa_nil)) (pg_name (i := 3) sc_law_bits.nd rfl (.inl rfl))
      (pss_cons (ps_expr (pe_bm PySem.F.plainAttrs_list PySem.F.slot_list_append PySem.F.type_list_append mt_append (pv 2) (pa_cons (pe_cmpR op_eq (pe_op op_mod (pe_callTy call_int1 (by rfl) T.int (by decide +kernel) (pa_cons (pv 0) pa_nil)) pe_int) pe_int (nomark _)) pa_nil)))
      (pss_one (ps_set (i := 0) sc_law_bits.nd rfl (.inl rfl) (pe_op op_fdiv (pv 0) pe_int)))))
    (pss_one (ps_ret (pe_callTy call_tuple_of (by rfl) T.tuple (by decide +kernel) (pa_cons (pv 2) pa_nil)))))), ?_⟩
    refine ⟨Nat.zero_le _, fun o no => ⟨_, rfl, _, rfl, by omega, by omega, for_range (n := ((m : Int)).toNat) (fun i σ H' => H' = upd H o (.lst ((bitsOf x i).map V.bl)) ∧ ∃ z : Option V, σ = [some (.int ((x / 2 ^ i : Nat) : Int)), some (.int m), some (.ref o), z]) ⟨rfl, _, by rw [Nat.pow_zero, Nat.div_one]; rfl⟩ ?_ ?_⟩⟩
    · rintro i σ H' hi ⟨rfl, z, rfl⟩
      refine ⟨_, rfl, .inl ⟨rfl, _, SqL.of upd_same⟩, _, rfl, .inl ⟨_, rfl, _, _, rfl, rfl, (by show (0 : Int) < 2; decide), rfl, o, _, _, rfl, rfl, upd_same, ?_, _, rfl, _, _, rfl, rfl, ⟨by decide, by decide⟩, ?_, some (.int (0 + (i : Int))), ?_⟩⟩
      · exact sz_lt (by rw [List.length_map, bitsOf_len]; omega)
      · rw [upd_upd, bit_at, bitsOf_succ, List.map_append]; rfl
      · rw [← half_at]; rfl
    · rintro σ H' ⟨rfl, z, rfl⟩
      refine ⟨_, rfl, _, _, rfl, .inl ⟨SqL.of upd_same, fun t nt => ?_⟩⟩
      have e1 : Ex H (upd H o (.lst ((bitsOf x ((m : Int)).toNat).map V.bl))) := Ex.new no
      exact q t _ (fresh_back e1 nt) (e1.trans (Ex.new nt)) upd_same
end
end G
namespace G
open PySem PySem.Spec PyProof.Rows L2 Evl
theorem pow7 : ∀ {m : Nat}, m ≤ 6 → ([.int 1, .int 2, .int 4, .int 8, .int 16, .int 32, .int 64] : List V)[m]? = some (.int ((2 ^ m : Nat) : Int))
  | 0, _ => rfl | 1, _ => rfl | 2, _ => rfl | 3, _ => rfl | 4, _ => rfl | 5, _ => rfl | 6, _ => rfl
  | n + 7, h => by omega
theorem pow6 : ∀ {m : Nat}, m ≤ 5 → ([.int 1, .int 2, .int 4, .int 8, .int 16, .int 32] : List V)[m]? = some (.int ((2 ^ m : Nat) : Int))
  | 0, _ => rfl | 1, _ => rfl | 2, _ => rfl | 3, _ => rfl | 4, _ => rfl | 5, _ => rfl
  | n + 6, h => by omega
theorem pow_le64 {m : Nat} (h : m ≤ 6) : 2 ^ m ≤ 64 := Nat.le_trans (Nat.pow_le_pow_right (by decide) h) (by decide)
theorem pow_pos2 (m : Nat) : 0 < 2 ^ m := Nat.pow_pos (by decide)
theorem divW_small {i : Int} {j : Nat} (h : 0 < j) (h9 : j ≤ 1000) : CDivW i (j : Int) := wide_div (b := 20) (by omega) (by
  rw [Int.natAbs_natCast]
  exact Nat.lt_of_le_of_lt h9 (by decide)) (by decide) (by decide)
section
variable {P : Program} {w : World} {K : PySem.W.Frag} {mg : Str → Option Value} {base : Heap}
/-- a table of m inputs -/
def spTable : Sp := fun vs H Q _ => ∃ (p a : Addr) (m : Nat), vs = [.ref p, .int m] ∧ m ≤ 6 ∧ PoolOk p a H ∧ ∀ (t : Addr) (bs : List Bool) (H' : Hp), bs.length = 2 ^ m → Px p a H H' → H t = none → H' t = some (.tup (bs.map V.bl)) → Q (.ref t) H'
theorem sc_law_table : FnScope ["pool", "many", "size", "kind", "value", "low", "place", "number", "bit", "k"] ["pool", "many"] (defScope s_law_table) := ⟨rfl, rfl, rfl, by decide +kernel, rfl, by decide +kernel, by decide +kernel⟩
theorem ok_law_table (D : Dfd K mg "_law_table" s_law_table ["pool", "many"]) (T : TxtS mg) (C : Has P w K mg base 2 "_law_draw" ["pool", "many"] spDrawX) (C2 : Has P w K mg base 1 "_law_bits" ["index", "many"] spBits) : Has P w K mg base 3 "_law_table" ["pool", "many"] spTable := by
  obtain ⟨f_law_draw, d_law_draw, G_law_draw, g_law_draw, k_law_draw, b_law_draw⟩ := C
  obtain ⟨f_law_bits, d_law_bits, G_law_bits, g_law_bits, k_law_bits, b_law_bits⟩ := C2
  refine D.has fun f fd F => F.ok sc_law_table (fun vs H Q E h => ?_) (fun cdv A outer s H vs Q E hr h => ?_)
  · obtain ⟨c, _, _, rfl, _⟩ := h
    rfl
  · obtain ⟨p, a, m, rfl, hm, hp, q⟩ := h
    have h64 := pow_le64 hm
    have hpos := pow_pos2 m
    refine ⟨_, (pss_cons (ps_set (i := 2) sc_law_table.nd rfl (.inl rfl) (pe_ix ix_list (pe_lst (pa_cons pe_int (pa_cons pe_int (pa_cons pe_int (pa_cons pe_int (pa_cons pe_int (pa_cons pe_int (pa_cons pe_int pa_nil)))))))) (pv 1) (fun _ _ => rfl)))
    (pss_cons (ps_set (i := 3) sc_law_table.nd rfl (.inl rfl) (pe_call G_law_draw hr (by rfl) g_law_draw k_law_draw b_law_draw .nil pass0 (pa_cons (pv 0) (pa_cons pe_int pa_nil))))
    (pss_cons (ps_if (pt_cmpR op_eq (pv 3) pe_int (nomark _))
      (pss_cons (ps_set (i := 4) sc_law_table.nd rfl (.inr rfl) (pe_cmpR op_eq (pe_call G_law_draw hr (by rfl) g_law_draw k_law_draw b_law_draw .nil pass0 (pa_cons (pv 0) (pa_cons pe_int pa_nil))) pe_int (nomark _)))
      (pss_one (ps_ret (pe_callTy call_tuple_of (by rfl) T.tuple (by decide +kernel) (pa_cons (pe_lc (own := [("k", 9)]) (g := gName 9) (tt := tYes) rfl sc_law_table.nd (pi_range1 rfl T.range (pa_cons (pv 2) pa_nil)) (blkOk_by (N := ["pool", "many", "size", "kind", "value", "low", "place", "number", "bit", "k"]) (sc := defScope s_law_table) (own := [("k", 9)]) (by decide +kernel)) (fun _ _ _ _ _ => (pg_name (i := 9) sc_law_table.nd rfl (.inl rfl))) (fun _ _ _ _ _ => pts_nil) (fun _ _ _ _ _ => (pv 4))) pa_nil)))))
      pss_nil)
    (pss_cut (ps_if (PW.pt (pw_and (pt_cmpR op_eq (pv 3) pe_int (nomark _)) (pw_and1 (pt_cmpR op_gt (pv 1) pe_int (nomark _)))))
      (pss_cons (ps_set (i := 5) sc_law_table.nd rfl (.inr rfl) (pe_ix ix_list (pe_lst (pa_cons pe_int (pa_cons pe_int (pa_cons pe_int (pa_cons pe_int (pa_cons pe_int (pa_cons pe_int pa_nil))))))) (pe_call G_law_draw hr (by rfl) g_law_draw k_law_draw b_law_draw .nil pass0 (pa_cons (pv 0) (pa_cons (pv 1) pa_nil))) (fun _ _ => rfl)))
      (pss_one (ps_ret (pe_callTy call_tuple_of (by rfl) T.tuple (by decide +kernel) (pa_cons (pe_lc (own := [("k", 9)]) (g := gName 9) (tt := tYes) rfl sc_law_table.nd (pi_range1 rfl T.range (pa_cons (pv 2) pa_nil)) (blkOk_by (N := ["pool", "many", "size", "kind", "value", "low", "place", "number", "bit", "k"]) (sc := defScope s_law_table) (own := [("k", 9)]) (by decide +kernel)) (fun _ _ _ _ _ => (pg_name (i := 9) sc_law_table.nd rfl (.inl rfl))) (fun _ _ _ _ _ => pts_nil) (fun _ _ _ _ _ => (pe_cmpR op_eq (pe_op op_mod (pe_callTy call_int1 (by rfl) T.int (by decide +kernel) (pa_cons (pe_op op_fdivW (pv 9) (pv 5)) pa_nil)) pe_int) pe_int (nomark _)))) pa_nil)))))
      pss_nil)
    (pss_cons (ps_if (pt_cmpR op_eq (pv 3) pe_int (nomark _))
      (pss_cons (ps_set (i := 6) sc_law_table.nd rfl (.inr rfl) (pe_call G_law_draw hr (by rfl) g_law_draw k_law_draw b_law_draw .nil pass0 (pa_cons (pv 0) (pa_cons (pv 2) pa_nil))))
      (pss_one (ps_ret (pe_callTy call_tuple_of (by rfl) T.tuple (by decide +kernel) (pa_cons (pe_lc (own := [("k", 9)]) (g := gName 9) (tt := tYes) rfl sc_law_table.nd (pi_range1 rfl T.range (pa_cons (pv 2) pa_nil)) (blkOk_by (N := ["pool", "many", "size", "kind", "value", "low", "place", "number", "bit", "k"]) (sc := defScope s_law_table) (own := [("k", 9)]) (by decide +kernel)) (fun _ _ _ _ _ => (pg_name (i := 9) sc_law_table.nd rfl (.inl rfl))) (fun _ _ _ _ _ => pts_nil) (fun _ _ _ _ _ => (pe_cmpR op_eq (pv 9) (pv 6) (nomark _)))) pa_nil)))))
      pss_nil)
    (pss_cons (ps_set (i := 7) sc_law_table.nd rfl (.inl rfl) (pe_call G_law_draw hr (by rfl) g_law_draw k_law_draw b_law_draw .nil pass0 (pa_cons (pv 0) (pa_cons (pe_op op_pow pe_int pe_int) pa_nil))))
    (pss_one (ps_ret (pe_callTy call_tuple_of (by rfl) T.tuple (by decide +kernel) (pa_cons (pe_lc (own := [("bit", 8)]) (g := gName 8) (tt := tYes) rfl sc_law_table.nd (pi_tup (pe_call G_law_bits (hr.mono (by decide)) (by rfl) g_law_bits k_law_bits b_law_bits .nil pass0 (pa_cons (pv 7) (pa_cons (pv 2) pa_nil)))) (blkOk_by (N := ["pool", "many", "size", "kind", "value", "low", "place", "number", "bit", "k"]) (sc := defScope s_law_table) (own := [("bit", 8)]) (by decide +kernel)) (fun _ _ _ _ _ => (pg_name (i := 8) sc_law_table.nd rfl (.inl rfl))) (fun _ _ _ _ _ => pts_nil) (fun _ _ _ _ _ => (pv 8))) pa_nil)))))))))), ?_⟩
    refine ⟨(by show 7 ≤ sizeLine; decide), fun l nl => ⟨_, rfl, _, _, _, _, rfl, rfl, SqL.of upd_same, atI_nat (pow7 hm), ?_⟩⟩
    have X1 : Px p a H (upd H l (.lst [.int 1, .int 2, .int 4, .int 8, .int 16, .int 32, .int 64])) := (Px.refl hp).new nl
    refine ⟨_, rfl, p, a, 6, rfl, by decide, by decide, X1.pool, fun kind H2 hk X2 _ => ?_⟩
    have Y2 := X1.trans X2
    refine ⟨_, rfl, rfl, _, rfl, ite2 (fun e => ?_) (fun e => ?_)⟩
    · refine ⟨_, rfl, p, a, 2, rfl, by decide, by decide, Y2.pool, fun v H3 hv X3 _ => ⟨rfl, ?_⟩⟩
      have Y3 := Y2.trans X3
      refine ⟨_, rfl, _, rfl, by omega, by omega, fun L nL => lcRv (fun _ => .bl (decide (V.int v = V.int 1))) (by omega) (fun _ => rfl) (fun i H4 _ _ Q q => ⟨_, rfl, q⟩) ⟨_, _, rfl, .inl ⟨SqL.of upd_same, fun t nt => ?_⟩⟩⟩
      exact q t ((List.range ((2 ^ m : Nat) : Int).toNat).map fun _ => decide (V.int v = V.int 1)) _ (by rw [List.length_map, List.length_range]; omega) ((Y3.new nL).new nt) ((Y3.new nL).free nt) (by rw [upd_same, List.map_map]; rfl)
    · refine ⟨fun σ H' => σ = [some (.ref p), some (.int m), some (.int ((2 ^ m : Nat) : Int)), some (.int kind), none, none, none, none, none, none] ∧ H' = H2, ?_, ?_⟩
      · refine ⟨_, rfl, rfl, _, rfl, ite2 (fun e1 => ?_) (fun e1 => iteF ⟨rfl, rfl⟩)⟩
        refine ⟨_, rfl, _, _, rfl, rfl, _, rfl, ite2 (fun e2 => ?_) (fun e2 => ⟨rfl, rfl⟩)⟩
        have hm0 : 0 < m := by have := of_decide_eq_true e2; omega
        refine ⟨(by show 6 ≤ sizeLine; decide), fun l2 nl2 => ⟨_, rfl, _, rfl, p, a, m, rfl, by omega, by omega, (Y2.new nl2).pool, fun v H3 hv X3 hk3 => ?_⟩⟩
        have Y3 := (Y2.new nl2).trans X3
        have h2 : H3 l2 = some (.lst [.int 1, .int 2, .int 4, .int 8, .int 16, .int 32]) := by rw [hk3 _ (Y2.pool.ne nl2)]; exact upd_same
        refine ⟨_, _, _, _, rfl, rfl, SqL.of h2, atI_nat (pow6 (by omega)), ?_⟩
        refine ⟨_, rfl, _, rfl, by omega, by omega, fun L nL => lcRv (fun (i : Nat) => .bl (decide (V.int ((0 + (i : Int)) / ((2 ^ v : Nat) : Int) % 2) = V.int 1))) (by omega) (fun _ => rfl) (fun i H4 _ _ Q q => ⟨_, rfl, _, rfl, _, _, rfl, rfl, divW_small (pow_pos2 v) (Nat.le_trans (pow_le64 (by omega)) (by decide)), .inl ⟨_, rfl, _, _, rfl, rfl, (by show (0 : Int) < 2; decide), rfl, q⟩⟩) ⟨_, _, rfl, .inl ⟨SqL.of upd_same, fun t nt => ?_⟩⟩⟩
        exact q t ((List.range ((2 ^ m : Nat) : Int).toNat).map fun (i : Nat) => decide (V.int ((0 + (i : Int)) / ((2 ^ v : Nat) : Int) % 2) = V.int 1)) _ (by rw [List.length_map, List.length_range]; omega) ((Y3.new nL).new nt) ((Y3.new nL).free nt) (by rw [upd_same, List.map_map]; rfl)
      · rintro σ H' ⟨rfl, rfl⟩
        refine ⟨_, rfl, rfl, _, rfl, ite2 (fun e1 => ?_) (fun e1 => ?_)⟩
        · refine ⟨_, rfl, _, rfl, p, a, ((2 ^ m : Nat) : Int), rfl, by omega, by omega, Y2.pool, fun v H3 hv X3 _ => ?_⟩
          have Y3 := Y2.trans X3
          refine ⟨_, rfl, _, rfl, by omega, by omega, fun L nL => lcRv (fun (i : Nat) => .bl (decide (V.int (0 + (i : Int)) = V.int v))) (by omega) (fun _ => rfl) (fun i H4 _ _ Q q => ⟨_, rfl, _, rfl, rfl, q⟩) ⟨_, _, rfl, .inl ⟨SqL.of upd_same, fun t nt => ?_⟩⟩⟩
          exact q t ((List.range ((2 ^ m : Nat) : Int).toNat).map fun (i : Nat) => decide (V.int (0 + (i : Int)) = V.int v)) _ (by rw [List.length_map, List.length_range]; omega) ((Y3.new nL).new nt) ((Y3.new nL).free nt) (by rw [upd_same, List.map_map]; rfl)
        · refine ⟨_, rfl, _, _, rfl, rfl, ⟨by decide, by decide, by decide⟩, p, a, _, rfl, by decide, by decide, Y2.pool, fun v H3 hv X3 _ => ?_⟩
          have Y3 := Y2.trans X3
          refine ⟨_, rfl, _, rfl, v, 2 ^ m, rfl, by omega, fun t1 H4 n1 E1 h1 => ⟨t1, rfl, ⟨_, SqT.of h1⟩, fun L nL => lcTm (xs := (bitsOf v (2 ^ m)).map V.bl) id (SqT.of h1) nL (by rw [List.length_map, bitsOf_len]; omega) (fun _ => rfl) (fun i x H4 _ _ Q q => ⟨_, rfl, q⟩) ⟨_, _, rfl, .inl ⟨SqL.of upd_same, fun t nt => ?_⟩⟩⟩⟩
          have Y4 := Y3.more E1
          exact q t (bitsOf v (2 ^ m)) _ (bitsOf_len _ _) ((Y4.new nL).new nt) ((Y4.new nL).free nt) (by rw [upd_same, List.map_id])
end
end G
namespace G
open PySem PySem.Spec PyProof.Rows L2 Evl
/-! ## own classes of errors -/
def HasX (P : Program) (w : World) (K : PySem.W.Frag) (mg : Str → Option Value) (base : Heap) (k : Nat) (x : Str) (ps : List Str) (sp : Sp) : Prop :=
  ∃ (f : Addr) (fd : FuncData), FnOk P w K mg base (L2.CX P w) k f fd ps sp ∧ mg x = some (.ref f) ∧ PySem.W.keepIn K (.ref f) = true ∧ Binds K fd ps []
theorem passX0 {X : Cx} {P : Program} {w : World} : Passes (L2.CX P w) X (fun _ _ _ => False) := fun _ _ _ _ _ _ _ h => by
  obtain ⟨_, _, _, _, _, _, _, _, _, _, _, _, h⟩ := h
  exact h.elim
/-- an own class over ValueError without __init__, at C -/
structure ExcT (K : PySem.W.Frag) (mg : Str → Option Value) (x : Str) (C : Addr) : Prop where
  gC : mg x = some (.ref C)
  xP : PySem.W.excIn K C [.type "ValueError", .type "Exception", .type "BaseException", .type "object"] "ValueError.__new__" = true
  kC : PySem.W.keepIn K (.ref C) = true
  bC : PySem.W.subIn K (.ref C) (.type "BaseException") = some true
  tC : PySem.W.typeIn K (.ref C) = some (.type "type")
/-- what an except clause asks of the class that it names -/
structure ExcH (K : PySem.W.Frag) (mg : Str → Option Value) (x : Str) (C : Addr) : Prop where
  u : ExcT K mg x C
  dict : PySem.W.hasDictIn K C = true
  self : PySem.W.subIn K (.ref C) (.ref C) = some true
theorem ExcH.hit {K : PySem.W.Frag} {mg : Str → Option Value} {x : Str} {C : Addr} (U : ExcH K mg x C) : PySem.W.exmOne K (.ref C) (.ref C) = some true := PySem.W.exm_ref U.u.bC U.dict U.u.tC U.self
end G
namespace G
open PySem PySem.Spec PyProof.Rows L2 Evl
/-! ## own errors: caught by name or by a class above, asked for their class -/
structure ExcI (K : PySem.W.Frag) (mg : Str → Option Value) (x : Str) (C : Addr) : Prop where
  u : ExcT K mg x C
  dict : PySem.W.hasDictIn K C = true
  self : PySem.W.subIn K (.ref C) (.ref C) = some true
  isc : ExcC K C
def IsK (K : PySem.W.Frag) (mg : Str → Option Value) (C : Addr) (d : Str) (b : Bool) : Prop := ∃ D : Addr, mg d = some (.ref D) ∧ PySem.W.kitOne K (.ref C) (.ref D) = some b
def CatchK (K : PySem.W.Frag) (mg : Str → Option Value) (C : Addr) (s : Str) : Prop := ∃ D : Addr, mg s = some (.ref D) ∧ PySem.W.exmOne K (.ref C) (.ref D) = some true
theorem ExcI.hit {K : PySem.W.Frag} {mg : Str → Option Value} {x : Str} {C : Addr} (U : ExcI K mg x C) : PySem.W.exmOne K (.ref C) (.ref C) = some true := PySem.W.exm_ref U.u.bC U.dict U.u.tC U.self
theorem IsK.at_ {K : PySem.W.Frag} {mg : Str → Option Value} {C D : Addr} {d : Str} {b : Bool} (h : IsK K mg C d b) (g : mg d = some (.ref D)) : PySem.W.kitOne K (.ref C) (.ref D) = some b := by
  obtain ⟨D', g', k⟩ := h
  rw [g] at g'
  cases g'; exact k
theorem CatchK.at_ {K : PySem.W.Frag} {mg : Str → Option Value} {C D : Addr} {s : Str} (h : CatchK K mg C s) (g : mg s = some (.ref D)) : PySem.W.exmOne K (.ref C) (.ref D) = some true := by
  obtain ⟨D', g', k⟩ := h
  rw [g] at g'
  cases g'; exact k
theorem pe_ex {X : Cx} {e : Expr} {α : Type} {p : α → Prop} {t : α → TE} (h : ∀ x, p x → PE X e (t x)) : PE X e (fun σ H Q => ∃ x, p x ∧ t x σ H Q) := by
  refine ⟨fun ps s σ H Q I z => ?_⟩
  obtain ⟨x, px, hx⟩ := z
  exact (h x px).run ps s σ H Q I hx
/-- isinstance of the error that the suite holds: whichever own error it is -/
theorem pe_isE {X : Cx} {a : Addr} {oe : Obj} {pn : List (Addr × Obj)} {cls : Value} {dd : Option Addr} {e : Expr} {t : Addr → TE} (hz : Zc cls dd oe) (hf : ∃ vs, oe.data = .fields vs)
    (h : ∀ D : Addr, Zc (.ref D) none oe → ExcC X.K D → PE (X.suite a ((a, oe) :: pn)) e (t D)) : PE (X.suite a ((a, oe) :: pn)) e (fun σ H Q => ∃ D : Addr, (cls = .ref D ∧ dd = none ∧ ExcC X.K D) ∧ t D σ H Q) :=
  pe_ex (p := fun D => cls = .ref D ∧ dd = none ∧ ExcC X.K D) fun D z => by
    obtain ⟨rfl, rfl, ic⟩ := z
    exact h D hz ic
/-! ## methods of built-in types within a suite: the written part by its letter -/
theorem kBm {X : Cx} {K : PySem.W.Frag} {T name id : String} {r : V → List V → Hp → VK → Prop} {o e : Expr} {es : List Expr} {to_ : TE} {t : TA} {apos cpos : Pos} (h : X.K = K) (p1 : PlainAttrs T) (p2 : Slot T name id) (p3 : typeOf (.builtin id) = pure (.type "method_descriptor")) (p4 : MtR X id r) (p5 : PE X o to_) (p6 : PA X (e :: es) t)
    (p7 : attributeBase o name X.env (eval o X.env) = eval o X.env := by rfl) (p8 : ((backTo cpos (starEach (e :: es) X.env)).all (fun x => !x.1) && (backToKw cpos (keywordEach [] X.env)).all (fun x => x.1.isSome) && decide ((e :: es).length + ([] : List Keyword).length + (if ([] : List Keyword).isEmpty then 0 else 1) < 30)) = true := by rfl)
    (p9 : (apos.endLine == cpos.line) = true := by rfl) (p10 : starEach (e :: es) X.env = (false, eval e X.env) :: starEach es X.env := by rfl) (p11 : (backTo cpos (starEach es X.env)).any (·.1) = false := by rfl) : PE X (.Call (.Attribute o name apos) (e :: es) [] cpos) (tBM K T r to_ t) := by
  subst h
  exact pe_bm p1 p2 p3 p4 p5 p6 p7 p8 p9 p10 p11
theorem kMtIndex {X : Cx} {K : PySem.W.Frag} (h : X.K = K) : MtR X "list.index" (rIndex K) := by subst h; exact mt_index
/-! ## methods and classes called where what is raised is taken at the slots -/
section
variable {X : Cx} {CX : CXT} {k : Nat} {f C : Addr} {fd : FuncData} {ps : List Str} {sp : Sp} {dvs : List V} {ds : List Value} {E : L2.St → XK} {x m : Str} {p pos apos : Pos} {e o : Expr} {es : List Expr} {to_ : TE} {t : TA}
def tMethX (C : Addr) (m : Str) (sp : Sp) (dvs : List V) (E : L2.St → XK) (to_ : TE) (t : TA) : TE := fun σ H Q => to_ σ H fun x H1 => ∃ a dx fs, x = .ref a ∧ H1 a = some (.ins C dx fs) ∧ fs.lookup m = none ∧ t σ H1 fun vs H2 => sp (x :: (vs ++ dvs)) H2 Q (E σ)
def tMakeX (C : Addr) (sp : Sp) (dvs : List V) (E : L2.St → XK) (t : TA) : TE := fun σ H Q => t σ H fun vs H1 => ∀ x dx, H1 x = none → H1 dx = none → dx ≠ x → sp (.ref x :: (vs ++ dvs)) (upd (upd H1 dx (.own x)) x (.ins C dx [])) (fun v H2 => v = .non ∧ Q (.ref x) H2) (E σ)
theorem pe_methX {pl : Sem Bool} (ho : PE X o to_) (cc : Cls X.K C) (mm : Meth X.K C m f) (Fk : FnOk X.prog X.w X.K X.mg X.base CX k f fd ps sp) (rm : Room k X.A) (bd : Binds X.K fd ps ds) (dv : Vals dvs ds)
    (px : ∀ σ, PassesAt CX X σ (E σ)) (pa : PA X (e :: es) t) (s1 : starEach (e :: es) X.env = (false, eval e X.env) :: starEach es X.env := by rfl) (s2 : (backTo pos (starEach es X.env)).any (·.1) = false := by rfl)
    (s3 : eval (.Call (.Attribute o m apos) (e :: es) [] pos) X.env = (do let ov ← eval o X.env; standAt apos.atName; let (f, first) ← holding [ov] (getMethod ov m pl); callWith pos f first (backTo pos (starEach (e :: es) X.env)) (backToKw pos (keywordEach [] X.env))) := by rfl) :
    PE X (.Call (.Attribute o m apos) (e :: es) [] pos) (tMethX C m sp dvs E to_ t) := by
  refine ⟨fun pins st σ H Q I z => PySem.W.methodCall_KW (pl := pl) (thn (ho.run pins st σ H _ I z) fun q0 st1 ⟨y, H1, I1, ry, b, dx, fl, ey, eb, lk, z1⟩ => ?_) s3⟩
  subst ey
  cases (show q0 = Value.ref b from ry)
  exact getmeth_ok I1 eb cc mm lk (PySem.W.callWith_K (first := [.ref b]) (h₀ := X.base) I.ok.mod.kin mm.kp (thn (pa.run pos pins st1 σ H1 _ I1 z1) fun ws st2 ⟨vs, H2, I2, rs, z2⟩ => ⟨I2.kIn, run_fnSD (us := .ref b :: ws) (vs := .ref b :: vs) Fk rm bd dv (px σ) I2 (.cons rfl rs) z2⟩) s1 s2)
theorem run_makeX {pins : List (Addr × Obj)} {σ : L2.St} {H : Hp} {st : Shared} {Q : VK} {us : List Value} {vs : List V} (M : Mk X.K C f) (Fk : FnOk X.prog X.w X.K X.mg X.base CX k f fd ps sp) (rm : Room (k + 1) X.A) (bd : Binds X.K fd ps ds) (dv : Vals dvs ds)
    (px : PassesAt CX X σ (E σ)) (I : Inv X pins σ H st) (rs : Vals vs us)
    (z : ∀ x dx, H x = none → H dx = none → dx ≠ x → sp (.ref x :: (vs ++ dvs)) (upd (upd H dx (.own x)) x (.ins C dx [])) (fun v H2 => v = .non ∧ Q (.ref x) H2) (E σ)) :
    wpAny (model X.prog X.w) X.A (call (.ref C) us) (EP X pins σ Q) X.xe st := by
  have z1 := z (st.heap.objs.size + 1) st.heap.objs.size (I.hok.fresh (Nat.le_succ _)) (I.hok.fresh (Nat.le_refl _)) (Nat.ne_of_lt (Nat.lt_succ_self _))
  have J := Inv.made (C := C) I
  have rr : Vals (V.ref (st.heap.objs.size + 1) :: (vs ++ dvs)) (Value.ref (st.heap.objs.size + 1) :: (us ++ ds)) := .cons rfl (rs.append dv)
  have len : (Value.ref (st.heap.objs.size + 1) :: us ++ ds).length = ps.length := (rr.length.symm.trans (Fk.len _ _ _ _ z1))
  refine wpAny_call (make_map (f := f) I.kIn M.makes M.init (beq_iff_eq.mp M.fn) (codeAny_mono (Fk.run _ X.stack _ _ ⟨Value.ref (st.heap.objs.size + 1) :: us, []⟩ (Value.ref (st.heap.objs.size + 1) :: (us ++ ds)) _ _ (E σ) (rm.make C us []) (J.env0.make C us []) (bd _ (Value.ref (st.heap.objs.size + 1) :: us) J.kIn len) rr z1) fun r st' h => ?_))
  match r, h with
  | .error er, h => exact px pins _ _ er st' J h
  | .ok (.ret u), h =>
    obtain ⟨v, H', I3, rv, ev, q3⟩ := J.after h
    subst ev
    exact ⟨rv, ⟨V.ref (st.heap.objs.size + 1), H', I3, rfl, q3⟩⟩
  | .ok .next, h => exact h.elim
  | .ok .brk, h => exact h.elim
  | .ok .cont, h => exact h.elim
theorem pe_makeX (M : Mk X.K C f) (Fk : FnOk X.prog X.w X.K X.mg X.base CX k f fd ps sp) (rm : Room (k + 1) X.A) (gl : Gl X x) (gm : X.mg x = some (.ref C)) (bd : Binds X.K fd ps ds) (dv : Vals dvs ds) (px : ∀ σ, PassesAt CX X σ (E σ)) (pa : PA X (e :: es) t)
    (s0 : (x == ("__debug__" : Str)) = false := by decide) (s1 : starEach (e :: es) X.env = (false, eval e X.env) :: starEach es X.env := by rfl) (s2 : (backTo pos (starEach es X.env)).any (·.1) = false := by rfl) : PE X (.Call (.Name x p) (e :: es) [] pos) (tMakeX C sp dvs E t) :=
  ⟨fun pins st σ H Q I z => wpAny_Call_Name_kw (ld_glob I gl gm (PySem.W.callWith_K (h₀ := X.base) I.ok.mod.kin M.kp (thn (pa.run pos pins st σ H _ I z) fun us st1 ⟨vs, H1, I1, r, q⟩ => ⟨I1.kIn, run_makeX M Fk rm bd dv (px σ) I1 r q⟩) s1 s2) s0)⟩
end
end G
namespace G
open PySem PySem.Spec PyProof.Rows L2 Evl
/-! ## two lists side by side -/
def All2 {α β : Type} (R : α → β → Prop) (as : List α) (bs : List β) : Prop := as.length = bs.length ∧ ∀ (i : Nat) (a : α) (b : β), as[i]? = some a → bs[i]? = some b → R a b
theorem All2.nil {α β : Type} {R : α → β → Prop} : All2 R [] [] := ⟨rfl, fun _ _ _ h => nomatch h⟩
theorem All2.imp {α β : Type} {R S : α → β → Prop} {as : List α} {bs : List β} (h : All2 R as bs) (f : ∀ a b, R a b → S a b) : All2 S as bs := ⟨h.1, fun i a b h1 h2 => f _ _ (h.2 i a b h1 h2)⟩
theorem All2.snoc {α β : Type} {R : α → β → Prop} {as : List α} {bs : List β} {a : α} {b : β} (h : All2 R as bs) (r : R a b) : All2 R (as ++ [a]) (bs ++ [b]) := by
  refine ⟨by rw [List.length_append, List.length_append, h.1]; rfl, fun i x y h1 h2 => ?_⟩
  by_cases hi : i < as.length
  · rw [List.getElem?_append_left hi] at h1
    rw [List.getElem?_append_left (h.1 ▸ hi)] at h2
    exact h.2 i x y h1 h2
  · rw [List.getElem?_append_right (by omega)] at h1
    rw [List.getElem?_append_right (by rw [← h.1]; omega), ← h.1] at h2
    cases e : i - as.length with
    | zero =>
      rw [e] at h1 h2
      cases h1; cases h2; exact r
    | succ n => rw [e] at h1; exact nomatch h1
theorem All2.at_ {α β : Type} {R : α → β → Prop} {as : List α} {bs : List β} (h : All2 R as bs) {i : Nat} {a : α} (e : as[i]? = some a) : ∃ b, bs[i]? = some b ∧ R a b := by
  have hi : i < bs.length := by rw [← h.1]; exact (List.getElem?_eq_some_iff.mp e).1
  exact ⟨bs[i], List.getElem?_eq_getElem hi, h.2 i a _ e (List.getElem?_eq_getElem hi)⟩
theorem All2.of {α β : Type} {R : α → β → Prop} {as : List α} {bs : List β} (h : All2 R as bs) {i : Nat} {b : β} (e : bs[i]? = some b) : ∃ a, as[i]? = some a ∧ R a b := by
  have hi : i < as.length := by rw [h.1]; exact (List.getElem?_eq_some_iff.mp e).1
  exact ⟨as[i], List.getElem?_eq_getElem hi, h.2 i _ b (List.getElem?_eq_getElem hi) e⟩
theorem All2.cons {α β : Type} {R : α → β → Prop} {as : List α} {bs : List β} {a : α} {b : β} (r : R a b) (h : All2 R as bs) : All2 R (a :: as) (b :: bs) := by
  refine ⟨by rw [List.length_cons, List.length_cons, h.1], fun i x y h1 h2 => ?_⟩
  cases i with
  | zero => cases h1; cases h2; exact r
  | succ i => exact h.2 i x y h1 h2
theorem take_snoc1 {α : Type} {l : List α} {j : Nat} {x : α} (h : l[j]? = some x) : l.take (j + 1) = l.take j ++ [x] := by rw [List.take_add_one, h]; rfl
theorem refs_get {as : List Addr} {k : Nat} {x : V} (hx : (as.map V.ref)[k]? = some x) : ∃ a, as[k]? = some a ∧ x = .ref a := by
  rw [List.getElem?_map] at hx
  cases e : as[k]? with
  | none => rw [e] at hx; cases hx
  | some a => rw [e] at hx; cases hx; exact ⟨a, rfl, rfl⟩
/-! ## walks: any body -/
theorem wk_list {K : PySem.W.Frag} {a : Addr} {xs : List V} {body : (Hp → Prop) → V → Hp → Prop} {H0 : Hp} {Qd : Hp → Prop} (Pv : Nat → Hp → Prop) (h0 : Pv 0 H0) (hl : ∀ i H, i ≤ xs.length → Pv i H → SqL K H a xs)
    (hs : ∀ i x H, xs[i]? = some x → Pv i H → body (Pv (i + 1)) x H) (hd : ∀ H, Pv xs.length H → Qd H) :
    ∃ W : Nat → Nat → Hp → Prop, (∃ m, W 0 m H0) ∧ ∀ i m H, W i m H → ((Itl K a).stop i H ∧ Qd H) ∨ ((Itl K a).go i H ∧ ∃ Nx : Hp → Prop, (∀ H', Nx H' → ∃ m', m' < m ∧ W (i + 1) m' H') ∧ ∀ x H', (Itl K a).yld i H x H' → body Nx x H') := by
  refine ⟨fun i m H => m = xs.length - i ∧ i ≤ xs.length ∧ Pv i H, ⟨xs.length, by simp, Nat.zero_le _, h0⟩, ?_⟩
  rintro i m H ⟨rfl, hi, p⟩
  have q := hl i H hi p
  rcases Nat.lt_or_ge i xs.length with lt | ge
  · have e : xs[i]? = some xs[i] := List.getElem?_eq_getElem lt
    refine .inr ⟨⟨xs, xs[i], q, e⟩, Pv (i + 1), fun H' p' => ⟨xs.length - (i + 1), by omega, rfl, lt, p'⟩, fun x H' y => ?_⟩
    obtain ⟨rfl, y⟩ := y
    exact hs i x _ (y xs q) p
  · have e : i = xs.length := by omega
    subst e
    exact .inl ⟨⟨xs, q, Nat.le_refl _⟩, hd H p⟩
theorem wk_tup {K : PySem.W.Frag} {a : Addr} {xs : List V} {body : (Hp → Prop) → V → Hp → Prop} {H0 : Hp} {Qd : Hp → Prop} (Pv : Nat → Hp → Prop) (h0 : Pv 0 H0) (hl : ∀ i H, i ≤ xs.length → Pv i H → SqT K H a xs)
    (hs : ∀ i x H, xs[i]? = some x → Pv i H → body (Pv (i + 1)) x H) (hd : ∀ H, Pv xs.length H → Qd H) :
    ∃ W : Nat → Nat → Hp → Prop, (∃ m, W 0 m H0) ∧ ∀ i m H, W i m H → ((Itt K a).stop i H ∧ Qd H) ∨ ((Itt K a).go i H ∧ ∃ Nx : Hp → Prop, (∀ H', Nx H' → ∃ m', m' < m ∧ W (i + 1) m' H') ∧ ∀ x H', (Itt K a).yld i H x H' → body Nx x H') := by
  refine ⟨fun i m H => m = xs.length - i ∧ i ≤ xs.length ∧ Pv i H, ⟨xs.length, by simp, Nat.zero_le _, h0⟩, ?_⟩
  rintro i m H ⟨rfl, hi, p⟩
  have q := hl i H hi p
  rcases Nat.lt_or_ge i xs.length with lt | ge
  · have e : xs[i]? = some xs[i] := List.getElem?_eq_getElem lt
    refine .inr ⟨⟨xs, xs[i], q, e⟩, Pv (i + 1), fun H' p' => ⟨xs.length - (i + 1), by omega, rfl, lt, p'⟩, fun x H' y => ?_⟩
    obtain ⟨rfl, y⟩ := y
    exact hs i x _ (y xs q) p
  · have e : i = xs.length := by omega
    subst e
    exact .inl ⟨⟨xs, q, Nat.le_refl _⟩, hd H p⟩
theorem wk_it {J : It} {n : Nat} {Gd : Hp → Prop} {Y : Nat → Hp → V → Hp → Prop} (w : Walk J n Gd Y) {body : (Hp → Prop) → V → Hp → Prop} {H0 : Hp} {Qd : Hp → Prop} (Pv : Nat → Hp → Prop) (h0 : Pv 0 H0) (hG : ∀ i H, i ≤ n → Pv i H → Gd H)
    (hs : ∀ i x H H', i < n → Pv i H → Y i H x H' → body (Pv (i + 1)) x H') (hd : ∀ H, Pv n H → Qd H) :
    ∃ W : Nat → Nat → Hp → Prop, (∃ m, W 0 m H0) ∧ ∀ i m H, W i m H → (J.stop i H ∧ Qd H) ∨ (J.go i H ∧ ∃ Nx : Hp → Prop, (∀ H', Nx H' → ∃ m', m' < m ∧ W (i + 1) m' H') ∧ ∀ x H', J.yld i H x H' → body Nx x H') := by
  refine ⟨fun i m H => m = n - i ∧ i ≤ n ∧ Pv i H, ⟨n, by simp, Nat.zero_le _, h0⟩, ?_⟩
  rintro i m H ⟨rfl, hi, p⟩
  rcases Nat.lt_or_ge i n with lt | ge
  · exact .inr ⟨w.goes i H lt (hG i H hi p), Pv (i + 1), fun H' p' => ⟨n - (i + 1), by omega, rfl, lt, p'⟩, fun x H' y => hs i x H H' lt p (w.yields i H x H' lt (hG i H hi p) y)⟩
  · have e : i = n := by omega
    subst e
    exact .inl ⟨w.stops H (hG i H hi p), hd H p⟩
/-! ## tuples joined and cut, whatever object that is -/
theorem cat_tup {K : PySem.W.Frag} {H : Hp} {a b : Addr} {xs ys : List V} {Q : VK} (ha : H a = some (.tup xs)) (hb : H b = some (.tup ys)) (hl : xs.length + ys.length ≤ sizeLine) (q : ∀ c H', Ex H H' → H' c = some (.tup (xs ++ ys)) → Q (.ref c) H') : rCatA K (.ref a) (.ref b) H Q := by
  refine ⟨a, b, xs, ys, rfl, rfl, SqT.of ha, SqT.of hb, hl, fun e => ?_, fun _ e => ?_, fun _ _ p np => ?_⟩
  · subst e; exact q b H (Ex.refl _) hb
  · subst e; exact q a H (Ex.refl _) (by rw [List.append_nil]; exact ha)
  · exact q p _ (Ex.new np) upd_same
theorem cut_tup {K : PySem.W.Frag} {H : Hp} {a : Addr} {xs : List V} {lo hi : Option Int} {Q : VK} (ha : H a = some (.tup xs)) (q : ∀ c H', Ex H H' → H' c = some (.tup (cutV xs lo hi)) → Q (.ref c) H') : rSlA K (.ref a) lo hi H Q := by
  refine ⟨a, xs, rfl, SqT.of ha, fun e => ?_, fun _ p np => q p _ (Ex.new np) upd_same⟩
  refine q a H (Ex.refl _) ?_
  rw [ha]
  unfold cutV
  rw [e.1, e.2, List.drop_zero, Nat.sub_zero, List.take_length]
theorem cutV_head {xs : List V} {k : Nat} (h : k ≤ xs.length) : cutV xs none (some (k : Int)) = xs.take k := by
  unfold cutV
  rw [HT.sIx_none, HT.sIx_nat, List.drop_zero, Nat.sub_zero, Nat.min_eq_left h]
theorem cutV_tail {xs : List V} {k : Nat} (h : k ≤ xs.length) : cutV xs (some (k : Int)) none = xs.drop k := by
  unfold cutV
  rw [HT.sIx_none, HT.sIx_nat, Nat.min_eq_left h, List.take_of_length_le]
  rw [List.length_drop]; exact Nat.le_refl _
end G
namespace G
open PySem PySem.Spec PyProof.Rows L2 Evl
/-! ## tuples never change -/
def TEx (H H' : Hp) : Prop := ∀ (b : Addr) (xs : List V), H b = some (.tup xs) → H' b = some (.tup xs)
theorem TEx.refl (H : Hp) : TEx H H := fun _ _ h => h
theorem TEx.trans {H H1 H2 : Hp} (a : TEx H H1) (b : TEx H1 H2) : TEx H H2 := fun c xs h => b c xs (a c xs h)
theorem TEx.of {H H' : Hp} (e : Ex H H') : TEx H H' := fun b xs h => e b _ h
theorem TEx.px {p a : Addr} {H H' : Hp} (x : Px p a H H') : TEx H H' := fun b xs h => by
  obtain ⟨_, _, _, _, _, e, _⟩ := x.was
  exact x.at_ (b := b) (o := .tup xs) (by rw [hid_ne (ne_of h e (by intro z; cases z))]; exact h)
theorem TEx.new {H : Hp} {b : Addr} {o : HO} (n : H b = none) : TEx H (upd H b o) := .of (Ex.new n)
theorem TEx.mut {H : Hp} {b : Addr} {l : List V} {o : HO} (h : H b = some (.lst l)) : TEx H (upd H b o) := fun c xs hc => by
  rw [upd_ne (ne_of hc h (by intro z; cases z))]; exact hc
/-! ## circuits -/
structure GateD where
  name : Str
  tab : List Bool
  pins : List Str
  rng : List (Int × Int)
structure RegD where
  name : Str
  net : Str
  edge : Int × Int
  out : Int × Int
  setup : Int
  hold : Int
  start : Bool
structure CircD where
  ins : List Str
  gates : List GateD
  regs : List RegD
  outs : List (Str × Str)
def IntsAt (H : Hp) (a : Addr) (p : Int × Int) : Prop := H a = some (.tup [.int p.1, .int p.2])
def GateAt (H : Hp) (a : Addr) (g : GateD) : Prop := ∃ (t pt rt : Addr) (ra : List Addr), H a = some (.tup [.str g.name, .ref t, .ref pt, .ref rt]) ∧ H t = some (.tup (g.tab.map V.bl)) ∧ H pt = some (.tup (g.pins.map V.str)) ∧ H rt = some (.tup (ra.map V.ref)) ∧ All2 (IntsAt H) ra g.rng
def RegAt (H : Hp) (a : Addr) (r : RegD) : Prop := ∃ ea oa : Addr, H a = some (.tup [.str r.name, .str r.net, .ref ea, .ref oa, .int r.setup, .int r.hold, .bl r.start]) ∧ IntsAt H ea r.edge ∧ IntsAt H oa r.out
def OutAt (H : Hp) (a : Addr) (o : Str × Str) : Prop := H a = some (.tup [.str o.1, .str o.2])
structure CircAt (H : Hp) (c : Addr) (d : CircD) (it gt rt ot : Addr) (ga ra oa : List Addr) : Prop where
  top : H c = some (.tup [.ref it, .ref gt, .ref rt, .ref ot])
  ins : H it = some (.tup (d.ins.map V.str))
  gts : H gt = some (.tup (ga.map V.ref))
  rgs : H rt = some (.tup (ra.map V.ref))
  ots : H ot = some (.tup (oa.map V.ref))
  gates : All2 (GateAt H) ga d.gates
  regs : All2 (RegAt H) ra d.regs
  outs : All2 (OutAt H) oa d.outs
section
variable {H H' : Hp} {a c it gt rt ot : Addr} {g : GateD} {r : RegD} {d : CircD} {ga ra oa : List Addr}
theorem IntsAt.te {p : Int × Int} (e : TEx H H') (h : IntsAt H a p) : IntsAt H' a p := e _ _ h
theorem GateAt.te (e : TEx H H') (h : GateAt H a g) : GateAt H' a g := by
  obtain ⟨t, pt, rt, ra, h1, h2, h3, h4, h5⟩ := h
  exact ⟨t, pt, rt, ra, e _ _ h1, e _ _ h2, e _ _ h3, e _ _ h4, h5.imp fun _ _ z => z.te e⟩
theorem RegAt.te (e : TEx H H') (h : RegAt H a r) : RegAt H' a r := by
  obtain ⟨ea, oa, h1, h2, h3⟩ := h
  exact ⟨ea, oa, e _ _ h1, h2.te e, h3.te e⟩
theorem CircAt.te (e : TEx H H') (h : CircAt H c d it gt rt ot ga ra oa) : CircAt H' c d it gt rt ot ga ra oa :=
  ⟨e _ _ h.top, e _ _ h.ins, e _ _ h.gts, e _ _ h.rgs, e _ _ h.ots, h.gates.imp fun _ _ z => z.te e, h.regs.imp fun _ _ z => z.te e, h.outs.imp fun _ _ z => e _ _ z⟩
end
/-! ### the names that are given -/
def nm (c : Str) (k : Nat) : Str := c ++ Str.ofString (toString ((k : Nat) : Int))
structure RegWf (r : RegD) : Prop where
  e0 : 0 ≤ r.edge.1 ∧ r.edge.1 ≤ 2
  e1 : r.edge.1 ≤ r.edge.2 ∧ r.edge.2 ≤ r.edge.1 + 2
  o0 : 0 ≤ r.out.1 ∧ r.out.1 ≤ 3
  o1 : r.out.1 + 1 ≤ r.out.2 ∧ r.out.2 ≤ r.out.1 + 4
  su : 0 ≤ r.setup ∧ r.setup ≤ 3
  ho : 0 ≤ r.hold ∧ r.hold < r.out.2
structure GateWf (ns : List Str) (k : Nat) (g : GateD) : Prop where
  name : g.name = nm "g" k
  few : g.pins.length ≤ 3
  pins : ∀ x ∈ g.pins, x ∈ ns
  tab : g.tab.length = 2 ^ g.pins.length
  many : g.rng.length = g.pins.length
  rng : ∀ r ∈ g.rng, 0 ≤ r.1 ∧ r.1 ≤ 4 ∧ r.1 + 2 ≤ r.2 ∧ r.2 ≤ r.1 + 6
/-- the gates in the order of their making: each reads what stood before it -/
structure CircWf (most : Nat) (d : CircD) (G : List GateD) : Prop where
  ins : ∃ n, 1 ≤ n ∧ n ≤ 3 ∧ d.ins = (List.range n).map (nm "i")
  regs : ∃ n, n ≤ 3 ∧ d.regs.map (·.name) = (List.range n).map (nm "r")
  few : G.length ≤ most
  gates : ∀ k g, G[k]? = some g → GateWf (d.ins ++ d.regs.map (·.name) ++ (List.range k).map (nm "g")) k g
  perm : d.gates.Perm G
  rwf : ∀ r ∈ d.regs, RegWf r ∧ r.net ∈ d.ins ++ d.regs.map (·.name) ++ (List.range G.length).map (nm "g")
  outs : ∃ n, n ≤ 3 ∧ d.outs.map (·.1) = (List.range n).map (nm "p")
  onet : ∀ o ∈ d.outs, o.2 ∈ d.ins ++ d.regs.map (·.name) ++ (List.range G.length).map (nm "g")
section
variable {P : Program} {w : World} {K : PySem.W.Frag} {mg : Str → Option Value} {base : Heap}
def spReg : Sp := fun vs H Q _ => ∃ (p a : Addr) (n net : Str), vs = [.ref p, .str n, .str net] ∧ PoolOk p a H ∧ ∀ (x : Addr) (r : RegD) (H' : Hp), Px p a H H' → H x = none → RegAt H' x r → r.name = n → r.net = net → RegWf r → Q (.ref x) H'
theorem sc_law_register : FnScope ["pool", "name", "net", "edge", "out", "high", "wide"] ["pool", "name", "net"] (defScope s_law_register) := ⟨rfl, rfl, rfl, by decide +kernel, rfl, by decide +kernel, by decide +kernel⟩
theorem ok_law_register (D : Dfd K mg "_law_register" s_law_register ["pool", "name", "net"]) (C : Has P w K mg base 2 "_law_draw" ["pool", "many"] spDrawX) : Has P w K mg base 3 "_law_register" ["pool", "name", "net"] spReg := by
  obtain ⟨f_law_draw, d_law_draw, G_law_draw, g_law_draw, k_law_draw, b_law_draw⟩ := C
  refine D.has fun f fd F => F.ok sc_law_register (fun vs H Q E h => ?_) (fun cdv A outer s H vs Q E hr h => ?_)
  · obtain ⟨p, a, n, net, rfl, _⟩ := h
    rfl
  · obtain ⟨p, a, n, net, rfl, hp, q⟩ := h
    refine ⟨_, (pss_cons (ps_set (i := 3) sc_law_register.nd rfl (.inl rfl) (pe_call G_law_draw (hr.mono (by omega)) (by rfl) g_law_draw k_law_draw b_law_draw .nil pass0 (pa_cons (pv 0) (pa_cons pe_int pa_nil))))
    (pss_cons (ps_set (i := 4) sc_law_register.nd rfl (.inl rfl) (pe_call G_law_draw (hr.mono (by omega)) (by rfl) g_law_draw k_law_draw b_law_draw .nil pass0 (pa_cons (pv 0) (pa_cons pe_int pa_nil))))
    (pss_cons (ps_set (i := 5) sc_law_register.nd rfl (.inl rfl) (pe_op op_add (pe_op op_add (pv 4) pe_int) (pe_call G_law_draw (hr.mono (by omega)) (by rfl) g_law_draw k_law_draw b_law_draw .nil pass0 (pa_cons (pv 0) (pa_cons pe_int pa_nil)))))
    (pss_cons (ps_set (i := 6) sc_law_register.nd rfl (.inl rfl) (pe_op op_add (pv 3) (pe_call G_law_draw (hr.mono (by omega)) (by rfl) g_law_draw k_law_draw b_law_draw .nil pass0 (pa_cons (pv 0) (pa_cons pe_int pa_nil)))))
    (pss_one (ps_ret (pe_tup (pa_cons (pv 1) (pa_cons (pv 2) (pa_cons (pe_tup (pa_cons (pv 3) (pa_cons (pv 6) pa_nil))) (pa_cons (pe_tup (pa_cons (pv 4) (pa_cons (pv 5) pa_nil))) (pa_cons (pe_call G_law_draw (hr.mono (by omega)) (by rfl) g_law_draw k_law_draw b_law_draw .nil pass0 (pa_cons (pv 0) (pa_cons pe_int pa_nil))) (pa_cons (pe_call G_law_draw (hr.mono (by omega)) (by rfl) g_law_draw k_law_draw b_law_draw .nil pass0 (pa_cons (pv 0) (pa_cons (pv 5) pa_nil))) (pa_cons (pe_cmpR op_eq (pe_call G_law_draw (hr.mono (by omega)) (by rfl) g_law_draw k_law_draw b_law_draw .nil pass0 (pa_cons (pv 0) (pa_cons pe_int pa_nil))) pe_int (nomark _)) pa_nil)))))))))))))), ?_⟩
    refine ⟨_, rfl, p, a, 3, rfl, by decide, by decide, hp, fun v1 H1 h1 X1 _ => ?_⟩
    refine ⟨_, rfl, p, a, 4, rfl, by decide, by decide, X1.pool, fun v2 H2 h2 X2 _ => ?_⟩
    refine ⟨_, rfl, _, _, rfl, rfl, _, rfl, p, a, 4, rfl, by decide, by decide, X2.pool, fun v3 H3 h3 X3 _ => ⟨_, _, rfl, rfl, ?_⟩⟩
    refine ⟨_, rfl, _, rfl, p, a, 3, rfl, by decide, by decide, X3.pool, fun v4 H4 h4 X4 _ => ⟨_, _, rfl, rfl, ?_⟩⟩
    have Y4 := X1.trans (X2.trans (X3.trans X4))
    refine ⟨_, rfl, _, rfl, _, rfl, _, rfl, (by show 2 ≤ sizeLine; decide), fun e1 n1 => ⟨_, rfl, _, rfl, (by show 2 ≤ sizeLine; decide), fun e2 n2 => ?_⟩⟩
    have Y5 := (Y4.new (o := .tup [.int v1, .int ((v1 : Int) + v4)]) n1).new (o := .tup [.int v2, .int ((v2 : Int) + 1 + v3)]) n2
    have t1 : upd (upd H4 e1 (.tup [.int v1, .int ((v1 : Int) + v4)])) e2 (.tup [.int v2, .int ((v2 : Int) + 1 + v3)]) e1 = some (.tup [.int v1, .int ((v1 : Int) + v4)]) := by rw [upd_ne (ne_of_none upd_same n2)]; exact upd_same
    have t2 : upd (upd H4 e1 (.tup [.int v1, .int ((v1 : Int) + v4)])) e2 (.tup [.int v2, .int ((v2 : Int) + 1 + v3)]) e2 = some (.tup [.int v2, .int ((v2 : Int) + 1 + v3)]) := upd_same
    generalize upd (upd H4 e1 (.tup [.int v1, .int ((v1 : Int) + v4)])) e2 (.tup [.int v2, .int ((v2 : Int) + 1 + v3)]) = H5 at *
    refine ⟨_, rfl, p, a, 4, rfl, by decide, by decide, Y5.pool, fun v5 H6 h5 X6 _ => ?_⟩
    refine ⟨_, rfl, _, rfl, p, a, (v2 : Int) + 1 + v3, rfl, by omega, by omega, X6.pool, fun v6 H7 h6 X7 _ => ?_⟩
    refine ⟨_, rfl, p, a, 2, rfl, by decide, by decide, X7.pool, fun v7 H8 h7 X8 _ => ⟨rfl, (by show 7 ≤ sizeLine; decide), fun x nx => ?_⟩⟩
    have Y8 := X6.trans (X7.trans X8)
    have T8 := (TEx.px Y8).trans (TEx.new (o := .tup [.str n, .str net, .ref e1, .ref e2, .int v5, .int v6, .bl (decide (V.int v7 = V.int 1))]) nx)
    exact q x ⟨n, net, (v1, (v1 : Int) + v4), (v2, (v2 : Int) + 1 + v3), v5, v6, decide (V.int v7 = V.int 1)⟩ _ ((Y5.trans Y8).new nx) ((Y5.trans Y8).free nx) ⟨e1, e2, upd_same, T8 _ _ t1, T8 _ _ t2⟩ rfl rfl
      ⟨by constructor <;> simp <;> omega, by constructor <;> simp <;> omega, by constructor <;> simp <;> omega, by constructor <;> simp <;> omega, by constructor <;> simp <;> omega, by constructor <;> simp <;> omega⟩
theorem nm_small : ∀ c ∈ (["i", "r", "g", "p"] : List Str), ∀ k, k < 20 → c.length + (Str.ofString (toString ((k : Nat) : Int))).length ≤ 1000 ∧ ((k : Nat) : Int).natAbs.log2 < 1920 := by decide +kernel
/-- 'x' + str(k), read -/
theorem nm_read {c : Str} {k : Nat} (hc : c ∈ (["i", "r", "g", "p"] : List Str)) (hk : k < 20) : ((k : Nat) : Int).natAbs.log2 < 1920 ∧ c.length + (Str.ofString (toString ((k : Nat) : Int))).length ≤ sizeLine :=
  ⟨(nm_small c hc k hk).2, sz_of (Nat.le_trans (nm_small c hc k hk).1 (by decide))⟩
theorem keep1 {p M x : Addr} {H : Hp} {o o' : HO} (e : hid p H x = some o) (hx : x ≠ M) (hM : M ≠ p) : hid p (upd H M o') x = some o := by
  rw [hid_upd_ne hM, upd_ne hx]; exact e
theorem hid_new {p M : Addr} {H : Hp} {o : HO} (hM : M ≠ p) : hid p (upd H M o) M = some o := by
  rw [hid_ne hM]; exact upd_same
theorem erase_perm {α : Type} : ∀ (l : List α) (v : Nat) (h : v < l.length), (l[v] :: l.eraseIdx v).Perm l
  | [], v, h => absurd h (Nat.not_lt_zero _)
  | a :: r, 0, _ => .refl _
  | a :: r, v + 1, h => by
    have h' : v < r.length := Nat.lt_of_succ_lt_succ h
    have ih := erase_perm r v h'
    show (r[v] :: a :: r.eraseIdx v).Perm (a :: r)
    exact (List.Perm.swap ..).trans (ih.cons a)
def spShuf : Sp := fun vs H Q _ => ∃ (p a l : Addr) (xs : List V), vs = [.ref p, .ref l] ∧ PoolOk p a H ∧ hid p H l = some (.lst xs) ∧ xs.length ≤ 100 ∧ ∀ (o : Addr) (ys : List V) (H' : Hp), Px p a H H' → H o = none → H' o = some (.lst ys) → ys.Perm xs → Q (.ref o) H'
theorem sc_law_shuffled : FnScope ["pool", "rows", "left", "out", "k"] ["pool", "rows"] (defScope s_law_shuffled) := ⟨rfl, rfl, rfl, by decide +kernel, rfl, by decide +kernel, by decide +kernel⟩
theorem ok_law_shuffled (D : Dfd K mg "_law_shuffled" s_law_shuffled ["pool", "rows"]) (T : TxtS mg) (C : Has P w K mg base 2 "_law_draw" ["pool", "many"] spDrawX) : Has P w K mg base 3 "_law_shuffled" ["pool", "rows"] spShuf := by
  obtain ⟨f_law_draw, d_law_draw, G_law_draw, g_law_draw, k_law_draw, b_law_draw⟩ := C
  refine D.has fun f fd F => F.ok sc_law_shuffled (fun vs H Q E h => ?_) (fun cdv A outer s H vs Q E hr h => ?_)
  · obtain ⟨p, a, l, xs, rfl, _⟩ := h
    rfl
  · obtain ⟨p, a, l, xs, rfl, hp, hl, hn, q⟩ := h
    refine ⟨_, (pss_cons (ps_set (i := 2) sc_law_shuffled.nd rfl (.inl rfl) (pe_callTy call_list_of (by rfl) T.list (by decide +kernel) (pa_cons (pv 1) pa_nil)))
    (pss_cons (ps_set (i := 3) sc_law_shuffled.nd rfl (.inl rfl) (pe_lst pa_nil))
    (pss_cons (ps_for PassesOwn.never rfl (pi_range1 rfl T.range (pa_cons (pe_callB call_len_seq (by rfl) T.len (by decide +kernel) (pa_cons (pv 1) pa_nil)) pa_nil)) (pg_name (i := 4) sc_law_shuffled.nd rfl (.inl rfl))
      (pss_one (ps_expr (pe_bm PySem.F.plainAttrs_list PySem.F.slot_list_append PySem.F.type_list_append mt_append (pv 3) (pa_cons (pe_bm PySem.F.plainAttrs_list PySem.F.slot_list_pop PySem.F.type_list_pop mt_popAt (pv 2) (pa_cons (pe_call G_law_draw (hr.mono (by omega)) (by rfl) g_law_draw k_law_draw b_law_draw .nil pass0 (pa_cons (pv 0) (pa_cons (pe_callB call_len_seq (by rfl) T.len (by decide +kernel) (pa_cons (pv 2) pa_nil)) pa_nil))) pa_nil)) pa_nil)))))
    (pss_one (ps_ret (pv 3)))))), ?_⟩
    refine ⟨_, rfl, _, _, rfl, .inl (SqL.of (hid_get hl)), fun lf nlf => ⟨Nat.zero_le _, fun o no => ?_⟩⟩
    have X0 := ((Px.refl hp).new (o := .lst xs) nlf).new (o := .lst []) no
    have plf := hp.ne nlf
    have nlo : lf ≠ o := ne_of_none upd_same no
    have nHo : H o = none := by
      have z := no
      rw [upd_ne nlo.symm] at z; exact z
    have po := hp.ne nHo
    have h1 : hid p (upd (upd H lf (.lst xs)) o (.lst [])) lf = some (.lst xs) := keep1 (hid_new plf) nlo po
    have h2 : hid p (upd (upd H lf (.lst xs)) o (.lst [])) o = some (.lst []) := hid_new po
    generalize upd (upd H lf (.lst xs)) o (.lst []) = H0 at *
    refine ⟨_, rfl, _, _, rfl, .inl (SqL.of (X0.at_ hl)), _, rfl, by omega, by omega, for_range (n := ((xs.length : Nat) : Int).toNat)
      (fun i σ H' => Px p a H H' ∧ ∃ (ls os : List V) (z : Option V), hid p H' lf = some (.lst ls) ∧ hid p H' o = some (.lst os) ∧ (os ++ ls).Perm xs ∧ os.length = i ∧ σ = [some (.ref p), some (.ref l), some (.ref lf), some (.ref o), z])
      ⟨X0, xs, [], _, h1, h2, .refl _, rfl, rfl⟩ ?_ ?_⟩
    · rintro i σ H1 hi ⟨X1, ls, os, z, hls, hos, hperm, hoi, rfl⟩
      rw [Int.toNat_natCast] at hi
      have hlen := hperm.length_eq
      rw [List.length_append] at hlen
      have hpos : 0 < ls.length := by omega
      refine ⟨_, rfl, .inl ⟨rfl, _, SqL.of (hid_get hos)⟩, _, rfl, .inl ⟨rfl, _, SqL.of (hid_get hls)⟩, _, rfl, _, rfl, _, _, rfl, .inl (SqL.of (hid_get hls)), p, a, ls.length, rfl, by omega, by omega, X1.pool, fun v H2 hv X2 _ => ?_⟩
      have hv' : v < ls.length := by omega
      have hls2 := X2.get hls
      have hos2 := X2.get hos
      refine ⟨lf, ls, (v : Int), v, ls[v], rfl, rfl, hid_get hls2, by omega, by omega, ?_, List.getElem?_eq_getElem hv', ?_⟩
      · have := PyProof.Rows.seqIndex_at (i := (v : Int)) (n := ls.length) (by omega) (by omega)
        rw [Int.toNat_natCast] at this
        exact this
      · have hos3 : hid p (upd H2 lf (.lst (ls.eraseIdx v))) o = some (.lst os) := keep1 hos2 nlo.symm plf
        have X3 := (X1.trans X2).mut (o := .lst (ls.eraseIdx v)) nlf
        have hls3 : hid p (upd H2 lf (.lst (ls.eraseIdx v))) lf = some (.lst (ls.eraseIdx v)) := hid_new plf
        generalize upd H2 lf (.lst (ls.eraseIdx v)) = H3 at *
        refine ⟨o, os, ls[v], rfl, rfl, hid_get hos3, sz_lt (by omega), X3.mut nHo, ls.eraseIdx v, os ++ [ls[v]], _, keep1 hls3 nlo po, hid_new po, ?_, by rw [List.length_append, hoi]; rfl, rfl⟩
        refine List.Perm.trans ?_ hperm
        rw [List.append_assoc]
        exact List.Perm.append_left _ (erase_perm ls v hv')
    · rintro σ H1 ⟨X1, ls, os, z, hls, hos, hperm, hoi, rfl⟩
      rw [Int.toNat_natCast] at hoi
      have hlen := hperm.length_eq
      rw [List.length_append] at hlen
      have : ls = [] := List.length_eq_zero_iff.mp (by omega)
      rw [this, List.append_nil] at hperm
      exact ⟨_, rfl, q o os H1 X1 nHo (hid_get hos) hperm⟩
theorem nmi_str : ("i" : Str) ∈ (["i", "r", "g", "p"] : List Str) := by decide
theorem nmr_str : ("r" : Str) ∈ (["i", "r", "g", "p"] : List Str) := by decide
theorem nmg_str : ("g" : Str) ∈ (["i", "r", "g", "p"] : List Str) := by decide
theorem nmp_str : ("p" : Str) ∈ (["i", "r", "g", "p"] : List Str) := by decide
theorem strV_at {us : List Str} {i : Nat} (h : i < us.length) : (us.map V.str)[i]? = some (.str us[i]) := by rw [List.getElem?_map, List.getElem?_eq_getElem h]; rfl
theorem nms_snoc (c : Str) (k : Nat) : (List.range (k + 1)).map (nm c) = (List.range k).map (nm c) ++ [nm c k] := by rw [List.range_succ, List.map_append]; rfl
theorem All2.te {R : Hp → Addr → β → Prop} {as : List Addr} {bs : List β} {H H' : Hp} (f : ∀ a b, R H a b → R H' a b) (h : All2 (R H) as bs) : All2 (R H') as bs := h.imp f
/-- what a permutation of references refers to -/
theorem perm_refs {R : Addr → GateD → Prop} {as : List Addr} {G : List GateD} (h : All2 R as G) {vs : List V} (p : vs.Perm (as.map V.ref)) : ∃ (bs : List Addr) (F : List GateD), vs = bs.map V.ref ∧ All2 R bs F ∧ F.Perm G := by
  have z : ∀ {xs ys : List V}, xs.Perm ys → ∀ (as : List Addr) (G : List GateD), ys = as.map V.ref → All2 R as G → ∃ (bs : List Addr) (F : List GateD), xs = bs.map V.ref ∧ All2 R bs F ∧ F.Perm G := by
    intro xs ys pp
    induction pp with
    | nil =>
      intro as G e h
      have : as = [] := by
        cases as with
        | nil => rfl
        | cons _ _ => cases e
      subst this
      have : G = [] := List.length_eq_zero_iff.mp h.1.symm
      subst this
      exact ⟨[], [], rfl, .nil, .refl _⟩
    | @cons x l1 l2 _ ih =>
      intro as G e h
      cases as with
      | nil => cases e
      | cons a as =>
        cases G with
        | nil => exact nomatch h.1
        | cons g G =>
          obtain ⟨e1, e2⟩ := List.cons.inj e
          have h2 : All2 R as G := ⟨Nat.succ.inj h.1, fun i x y q1 q2 => h.2 (i + 1) x y q1 q2⟩
          obtain ⟨bs, F, f1, f2, f3⟩ := ih as G e2 h2
          exact ⟨a :: bs, g :: F, by rw [e1, f1]; rfl, .cons (h.2 0 a g rfl rfl) f2, f3.cons g⟩
    | @swap x y l =>
      intro as G e h
      match as, G, h with
      | [], _, _ => cases e
      | [_], _, _ => cases e
      | _ :: _ :: _, [], h => exact nomatch h.1
      | _ :: _ :: _, [_], h => exact nomatch Nat.succ.inj h.1
      | a :: b :: as, g :: k :: G, h =>
        obtain ⟨e1, e2⟩ := List.cons.inj e
        obtain ⟨e3, e4⟩ := List.cons.inj e2
        have h2 : All2 R as G := ⟨Nat.succ.inj (Nat.succ.inj h.1), fun i x y q1 q2 => h.2 (i + 2) x y q1 q2⟩
        exact ⟨b :: a :: as, k :: g :: G, by rw [e1, e3, e4]; rfl, .cons (h.2 1 b k rfl rfl) (.cons (h.2 0 a g rfl rfl) h2), .swap ..⟩
    | trans _ _ ih1 ih2 =>
      intro as G e h
      obtain ⟨bs, F, f1, f2, f3⟩ := ih2 as G e h
      obtain ⟨cs, F2, g1, g2, g3⟩ := ih1 bs F f1 f2
      exact ⟨cs, F2, g1, g2, g3.trans f3⟩
  exact z p as G rfl h
def spCirc : Sp := fun vs H Q _ => ∃ (p a : Addr) (most : Nat), vs = [.ref p, .int most] ∧ most ≤ 15 ∧ PoolOk p a H ∧ ∀ (c : Addr) (d : CircD) (G : List GateD) (it gt rt ot : Addr) (ga ra oa : List Addr) (H' : Hp), Px p a H H' → CircAt H' c d it gt rt ot ga ra oa → CircWf most d G → Q (.ref c) H'
theorem sc_law_circuit : FnScope ["pool", "most", "k", "inputs", "stored", "nets", "gates", "pins", "ranges", "pin", "low", "regs", "outputs", "name", "j"] ["pool", "most"] (defScope s_law_circuit) := ⟨rfl, rfl, rfl, by decide +kernel, rfl, by decide +kernel, by decide +kernel⟩
theorem ok_law_circuit (D : Dfd K mg "_law_circuit" s_law_circuit ["pool", "most"]) (T : TxtS mg) (C1 : Has P w K mg base 2 "_law_draw" ["pool", "many"] spDrawX) (C2 : Has P w K mg base 3 "_law_table" ["pool", "many"] spTable) (C3 : Has P w K mg base 3 "_law_register" ["pool", "name", "net"] spReg)
    (C4 : Has P w K mg base 3 "_law_shuffled" ["pool", "rows"] spShuf) : Has P w K mg base 4 "_law_circuit" ["pool", "most"] spCirc := by
  obtain ⟨f_law_draw, d_law_draw, G_law_draw, g_law_draw, k_law_draw, b_law_draw⟩ := C1
  obtain ⟨f_law_table, d_law_table, G_law_table, g_law_table, k_law_table, b_law_table⟩ := C2
  obtain ⟨f_law_register, d_law_register, G_law_register, g_law_register, k_law_register, b_law_register⟩ := C3
  obtain ⟨f_law_shuffled, d_law_shuffled, G_law_shuffled, g_law_shuffled, k_law_shuffled, b_law_shuffled⟩ := C4
  refine D.has fun f fd F => F.ok sc_law_circuit (fun vs H Q E h => ?_) (fun cdv A outer s H vs Q E hr h => ?_)
  · obtain ⟨p, a, most, rfl, _⟩ := h
    rfl
  · obtain ⟨p, a, most, rfl, hmost, hp, q⟩ := h
    refine ⟨_, (pss_cons (ps_setLc (i := 3) (own := [("k", 2)]) (g := gName 2) (tt := tYes) rfl sc_law_circuit.nd rfl rfl (sw_true rfl rfl rfl (by decide +kernel)) (pi_range1 rfl T.range (pa_cons (pe_op op_add pe_int (pe_call G_law_draw (hr.mono (by omega)) (by rfl) g_law_draw k_law_draw b_law_draw .nil pass0 (pa_cons (pv 0) (pa_cons pe_int pa_nil)))) pa_nil)) (blkOk_by (N := ["pool", "most", "k", "inputs", "stored", "nets", "gates", "pins", "ranges", "pin", "low", "regs", "outputs", "name", "j"]) (sc := defScope s_law_circuit) (own := [("k", 2)]) (by decide +kernel)) (fun _ _ _ _ _ => (pg_name (i := 2) sc_law_circuit.nd rfl (.inl rfl))) (fun _ _ _ _ _ => pts_nil) (fun _ _ _ _ _ => (pe_op op_add_str pe_str (pe_callTy call_str_int (by rfl) T.str (by decide +kernel) (pa_cons (pv 2) pa_nil)))))
    (pss_cons (ps_setLc (i := 4) (own := [("k", 2)]) (g := gName 2) (tt := tYes) rfl sc_law_circuit.nd rfl rfl (sw_true rfl rfl rfl (by decide +kernel)) (pi_range1 rfl T.range (pa_cons (pe_call G_law_draw (hr.mono (by omega)) (by rfl) g_law_draw k_law_draw b_law_draw .nil pass0 (pa_cons (pv 0) (pa_cons pe_int pa_nil))) pa_nil)) (blkOk_by (N := ["pool", "most", "k", "inputs", "stored", "nets", "gates", "pins", "ranges", "pin", "low", "regs", "outputs", "name", "j"]) (sc := defScope s_law_circuit) (own := [("k", 2)]) (by decide +kernel)) (fun _ _ _ _ _ => (pg_name (i := 2) sc_law_circuit.nd rfl (.inl rfl))) (fun _ _ _ _ _ => pts_nil) (fun _ _ _ _ _ => (pe_op op_add_str pe_str (pe_callTy call_str_int (by rfl) T.str (by decide +kernel) (pa_cons (pv 2) pa_nil)))))
    (pss_cons (ps_set (i := 5) sc_law_circuit.nd rfl (.inr rfl) (pe_op op_cat (pv 3) (pv 4)))
    (pss_cons (ps_set (i := 6) sc_law_circuit.nd rfl (.inl rfl) (pe_lst pa_nil))
    (pss_cons (ps_for PassesOwn.never rfl (pi_range1 rfl T.range (pa_cons (pe_call G_law_draw (hr.mono (by omega)) (by rfl) g_law_draw k_law_draw b_law_draw .nil pass0 (pa_cons (pv 0) (pa_cons (pe_op op_add (pv 1) pe_int) pa_nil))) pa_nil)) (pg_name (i := 2) sc_law_circuit.nd rfl (.inl rfl))
      (pss_cons (ps_set (i := 7) sc_law_circuit.nd rfl (.inl rfl) (pe_callTy call_tuple_of (by rfl) T.tuple (by decide +kernel) (pa_cons (pe_lc (own := [("j", 14)]) (g := gName 14) (tt := tYes) rfl sc_law_circuit.nd (pi_range1 rfl T.range (pa_cons (pe_ix ix_list (pe_lst (pa_cons pe_int (pa_cons pe_int (pa_cons pe_int (pa_cons pe_int (pa_cons pe_int (pa_cons pe_int pa_nil))))))) (pe_call G_law_draw (hr.mono (by omega)) (by rfl) g_law_draw k_law_draw b_law_draw .nil pass0 (pa_cons (pv 0) (pa_cons pe_int pa_nil))) (fun _ _ => rfl)) pa_nil)) (blkOk_by (N := ["pool", "most", "k", "inputs", "stored", "nets", "gates", "pins", "ranges", "pin", "low", "regs", "outputs", "name", "j"]) (sc := defScope s_law_circuit) (own := [("j", 14)]) (by decide +kernel)) (fun _ _ _ _ _ => (pg_name (i := 14) sc_law_circuit.nd rfl (.inl rfl))) (fun _ _ _ _ _ => pts_nil) (fun _ _ _ _ _ => (pe_ix (kIxL (K := K) rfl) (pv 5) (pe_call G_law_draw (hr.mono (by omega)) (by rfl) g_law_draw k_law_draw b_law_draw .nil pass0 (pa_cons (pv 0) (pa_cons (pe_callB (kLen (K := K) rfl) (by rfl) T.len (by decide +kernel) (pa_cons (pv 5) pa_nil)) pa_nil))) (fun _ _ => rfl)))) pa_nil)))
      (pss_cons (ps_set (i := 8) sc_law_circuit.nd rfl (.inl rfl) (pe_lst pa_nil))
      (pss_cons (ps_for PassesOwn.never rfl (pi_tup (pv 7)) (pg_name (i := 9) sc_law_circuit.nd rfl (.inl rfl))
        (pss_cons (ps_set (i := 10) sc_law_circuit.nd rfl (.inl rfl) (pe_call G_law_draw (hr.mono (by omega)) (by rfl) g_law_draw k_law_draw b_law_draw .nil pass0 (pa_cons (pv 0) (pa_cons pe_int pa_nil))))
        (pss_one (ps_expr (pe_bm PySem.F.plainAttrs_list PySem.F.slot_list_append PySem.F.type_list_append mt_append (pv 8) (pa_cons (pe_tup (pa_cons (pv 10) (pa_cons (pe_op op_add (pe_op op_add (pv 10) pe_int) (pe_call G_law_draw (hr.mono (by omega)) (by rfl) g_law_draw k_law_draw b_law_draw .nil pass0 (pa_cons (pv 0) (pa_cons pe_int pa_nil)))) pa_nil))) pa_nil))))))
      (pss_cons (ps_expr (pe_bm PySem.F.plainAttrs_list PySem.F.slot_list_append PySem.F.type_list_append mt_append (pv 6) (pa_cons (pe_tup (pa_cons (pe_op op_add_str pe_str (pe_callTy call_str_int (by rfl) T.str (by decide +kernel) (pa_cons (pv 2) pa_nil))) (pa_cons (pe_call G_law_table (hr.mono (by omega)) (by rfl) g_law_table k_law_table b_law_table .nil pass0 (pa_cons (pv 0) (pa_cons (pe_callB call_len_seq (by rfl) T.len (by decide +kernel) (pa_cons (pv 7) pa_nil)) pa_nil))) (pa_cons (pv 7) (pa_cons (pe_callTy call_tuple_of (by rfl) T.tuple (by decide +kernel) (pa_cons (pv 8) pa_nil)) pa_nil))))) pa_nil)))
      (pss_one (ps_expr (pe_bm PySem.F.plainAttrs_list PySem.F.slot_list_append PySem.F.type_list_append mt_append (pv 5) (pa_cons (pe_op op_add_str pe_str (pe_callTy call_str_int (by rfl) T.str (by decide +kernel) (pa_cons (pv 2) pa_nil))) pa_nil)))))))))
    (pss_cons (ps_setLc (i := 11) (own := [("name", 13)]) (g := gName 13) (tt := tYes) rfl sc_law_circuit.nd rfl rfl (sw_true rfl rfl rfl (by decide +kernel)) (pi_list (pv 4)) (blkOk_by (N := ["pool", "most", "k", "inputs", "stored", "nets", "gates", "pins", "ranges", "pin", "low", "regs", "outputs", "name", "j"]) (sc := defScope s_law_circuit) (own := [("name", 13)]) (by decide +kernel)) (fun _ _ _ _ _ => (pg_name (i := 13) sc_law_circuit.nd rfl (.inl rfl))) (fun _ _ _ _ _ => pts_nil) (fun _ _ _ _ _ => (pe_call G_law_register (hr.mono (by omega)) (by rfl) g_law_register k_law_register b_law_register .nil pass0 (pa_cons (pv 0) (pa_cons (pv 13) (pa_cons (pe_ix (kIxL (K := K) rfl) (pv 5) (pe_call G_law_draw (hr.mono (by omega)) (by rfl) g_law_draw k_law_draw b_law_draw .nil pass0 (pa_cons (pv 0) (pa_cons (pe_callB (kLen (K := K) rfl) (by rfl) T.len (by decide +kernel) (pa_cons (pv 5) pa_nil)) pa_nil))) (fun _ _ => rfl)) pa_nil))))))
    (pss_cons (ps_setLc (i := 12) (own := [("k", 2)]) (g := gName 2) (tt := tYes) rfl sc_law_circuit.nd rfl rfl (sw_true rfl rfl rfl (by decide +kernel)) (pi_range1 rfl T.range (pa_cons (pe_call G_law_draw (hr.mono (by omega)) (by rfl) g_law_draw k_law_draw b_law_draw .nil pass0 (pa_cons (pv 0) (pa_cons pe_int pa_nil))) pa_nil)) (blkOk_by (N := ["pool", "most", "k", "inputs", "stored", "nets", "gates", "pins", "ranges", "pin", "low", "regs", "outputs", "name", "j"]) (sc := defScope s_law_circuit) (own := [("k", 2)]) (by decide +kernel)) (fun _ _ _ _ _ => (pg_name (i := 2) sc_law_circuit.nd rfl (.inl rfl))) (fun _ _ _ _ _ => pts_nil) (fun _ _ _ _ _ => (pe_tup (pa_cons (pe_op op_add_str pe_str (pe_callTy call_str_int (by rfl) T.str (by decide +kernel) (pa_cons (pv 2) pa_nil))) (pa_cons (pe_ix (kIxL (K := K) rfl) (pv 5) (pe_call G_law_draw (hr.mono (by omega)) (by rfl) g_law_draw k_law_draw b_law_draw .nil pass0 (pa_cons (pv 0) (pa_cons (pe_callB (kLen (K := K) rfl) (by rfl) T.len (by decide +kernel) (pa_cons (pv 5) pa_nil)) pa_nil))) (fun _ _ => rfl)) pa_nil)))))
    (pss_one (ps_ret (pe_tup (pa_cons (pe_callTy call_tuple_of (by rfl) T.tuple (by decide +kernel) (pa_cons (pv 3) pa_nil)) (pa_cons (pe_callTy call_tuple_of (by rfl) T.tuple (by decide +kernel) (pa_cons (pe_call G_law_shuffled (hr.mono (by omega)) (by rfl) g_law_shuffled k_law_shuffled b_law_shuffled .nil pass0 (pa_cons (pv 0) (pa_cons (pv 6) pa_nil))) pa_nil)) (pa_cons (pe_callTy call_tuple_of (by rfl) T.tuple (by decide +kernel) (pa_cons (pv 11) pa_nil)) (pa_cons (pe_callTy call_tuple_of (by rfl) T.tuple (by decide +kernel) (pa_cons (pv 12) pa_nil)) pa_nil)))))))))))))), ?_⟩
    -- inputs
    refine ⟨_, rfl, p, a, 3, rfl, by decide, by decide, hp, fun na H1 hna X1 _ => ⟨_, _, rfl, rfl, _, rfl, by omega, by omega, fun L3 nL3 => lcRv (fun k => .str (nm "i" k)) (by omega) (fun _ => rfl) (fun k H2 hk _ Q q => ?_) ?_⟩⟩
    · rw [Int.zero_add]
      have := nm_read nmi_str (k := k) (by omega)
      exact ⟨_, rfl, _, rfl, this.1, _, _, rfl, rfl, this.2, q⟩
    have e1 : ((1 : Int) + (na : Int)).toNat = na + 1 := by omega
    rw [e1] at *
    have X3 := X1.new (o := .lst ((List.range (na + 1)).map fun k => V.str (nm "i" k))) nL3
    have h3 : hid p (upd H1 L3 (.lst ((List.range (na + 1)).map fun k => V.str (nm "i" k)))) L3 = some (.lst (((List.range (na + 1)).map (nm "i")).map V.str)) := by
      rw [hid_new (X1.pool.ne nL3), List.map_map]; rfl
    generalize upd H1 L3 (.lst ((List.range (na + 1)).map fun k => V.str (nm "i" k))) = H2 at *
    -- stored
    refine ⟨_, rfl, p, a, 4, rfl, by decide, by decide, X3.pool, fun nb H3 hnb X4 _ => ⟨_, rfl, by omega, by omega, fun L4 nL4 => lcRv (fun k => .str (nm "r" k)) (by omega) (fun _ => rfl) (fun k H2 hk _ Q q => ?_) ?_⟩⟩
    · rw [Int.zero_add]
      have := nm_read nmr_str (k := k) (by omega)
      exact ⟨_, rfl, _, rfl, this.1, _, _, rfl, rfl, this.2, q⟩
    rw [Int.toNat_natCast] at *
    have n34 : L3 ≠ L4 := ne_of_none (hid_get (X4.get h3)) nL4
    have X5 := (X3.trans X4).new (o := .lst ((List.range nb).map fun k => V.str (nm "r" k))) nL4
    have h4 : hid p (upd H3 L4 (.lst ((List.range nb).map fun k => V.str (nm "r" k)))) L4 = some (.lst (((List.range nb).map (nm "r")).map V.str)) := by
      rw [hid_new (X4.pool.ne nL4), List.map_map]; rfl
    have h35 : hid p (upd H3 L4 (.lst ((List.range nb).map fun k => V.str (nm "r" k)))) L3 = some (.lst (((List.range (na + 1)).map (nm "i")).map V.str)) := keep1 (X4.get h3) n34 (X4.pool.ne nL4)
    generalize upd H3 L4 (.lst ((List.range nb).map fun k => V.str (nm "r" k))) = H4 at *
    generalize eIns : (List.range (na + 1)).map (nm "i") = ins at *
    generalize eRgs : (List.range nb).map (nm "r") = rgs at *
    have lIns : ins.length ≤ 3 := by rw [← eIns, List.length_map, List.length_range]; omega
    have lIns0 : 0 < ins.length := by rw [← eIns, List.length_map, List.length_range]; omega
    have lRgs : rgs.length ≤ 3 := by rw [← eRgs, List.length_map, List.length_range]; omega
    -- nets, gates
    refine ⟨_, rfl, _, rfl, L3, L4, _, _, rfl, rfl, hid_get h35, hid_get h4, sz_of (by rw [List.length_map, List.length_map]; omega), fun L5 nL5 => ⟨Nat.zero_le _, fun L6 nL6 => ?_⟩⟩
    rw [← List.map_append] at *
    have n35 : L3 ≠ L5 := ne_of_none (hid_get h35) nL5
    have n45 : L4 ≠ L5 := ne_of_none (hid_get h4) nL5
    have p5 := X5.pool.ne nL5
    have Y5 := X5.new (o := .lst ((ins ++ rgs).map V.str)) nL5
    have g3 : hid p (upd H4 L5 (.lst ((ins ++ rgs).map V.str))) L3 = some (.lst (ins.map V.str)) := keep1 h35 n35 p5
    have g4 : hid p (upd H4 L5 (.lst ((ins ++ rgs).map V.str))) L4 = some (.lst (rgs.map V.str)) := keep1 h4 n45 p5
    have g5 : hid p (upd H4 L5 (.lst ((ins ++ rgs).map V.str))) L5 = some (.lst ((ins ++ rgs).map V.str)) := hid_new p5
    have f5 : H L5 = none := X5.free nL5
    generalize upd H4 L5 (.lst ((ins ++ rgs).map V.str)) = H5 at *
    have n36 : L3 ≠ L6 := ne_of_none (hid_get g3) nL6
    have n46 : L4 ≠ L6 := ne_of_none (hid_get g4) nL6
    have n56 : L5 ≠ L6 := ne_of_none (hid_get g5) nL6
    have p6 := Y5.pool.ne nL6
    have f6 : H L6 = none := Y5.free nL6
    have Y6 := Y5.new (o := .lst []) nL6
    have k3 : hid p (upd H5 L6 (.lst [])) L3 = some (.lst (ins.map V.str)) := keep1 g3 n36 p6
    have k4 : hid p (upd H5 L6 (.lst [])) L4 = some (.lst (rgs.map V.str)) := keep1 g4 n46 p6
    have k5 : hid p (upd H5 L6 (.lst [])) L5 = some (.lst ((ins ++ rgs).map V.str)) := keep1 g5 n56 p6
    have k6 : hid p (upd H5 L6 (.lst [])) L6 = some (.lst []) := hid_new p6
    generalize upd H5 L6 (.lst []) = H6 at *
    refine ⟨_, rfl, _, rfl, _, _, rfl, rfl, p, a, (most : Int) + 1, rfl, by omega, by omega, Y6.pool, fun ng H7 hng X7 _ => ⟨ng, rfl, by omega, by omega, for_range (n := ((ng : Nat) : Int).toNat)
      (fun i σ H' => Px p a H H' ∧ hid p H' L3 = some (.lst (ins.map V.str)) ∧ hid p H' L4 = some (.lst (rgs.map V.str)) ∧ hid p H' L5 = some (.lst ((ins ++ rgs ++ (List.range i).map (nm "g")).map V.str)) ∧
        ∃ (ga : List Addr) (G : List GateD), hid p H' L6 = some (.lst (ga.map V.ref)) ∧ All2 (GateAt H') ga G ∧ G.length = i ∧ (∀ k g, G[k]? = some g → GateWf (ins ++ rgs ++ (List.range k).map (nm "g")) k g) ∧
        ∃ (x2 x7 x8 x9 x10 : Option V), σ = [some (.ref p), some (.int most), x2, some (.ref L3), some (.ref L4), some (.ref L5), some (.ref L6), x7, x8, x9, x10, none, none, none, none])
      ⟨Y6.trans X7, X7.get k3, X7.get k4, ?_, [], [], X7.get k6, .nil, rfl, (fun _ _ h => nomatch h), _, _, _, _, _, rfl⟩ ?_ ?_⟩⟩
    · rw [List.range_zero, List.map_nil, List.append_nil]; exact X7.get k5
    · rintro i σ H8 hi ⟨X8, q3, q4, q5, ga, G, q6, hG, hGi, hGw, x2, x7, x8, x9, x10, rfl⟩
      rw [Int.toNat_natCast] at hi
      have hi15 : i < 15 := by omega
      have lN : (ins ++ rgs ++ (List.range i).map (nm "g")).length ≤ 21 := by
        rw [List.length_append, List.length_append, List.length_map, List.length_range]; omega
      have lN0 : 0 < (ins ++ rgs ++ (List.range i).map (nm "g")).length := by
        rw [List.length_append, List.length_append]; omega
      have ei : (0 : Int) + (i : Int) = (i : Int) := Int.zero_add _
      rw [ei]
      generalize eN : ins ++ rgs ++ (List.range i).map (nm "g") = N at *
      -- pins
      refine ⟨(by show 6 ≤ sizeLine; decide), fun l nl => ⟨_, rfl, p, a, 6, rfl, by decide, by decide, (X8.new nl).pool, fun v H9 hv X9 kp => ?_⟩⟩
      have hl9 : H9 l = some (.lst [.int 1, .int 2, .int 2, .int 3, .int 0, .int 1]) := by rw [kp _ (X8.pool.ne nl)]; exact upd_same
      obtain ⟨m, hm3, hm⟩ : ∃ m : Nat, m ≤ 3 ∧ ([.int 1, .int 2, .int 2, .int 3, .int 0, .int 1] : List V)[v]? = some (.int m) := by
        match v, hv with
        | 0, _ => exact ⟨1, by decide, rfl⟩
        | 1, _ => exact ⟨2, by decide, rfl⟩
        | 2, _ => exact ⟨2, by decide, rfl⟩
        | 3, _ => exact ⟨3, by decide, rfl⟩
        | 4, _ => exact ⟨0, by decide, rfl⟩
        | 5, _ => exact ⟨1, by decide, rfl⟩
        | n + 6, h => exact absurd h (by omega)
      have Z9 := ((Px.refl X8.pool).new nl).trans X9
      refine ⟨_, _, _, _, rfl, rfl, SqL.of hl9, atI_nat hm, _, rfl, by omega, by omega, fun L7 nL7 => lc_range (lo := 0) (n := ((m : Nat) : Int).toNat)
        (fun j H' => Px p a H8 H' ∧ ∃ ps : List Str, ps.length = j ∧ (∀ x ∈ ps, x ∈ N) ∧ hid p H' L7 = some (.lst (ps.map V.str))) ⟨Z9.new nL7, [], rfl, (fun _ h => nomatch h), hid_new (X9.pool.ne nL7)⟩ ?_ ?_⟩
      · rintro j H10 hj ⟨X10, ps, hpj, hpN, hps⟩
        have f7 : H8 L7 = none := Z9.free nL7
        refine ⟨rfl, tYes_in ⟨_, rfl, _, rfl, _, rfl, _, _, rfl, .inl (SqL.of (X10.at_ q5)), p, a, N.length, by rw [List.length_map]; rfl, by omega, by omega, X10.pool, fun u H11 hu X11 _ => ?_⟩⟩
        have hu' : u < N.length := by omega
        have Z11 := X10.trans X11
        refine ⟨_, _, _, _, rfl, rfl, SqL.of (Z11.at_ q5), atI_nat (strV_at hu'), _, hid_get (X11.get hps), sz_lt (by rw [List.length_map]; omega), Z11.mut f7, ps ++ [N[u]], ?_, ?_, ?_⟩
        · rw [List.length_append, hpj]; rfl
        · intro x hx
          rcases List.mem_append.mp hx with z | z
          · exact hpN x z
          · rw [List.mem_singleton.mp z]; exact List.getElem_mem hu'
        · rw [hid_new (X8.pool.ne f7), List.map_append]; rfl
      · rintro H10 ⟨X10, ps, hpj, hpN, hps⟩
        rw [Int.toNat_natCast] at hpj
        refine ⟨_, _, rfl, .inl ⟨SqL.of (hid_get hps), fun pt npt => ?_⟩⟩
        have Z10 := X10.new (o := .tup (ps.map V.str)) npt
        have hpt : upd H10 pt (.tup (ps.map V.str)) pt = some (.tup (ps.map V.str)) := upd_same
        generalize upd H10 pt (.tup (ps.map V.str)) = H11 at *
        -- ranges
        refine ⟨Nat.zero_le _, fun L8 nL8 => ?_⟩
        have Z11 := Z10.new (o := .lst []) nL8
        have hpt2 : upd H11 L8 (.lst []) pt = some (.tup (ps.map V.str)) := Ex.new nL8 _ _ hpt
        have h8 : hid p (upd H11 L8 (.lst [])) L8 = some (.lst []) := hid_new (Z10.pool.ne nL8)
        have f8 : H8 L8 = none := Z10.free nL8
        have p8 := X8.pool.ne f8
        generalize upd H11 L8 (.lst []) = H12 at *
        refine ⟨_, rfl, pt, rfl, ⟨_, SqT.of hpt2⟩, for_tup (K := K) (a := pt) (xs := ps.map V.str)
          (fun j σ H' => Px p a H8 H' ∧ TEx H12 H' ∧ ∃ (ra : List Addr) (R : List (Int × Int)) (x9 x10 : Option V), hid p H' L8 = some (.lst (ra.map V.ref)) ∧ All2 (IntsAt H') ra R ∧ R.length = j ∧ (∀ r ∈ R, 0 ≤ r.1 ∧ r.1 ≤ 4 ∧ r.1 + 2 ≤ r.2 ∧ r.2 ≤ r.1 + 6) ∧
            σ = [some (.ref p), some (.int most), some (.int (i : Int)), some (.ref L3), some (.ref L4), some (.ref L5), some (.ref L6), some (.ref pt), some (.ref L8), x9, x10, none, none, none, none])
          ⟨Z11, .refl _, [], [], _, _, h8, .nil, rfl, (fun _ h => nomatch h), rfl⟩ (fun j σ H' _ g => SqT.of (g.2.1 _ _ hpt2)) ?_ ?_⟩
        · rintro j x σ H13 hx ⟨X13, T13, ra, R, x9, x10, hra, hR, hRj, hRw, rfl⟩
          have hj3 : j < 3 := by have := (List.getElem?_eq_some_iff.mp hx).1; rw [List.length_map] at this; omega
          refine ⟨_, rfl, p, a, 5, rfl, by decide, by decide, X13.pool, fun lo H14 hlo X14 _ => ?_⟩
          refine ⟨_, rfl, .inl ⟨rfl, _, SqL.of (hid_get (X14.get hra))⟩, _, rfl, _, rfl, _, _, rfl, rfl, _, rfl, p, a, 5, rfl, by decide, by decide, X14.pool, fun u H15 hu X15 _ => ⟨_, _, rfl, rfl, (by show 2 ≤ sizeLine; decide), fun e ne => ?_⟩⟩
          have X16 := (X14.trans X15).new (o := .tup [.int lo, .int ((lo : Int) + 2 + u)]) ne
          have hra16 := X16.get hra
          have T16 := TEx.px X16
          have he : upd H15 e (.tup [.int lo, .int ((lo : Int) + 2 + u)]) e = some (.tup [.int lo, .int ((lo : Int) + 2 + u)]) := upd_same
          generalize upd H15 e (.tup [.int lo, .int ((lo : Int) + 2 + u)]) = H16 at *
          refine ⟨L8, ra.map V.ref, .ref e, rfl, rfl, hid_get hra16, sz_lt (by rw [List.length_map, hR.1]; omega), (X13.trans X16).mut f8, T13.trans (T16.trans (TEx.mut (hid_get hra16))), ra ++ [e], R ++ [((lo : Int), (lo : Int) + 2 + u)], _, _, ?_, ?_, ?_, ?_, rfl⟩
          · rw [hid_new p8, List.map_append]; rfl
          · exact (hR.imp fun _ _ z => (z.te T16).te (TEx.mut (hid_get hra16))).snoc (TEx.mut (hid_get hra16) _ _ he)
          · rw [List.length_append, hRj]; rfl
          · intro r hr
            rcases List.mem_append.mp hr with z | z
            · exact hRw r z
            · rw [List.mem_singleton.mp z]
              refine ⟨?_, ?_, ?_, ?_⟩ <;> simp <;> omega
        · rintro σ H13 ⟨X13, T13, ra, R, x9, x10, hra, hR, hRj, hRw, rfl⟩
          have hs := nm_read nmg_str (k := i) (by omega)
          rw [List.length_map] at hRj
          refine ⟨_, rfl, .inl ⟨rfl, _, SqL.of (X13.at_ q6)⟩, _, rfl, _, rfl, hs.1, _, _, rfl, rfl, hs.2, ?_⟩
          refine ⟨_, rfl, _, rfl, _, _, rfl, .inr (SqT.of (T13 _ _ hpt2)), p, a, ps.length, by rw [List.length_map]; rfl, by omega, X13.pool, fun t bs H14 hbl X14 nt ht => ?_⟩
          have T14 := TEx.px X14
          refine ⟨_, rfl, _, rfl, _, _, rfl, .inl ⟨SqL.of (hid_get (X14.get hra)), fun rt nrt => ?_⟩⟩
          have X15 := X14.new (o := .tup (ra.map V.ref)) nrt
          have T15 := TEx.px X15
          have hrt : upd H14 rt (.tup (ra.map V.ref)) rt = some (.tup (ra.map V.ref)) := upd_same
          have ht15 : upd H14 rt (.tup (ra.map V.ref)) t = some (.tup (bs.map V.bl)) := Ex.new nrt _ _ ht
          generalize upd H14 rt (.tup (ra.map V.ref)) = H15 at *
          refine ⟨(by show 4 ≤ sizeLine; decide), fun g ngg => ?_⟩
          have X16 := X15.new (o := .tup [.str (("g" : Str) ++ Str.ofString (toString ((i : Nat) : Int))), .ref t, .ref pt, .ref rt]) ngg
          have T16 : TEx H13 (upd H15 g (.tup [.str (("g" : Str) ++ Str.ofString (toString ((i : Nat) : Int))), .ref t, .ref pt, .ref rt])) := TEx.px X16
          have hg16 : upd H15 g (.tup [.str (("g" : Str) ++ Str.ofString (toString ((i : Nat) : Int))), .ref t, .ref pt, .ref rt]) g = some (.tup [.str (("g" : Str) ++ Str.ofString (toString ((i : Nat) : Int))), .ref t, .ref pt, .ref rt]) := upd_same
          have ht16 := Ex.new (o := .tup [.str (("g" : Str) ++ Str.ofString (toString ((i : Nat) : Int))), .ref t, .ref pt, .ref rt]) ngg _ _ ht15
          have hrt16 := Ex.new (o := .tup [.str (("g" : Str) ++ Str.ofString (toString ((i : Nat) : Int))), .ref t, .ref pt, .ref rt]) ngg _ _ hrt
          have Z16 := X13.trans X16
          generalize upd H15 g (.tup [.str (("g" : Str) ++ Str.ofString (toString ((i : Nat) : Int))), .ref t, .ref pt, .ref rt]) = H16 at *
          have hG16 : GateAt H16 g ⟨nm "g" i, bs, ps, R⟩ := ⟨t, pt, rt, ra, hg16, ht16, (T13.trans T16) _ _ hpt2, hrt16, hR.imp fun _ _ z => z.te T16⟩
          have q6' := Z16.get q6
          have p6' := hid_neq q6'
          have p5' := hid_neq q5
          have T17 : TEx H16 (upd H16 L6 (.lst (ga.map V.ref ++ [.ref g]))) := TEx.mut (hid_get q6')
          have hGs : All2 (GateAt H16) ga G := hG.imp fun _ _ z => z.te (TEx.px Z16)
          refine ⟨L6, ga.map V.ref, .ref g, rfl, rfl, hid_get q6', sz_lt (by rw [List.length_map, hG.1]; omega), ?_⟩
          have r3 := keep1 (o' := .lst (ga.map V.ref ++ [.ref g])) (Z16.get q3) n36 p6'
          have r4 := keep1 (o' := .lst (ga.map V.ref ++ [.ref g])) (Z16.get q4) n46 p6'
          have r5 := keep1 (o' := .lst (ga.map V.ref ++ [.ref g])) (Z16.get q5) n56 p6'
          have r6 : hid p (upd H16 L6 (.lst (ga.map V.ref ++ [.ref g]))) L6 = some (.lst ((ga ++ [g]).map V.ref)) := by rw [hid_new p6', List.map_append]; rfl
          have X17 := ((X8.trans Z16)).mut (o := .lst (ga.map V.ref ++ [.ref g])) f6
          have hG17 : All2 (GateAt (upd H16 L6 (.lst (ga.map V.ref ++ [.ref g])))) (ga ++ [g]) (G ++ [⟨nm "g" i, bs, ps, R⟩]) := (hGs.imp fun _ _ z => z.te T17).snoc (hG16.te T17)
          generalize upd H16 L6 (.lst (ga.map V.ref ++ [.ref g])) = H17 at *
          refine ⟨_, rfl, .inl ⟨rfl, _, SqL.of (hid_get r5)⟩, _, rfl, _, rfl, hs.1, _, _, rfl, rfl, hs.2, L5, N.map V.str, .str (nm "g" i), rfl, rfl, hid_get r5, sz_lt (by rw [List.length_map]; omega), ?_⟩
          have T18 : TEx H17 (upd H17 L5 (.lst (N.map V.str ++ [.str (nm "g" i)]))) := TEx.mut (hid_get r5)
          refine ⟨X17.mut f5, keep1 r3 n35 p5', keep1 r4 n45 p5', ?_, ga ++ [g], G ++ [⟨nm "g" i, bs, ps, R⟩], keep1 r6 n56.symm p5', hG17.imp fun _ _ z => z.te T18, ?_, ?_, _, _, _, _, _, rfl⟩
          · rw [hid_new p5', nms_snoc, ← List.append_assoc, eN, List.map_append]; rfl
          · rw [List.length_append, hGi]; rfl
          · intro k g' hk
            by_cases hkl : k < G.length
            · rw [List.getElem?_append_left hkl] at hk; exact hGw k g' hk
            · rw [List.getElem?_append_right (by omega)] at hk
              have hk0 : k - G.length = 0 := by
                cases e : k - G.length with
                | zero => rfl
                | succ n => rw [e] at hk; exact nomatch hk
              rw [hk0] at hk
              have : k = i := by omega
              subst this
              cases hk
              exact ⟨rfl, by show ps.length ≤ 3; omega, by rw [eN]; exact hpN, hbl, hRj, hRw⟩
    · rintro σ H8 ⟨X8, q3, q4, q5, ga, G, q6, hG, hGi, hGw, x2, x7, x8, x9, x10, rfl⟩
      rw [Int.toNat_natCast] at hGi q5
      have lN : (ins ++ rgs ++ (List.range ng).map (nm "g")).length ≤ 21 := by
        rw [List.length_append, List.length_append, List.length_map, List.length_range]; omega
      have lN0 : 0 < (ins ++ rgs ++ (List.range ng).map (nm "g")).length := by
        rw [List.length_append, List.length_append]; omega
      generalize eN : ins ++ rgs ++ (List.range ng).map (nm "g") = N at *
      -- regs
      refine ⟨_, rfl, L4, rfl, ⟨_, SqL.of (hid_get q4)⟩, fun L11 nL11 => wk_list (K := K) (a := L4) (xs := rgs.map V.str)
        (fun j H' => Px p a H8 H' ∧ ∃ (ra : List Addr) (R : List RegD), hid p H' L11 = some (.lst (ra.map V.ref)) ∧ All2 (RegAt H') ra R ∧ R.map (·.name) = rgs.take j ∧ ∀ r ∈ R, RegWf r ∧ r.net ∈ N)
        ⟨(Px.refl X8.pool).new nL11, [], [], hid_new (X8.pool.ne nL11), .nil, (by rw [List.take_zero]; rfl), (fun _ h => nomatch h)⟩ (fun j H' _ g => SqL.of (g.1.at_ q4)) ?_ ?_⟩
      · rintro j x H9 hx ⟨X9, ra, R, hra, hR, hRn, hRw⟩
        have hj : j < rgs.length := by have := (List.getElem?_eq_some_iff.mp hx).1; rw [List.length_map] at this; exact this
        obtain rfl : x = .str rgs[j] := by rw [strV_at hj] at hx; exact (Option.some.inj hx).symm
        refine ⟨rfl, tYes_in ⟨_, rfl, _, rfl, _, rfl, _, rfl, _, rfl, _, _, rfl, .inl (SqL.of (X9.at_ q5)), p, a, N.length, by rw [List.length_map]; rfl, by omega, by omega, X9.pool, fun u H10 hu X10 _ => ?_⟩⟩
        have hu' : u < N.length := by omega
        refine ⟨_, _, _, _, rfl, rfl, SqL.of ((X9.trans X10).at_ q5), atI_nat (strV_at hu'), p, a, rgs[j], N[u], rfl, X10.pool, fun y r H11 X11 ny hr hn1 hn2 hw => ?_⟩
        have Z := X10.trans X11
        have hra' := Z.get hra
        refine ⟨_, hid_get hra', sz_lt (by rw [List.length_map, hR.1]; have := congrArg List.length hRn; rw [List.length_map, List.length_take] at this; omega), (X9.trans Z).mut nL11, ra ++ [y], R ++ [r], ?_, ?_, ?_, ?_⟩
        · rw [hid_new (X8.pool.ne nL11), List.map_append]; rfl
        · exact ((hR.imp fun _ _ z => z.te (TEx.px Z)).snoc hr).imp fun _ _ z => z.te (TEx.mut (hid_get hra'))
        · rw [List.map_append, hRn, List.take_add_one, List.getElem?_eq_getElem hj, ← hn1]; rfl
        · intro r' hr'
          rcases List.mem_append.mp hr' with z | z
          · exact hRw r' z
          · rw [List.mem_singleton.mp z]; exact ⟨hw, by rw [hn2]; exact List.getElem_mem hu'⟩
      rintro H9 ⟨X9, ra, R, hra, hR, hRn, hRw⟩
      rw [List.length_map, List.take_length] at hRn
      -- outputs
      refine ⟨_, rfl, p, a, 4, rfl, by decide, by decide, X9.pool, fun nq H10 hnq X10 _ => ⟨_, rfl, by omega, by omega, fun L12 nL12 => lc_range (lo := 0) (n := ((nq : Nat) : Int).toNat)
        (fun j H' => Px p a H10 H' ∧ ∃ (oa : List Addr) (O : List (Str × Str)), hid p H' L12 = some (.lst (oa.map V.ref)) ∧ All2 (OutAt H') oa O ∧ O.map (·.1) = (List.range j).map (nm "p") ∧ ∀ o ∈ O, o.2 ∈ N)
        ⟨(Px.refl X10.pool).new nL12, [], [], hid_new (X10.pool.ne nL12), .nil, rfl, (fun _ h => nomatch h)⟩ ?_ ?_⟩⟩
      · rintro j H11 hj ⟨X11, oa, O, hoa, hO, hOn, hOw⟩
        have hs := nm_read nmp_str (k := j) (by omega)
        have ej : (0 : Int) + (j : Int) = (j : Int) := Int.zero_add _
        rw [ej]
        have Z11 := (X9.trans X10).trans X11
        refine ⟨rfl, tYes_in ⟨_, rfl, _, rfl, hs.1, _, _, rfl, rfl, hs.2, _, rfl, _, rfl, _, rfl, _, _, rfl, .inl (SqL.of (Z11.at_ q5)), p, a, N.length, by rw [List.length_map]; rfl, by omega, by omega, X11.pool, fun u H12 hu X12 _ => ?_⟩⟩
        have hu' : u < N.length := by omega
        refine ⟨_, _, _, _, rfl, rfl, SqL.of ((Z11.trans X12).at_ q5), atI_nat (strV_at hu'), (by show 2 ≤ sizeLine; decide), fun e ne => ?_⟩
        have Z := X12.new (o := .tup [.str (("p" : Str) ++ Str.ofString (toString ((j : Nat) : Int))), .str N[u]]) ne
        have hoa' := Z.get hoa
        refine ⟨_, hid_get hoa', sz_lt (by rw [List.length_map, hO.1]; have := congrArg List.length hOn; rw [List.length_map, List.length_map, List.length_range] at this; omega), (X11.trans Z).mut nL12, oa ++ [e], O ++ [(nm "p" j, N[u])], ?_, ?_, ?_, ?_⟩
        · rw [hid_new (X10.pool.ne nL12), List.map_append]; rfl
        · exact ((hO.imp fun _ _ z => TEx.px Z _ _ z).snoc (show OutAt _ e (nm "p" j, N[u]) from upd_same)).imp fun _ _ z => TEx.mut (hid_get hoa') _ _ z
        · rw [List.map_append, hOn, nms_snoc]; rfl
        · intro o ho
          rcases List.mem_append.mp ho with z | z
          · exact hOw o z
          · rw [List.mem_singleton.mp z]; exact List.getElem_mem hu'
      rintro H11 ⟨X11, oa, O, hoa, hO, hOn, hOw⟩
      rw [Int.toNat_natCast] at hOn
      have Z11 := X9.trans (X10.trans X11)
      have T11 : TEx H9 H11 := TEx.px (X10.trans X11)
      refine ⟨_, rfl, _, _, rfl, .inl ⟨SqL.of (Z11.at_ q3), fun it nit => ?_⟩⟩
      have X12 := (Px.refl X11.pool).new (o := .tup (ins.map V.str)) nit
      have hit : upd H11 it (.tup (ins.map V.str)) it = some (.tup (ins.map V.str)) := upd_same
      generalize upd H11 it (.tup (ins.map V.str)) = H12 at *
      have hga12 := (Z11.trans X12).get q6
      refine ⟨_, rfl, _, rfl, p, a, L6, ga.map V.ref, rfl, X12.pool, hga12, by rw [List.length_map, hG.1]; omega, fun o ys H13 X13 no ho hperm => ?_⟩
      obtain ⟨gb, GB, rfl, hGB, hGp⟩ := perm_refs (hG.imp fun _ _ z => z.te (TEx.px (Z11.trans (X12.trans X13)))) hperm
      refine ⟨_, _, rfl, .inl ⟨SqL.of ho, fun gt ngt => ?_⟩⟩
      have X14 := X13.new (o := .tup (gb.map V.ref)) ngt
      have hgt : upd H13 gt (.tup (gb.map V.ref)) gt = some (.tup (gb.map V.ref)) := upd_same
      have T14 : TEx H13 (upd H13 gt (.tup (gb.map V.ref))) := TEx.new ngt
      generalize upd H13 gt (.tup (gb.map V.ref)) = H14 at *
      have Y14 := X12.trans X14
      refine ⟨_, rfl, _, _, rfl, .inl ⟨SqL.of (hid_get (Y14.get ((X10.trans X11).get hra))), fun rt nrt => ?_⟩⟩
      have X15 := Y14.new (o := .tup (ra.map V.ref)) nrt
      have hrt : upd H14 rt (.tup (ra.map V.ref)) rt = some (.tup (ra.map V.ref)) := upd_same
      have T15 : TEx H14 (upd H14 rt (.tup (ra.map V.ref))) := TEx.new nrt
      generalize upd H14 rt (.tup (ra.map V.ref)) = H15 at *
      refine ⟨_, rfl, _, _, rfl, .inl ⟨SqL.of (hid_get (X15.get hoa)), fun ot not => ?_⟩⟩
      have X16 := X15.new (o := .tup (oa.map V.ref)) not
      have hot : upd H15 ot (.tup (oa.map V.ref)) ot = some (.tup (oa.map V.ref)) := upd_same
      have T16 : TEx H15 (upd H15 ot (.tup (oa.map V.ref))) := TEx.new not
      generalize upd H15 ot (.tup (oa.map V.ref)) = H16 at *
      refine ⟨(by show 4 ≤ sizeLine; decide), fun c nc => ?_⟩
      have T17 : TEx H16 (upd H16 c (.tup [.ref it, .ref gt, .ref rt, .ref ot])) := TEx.new nc
      have T1114 := TEx.px Y14
      have T1117 := TEx.px X16
      refine q c ⟨ins, GB, R, O⟩ G it gt rt ot gb ra oa _ ((X8.trans (Z11.trans X16)).new nc) ⟨upd_same, ?_, ?_, ?_, ?_, ?_, ?_, ?_⟩ ⟨?_, ?_, ?_, ?_, ?_, ?_, ?_, ?_⟩
      · exact T17 _ _ (T16 _ _ (T15 _ _ (T14 _ _ (TEx.px X13 _ _ hit))))
      · exact T17 _ _ (T16 _ _ (T15 _ _ hgt))
      · exact T17 _ _ (T16 _ _ hrt)
      · exact T17 _ _ hot
      · exact hGB.imp fun _ _ z => z.te (T14.trans (T15.trans (T16.trans T17)))
      · exact hR.imp fun _ _ z => z.te (T11.trans (T1117.trans T17))
      · exact hO.imp fun _ _ z => (T1117.trans T17) _ _ z
      · exact ⟨na + 1, by omega, by omega, eIns.symm⟩
      · exact ⟨nb, by omega, hRn.trans eRgs.symm⟩
      · show G.length ≤ most
        omega
      · intro k g hk
        have := hGw k g hk
        show GateWf (ins ++ R.map (·.name) ++ _) k g
        rw [hRn]; exact this
      · exact hGp
      · intro r hr
        show RegWf r ∧ r.net ∈ ins ++ R.map (·.name) ++ (List.range G.length).map (nm "g")
        rw [hRn, hGi, eN]; exact hRw r hr
      · exact ⟨nq, by omega, hOn⟩
      · intro o ho
        show o.2 ∈ ins ++ R.map (·.name) ++ (List.range G.length).map (nm "g")
        rw [hRn, hGi, eN]; exact hOw o ho
end
end G
/-! zip of two rows, each a list or a tuple -/
namespace G
open PySem PySem.Spec PyProof.Rows L2 Evl
def SqB (t : Bool) (K : PySem.W.Frag) (H : Hp) (a : Addr) (xs : List V) : Prop := if t = true then SqT K H a xs else SqL K H a xs
def ItB (t : Bool) (h : Heap) (it l : Addr) (i : Nat) : Prop := if t = true then h.IsTupleIter it l i else h.IsListIter it l i
theorem ItB.obj {t : Bool} {h : Heap} {it l : Addr} {i : Nat} (x : ItB t h it l i) : ∃ o, h.get? it = some o ∧ ∃ q, o.data = .fields q := by
  unfold ItB at x
  split at x
  · obtain ⟨o, ho, _, hd⟩ := x; exact ⟨o, ho, _, hd⟩
  · obtain ⟨o, ho, _, hd⟩ := x; exact ⟨o, ho, _, hd⟩
theorem ItB.to {t : Bool} {h h' : Heap} {it l : Addr} {i : Nat} (x : ItB t h it l i) (k : ∀ o, h.get? it = some o → h'.get? it = some o) : ItB t h' it l i := by
  unfold ItB at x ⊢
  split
  · rw [if_pos (by assumption)] at x; exact x.at k
  · rw [if_neg (by assumption)] at x; exact x.at k
theorem SqB.one {X : Cx} {pins : List (Addr × Obj)} {σ : L2.St} {H : Hp} {s : Shared} (I : Inv X pins σ H s) {t : Bool} {a : Addr} {xs ys : List V} (h : SqB t X.K H a xs) (h' : SqB t X.K H a ys) : xs = ys := by
  unfold SqB at h h'
  cases t with
  | true => exact I.tuple_inj h h'
  | false => exact I.list_inj h h'
theorem drawsB {X : Cx} {pins : List (Addr × Obj)} {σ : L2.St} {H : Hp} {s : Shared} (I : Inv X pins σ H s) (hh : X.A.handled = none) {t : Bool} {a it : Addr} {xs : List V} {i : Nat} (hq : SqB t X.K H a xs) (st : ItB t s.heap it a i) (hne : a ≠ it) :
    ∃ (items : List Value) (St : Nat → Heap → Prop), Vals xs items ∧ Draws X.prog X.w X.A.in1 it [it, a] items.toArray.size (fun i v => items.toArray[i]? = some v) St ∧ St i s.heap ∧ ∀ h', St (i + 1) h' → ItB t h' it a (i + 1) := by
  unfold SqB at hq
  unfold ItB at st ⊢
  cases t with
  | true =>
    obtain ⟨items, rv, p, _⟩ := I.tuple hq
    exact ⟨items, _, rv, Draws.tuple (A := X.A.in1) hh it a hne items.toArray, ⟨st, p⟩, fun h' z => z.1⟩
  | false =>
    obtain ⟨items, rv, p, _⟩ := I.list hq
    exact ⟨items, _, rv, Draws.list (A := X.A.in1) hh it a hne items.toArray, ⟨st, p.isList⟩, fun h' z => z.1⟩
/-- both rows as they stand at each turn, a new pair each -/
def ItM (t1 t2 : Bool) (K : PySem.W.Frag) (a b : Addr) : It :=
  ⟨fun i H => ∃ (xs ys : List V), SqB t1 K H a xs ∧ SqB t2 K H b ys ∧ i < xs.length ∧ i < ys.length,
   fun i H v H' => ∃ T x y, v = .ref T ∧ H T = none ∧ H' = upd H T (.tup [x, y]) ∧ (∀ xs, SqB t1 K H a xs → xs[i]? = some x) ∧ ∀ ys, SqB t2 K H b ys → ys[i]? = some y,
   fun i H => ∃ xs ys : List V, SqB t1 K H a xs ∧ SqB t2 K H b ys ∧ i ≤ xs.length ∧ i ≤ ys.length ∧ (i = xs.length ∨ i = ys.length)⟩
theorem turn_zipM {P : Program} {w : World} {K : PySem.W.Frag} {elts : List Expr} {kk : Nat} {tpos : Pos} {t1 t2 : Bool} {a b z TI TO i1 i2 : Addr} (S : ZipSep2 z TI TO i1 i2 [i1, a] [i2, b]) (na : a ≠ i1) (nb : b ≠ i2) :
    Turn P w K (.Tuple elts kk tpos) (ItM t1 t2 K a b) [z, TI, TO, i1, i2] z (fun i h => IsZip h z TI TO .none ∧ IsTupOf2 h TI (.ref i1) (.ref i2) ∧ (∃ x y, IsTupOf2 h TO x y) ∧ ItB t1 h i1 a i ∧ ItB t2 h i2 b i) where
  mem := by simp
  obj := fun i h st c hc => by
    obtain ⟨hz, hTI, ⟨x, y, hTO⟩, h1, h2⟩ := st
    obtain ⟨o1, e1, q1, d1⟩ := h1.obj
    obtain ⟨o2, e2, q2, d2⟩ := h2.obj
    have e' : c = z ∨ c = TI ∨ c = TO ∨ c = i1 ∨ c = i2 := by simpa using hc
    rcases e' with q | q | q | q | q <;> subst q
    · exact ⟨_, hz, fun v q => nomatch q⟩
    · exact ⟨_, hTI, fun v q => nomatch q⟩
    · exact ⟨_, hTO, fun v q => nomatch q⟩
    · exact ⟨o1, e1, fun v q => by rw [d1] at q; cases q⟩
    · exact ⟨o2, e2, fun v q => by rw [d2] at q; cases q⟩
  keep := fun i h h' st k => by
    obtain ⟨hz, hTI, ⟨x, y, hTO⟩, h1, h2⟩ := st
    exact ⟨k _ (by simp) _ hz, k _ (by simp) _ hTI, ⟨x, y, k _ (by simp) _ hTO⟩, h1.to (k i1 (by simp)), h2.to (k i2 (by simp))⟩
  item := by
    intro X hP hw hK hc i pins s σ H E I hf st hg
    subst hP hw hK
    obtain ⟨hz, hTI, ⟨x0, y0, hTO⟩, h1, h2⟩ := st
    obtain ⟨xs, ys, hqx, hqy, hx, hy⟩ := hg
    have hh : X.A.handled = none := I.ok.hd hc
    obtain ⟨its, St1, rv, D1, s1, n1⟩ := drawsB I hh hqx h1 na
    obtain ⟨its2, St2, rv2, D2, s2, n2⟩ := drawsB I hh hqy h2 nb
    have hxe : xs[i]? = some xs[i] := List.getElem?_eq_getElem hx
    have hye : ys[i]? = some ys[i] := List.getElem?_eq_getElem hy
    obtain ⟨u, hu, ru⟩ := rv.get hxe
    obtain ⟨u2, hu2, ru2⟩ := rv2.get hye
    have hzl : z < s.heap.objs.size := Heap.lt_size hz
    refine wpAny_pyNext_zipD2_item S D1 D2 hz hTI hTO s1 s2 (by have := rv.length; simp; omega) (by have := rv2.length; simp; omega) fun v1 v2 h' tk e1 e2 z' TO' t1' t2' hT hsz hk => ?_
    have ev1 : v1 = u := Option.some.inj (e1.symm.trans (by simpa using hu))
    have ev2 : v2 = u2 := Option.some.inj (e2.symm.trans (by simpa using hu2))
    subst ev1 ev2
    refine ⟨_, rfl, wpAny_letOwnedTupleGo_zip (s := { s with heap := h', toks := tk }) z' fun h'' z'' sb => ?_⟩
    have hT2 : h''.get? s.heap.objs.size = some { cls := .type "tuple", data := .seq #[v1, v2] } := (sb.2 _ (Nat.ne_of_gt hzl)).trans hT
    have made : ObjOk X.prog X.w (upd H s.heap.objs.size (.tup [xs[i], ys[i]])) h'' s.heap.objs.size (.tup [xs[i], ys[i]]) := ⟨(by show 2 ≤ sizeLine; decide), [v1, v2], .cons ru (.cons ru2 .nil), _, hT2, rfl, _, rfl⟩
    have old : ∀ c, c ∈ [z, TI, TO, i1, i2] → c < s.heap.objs.size := fun c hcm => by
      have e' : c = z ∨ c = TI ∨ c = TO ∨ c = i1 ∨ c = i2 := by simpa using hcm
      rcases e' with q | q | q | q | q <;> rw [q]
      · exact hzl
      · exact Heap.lt_size hTI
      · exact Heap.lt_size hTO
      · obtain ⟨_, e, _⟩ := h1.obj; exact Heap.lt_size e
      · obtain ⟨_, e, _⟩ := h2.obj; exact Heap.lt_size e
    have I1 : Inv X pins σ (upd H s.heap.objs.size (.tup [xs[i], ys[i]])) { s with heap := h'', toks := tk } :=
      I.turnedNew (ch := [z, TI, TO, i1, i2]) (fun c o nb q => by
        have out : c ≠ z ∧ c ≠ TI ∧ c ≠ TO ∧ c ≠ i1 ∧ c ≠ i2 := by simpa using nb
        exact (sb.2 c out.1).trans (hk c o out.1 out.2.2.1 out.2.2.2.1 out.2.2.2.2 q)) hf (Nat.le_refl _) made
    refine ⟨.ref s.heap.objs.size, _, I1, rfl, ⟨_, xs[i], ys[i], rfl, I.hok.fresh (Nat.le_refl _), rfl, fun l hl => (congrArg (·[i]?) (hqx.one I hl)).symm.trans hxe, fun l hl => (congrArg (·[i]?) (hqy.one I hl)).symm.trans hye⟩,
      ⟨z'', (sb.2 _ S.TIz).trans (hk _ _ S.TIz S.TITO S.TIi1 S.TIi2 hTI), ⟨v1, v2, (sb.2 _ S.TOz).trans TO'⟩, (n1 _ t1').to fun o q => (sb.2 _ S.zi1.symm).trans q, (n2 _ t2').to fun o q => (sb.2 _ S.zi2.symm).trans q⟩, fun c hcm => ?_⟩
    rw [upd_ne (Nat.ne_of_lt (old c hcm))]
    exact (hf c hcm).1
  done := by
    intro X hP hw hK hc i pins s σ H E I hf st hg
    subst hP hw hK
    obtain ⟨hz, hTI, ⟨x0, y0, hTO⟩, h1, h2⟩ := st
    obtain ⟨xs, ys, hqx, hqy, hlx, hly, hend⟩ := hg
    have hh : X.A.handled = none := I.ok.hd hc
    obtain ⟨its, St1, rv, D1, s1, n1⟩ := drawsB I hh hqx h1 na
    obtain ⟨its2, St2, rv2, D2, s2, n2⟩ := drawsB I hh hqy h2 nb
    have l1 := rv.length
    have l2 := rv2.length
    refine wpAny_pyNext_zipD2_end S D1 D2 hz hTI hTO s1 s2 (by simp; omega) (by simp; omega) (by simp; omega) fun h' tk hk => ⟨rfl, I.turnedL (t' := tk) (ch := [z, TI, TO, i1, i2]) (fun c o nb q => ?_) hf⟩
    have out : c ≠ z ∧ c ≠ TI ∧ c ≠ TO ∧ c ≠ i1 ∧ c ≠ i2 := by simpa using nb
    exact hk c o out.1 out.2.2.1 out.2.2.2.1 out.2.2.2.2 q
  self := fun A i s Q E st h => wpAny_pyIter_zip st.1 h
def iZipM (K : PySem.W.Frag) (t1 t2 : Bool) (ta : TA) : TI := fun σ H R => ta σ H fun vs H1 => ∃ a b xs ys, vs = [.ref a, .ref b] ∧ SqB t1 K H1 a xs ∧ SqB t2 K H1 b ys ∧ R (ItM t1 t2 K a b) H1
theorem nin2 {x y z : Nat} (h1 : x ≠ y) (h2 : x ≠ z) : x ∉ [y, z] := by simp [h1, h2]
theorem nin2' {x y z : Nat} (h1 : x ≠ y) (h2 : x ≠ z) : ¬ (x : Addr) ∈ ([y, z] : List Addr) := nin2 h1 h2
theorem sepZ {n a b : Nat} (ha : a < n) (hb : b < n) : ZipSep2 (n + 4) (n + 2) (n + 3) n (n + 1) [n, a] [n + 1, b] :=
  have e1 : n + 2 ≠ n + 4 := by omega
  have e2 : n + 3 ≠ n + 4 := by omega
  have e3 : n + 2 ≠ n + 3 := by omega
  have e4 : n + 2 ≠ n := by omega
  have e5 : n + 2 ≠ n + 1 := by omega
  have f1 : n + 4 ≠ n := by omega
  have f2 : n + 4 ≠ a := by omega
  have f3 : n + 3 ≠ n := by omega
  have f4 : n + 3 ≠ a := by omega
  have f5 : n + 4 ≠ n + 1 := by omega
  have f6 : n + 4 ≠ b := by omega
  have f7 : n + 3 ≠ n + 1 := by omega
  have f8 : n + 3 ≠ b := by omega
  have f9 : n ≠ n + 1 := by omega
  have g1 : n ≠ b := by omega
  have g2 : n + 1 ≠ n := by omega
  have g3 : n + 1 ≠ a := by omega
  ⟨e1, e2, e3, e4, List.mem_cons_self .., nin2' f1 f2, nin2' f3 f4, e5, List.mem_cons_self .., nin2' f5 f6, nin2' f7 f8, nin2' f9 g1, nin2' g2 g3⟩
theorem pi_zipM {X : Cx} (t1 t2 : Bool) {e e2 : Expr} {ta : TA} {p pos tpos : Pos} {elts : List Expr} {kk : Nat} (hg : Gl X "zip") (hm : X.mg "zip" = none) (ha : PA X [e, e2] ta)
    (hs : starEach [e, e2] X.env = (false, eval e X.env) :: starEach [e2] X.env := by rfl) (hpl : (backTo pos (starEach [e2] X.env)).any (·.1) = false := by rfl) :
    PI X (.Tuple elts kk tpos) (.Call (.Name "zip" p) [e, e2] [] pos) (iZipM X.K t1 t2 ta) := by
  refine ⟨fun pins s σ H R I h => Call_ (ld_blt I hg hm PyProof.Rows.boot_zip (PyProof.Rows.callWith_type1 (thn (ha.run pos pins s σ H _ I h) fun us s1 ⟨vs, H1, I1, r1, q1⟩ => ?_) hs hpl))⟩
  obtain ⟨a, b, xs, ys, rfl, hqx, hqy, q⟩ := q1
  obtain _ | ⟨r, _ | ⟨r', _ | _⟩⟩ := r1
  cases r
  cases r'
  have beg : ∀ (t : Bool) (c : Addr) (zs : List V), SqB t X.K H1 c zs → ∃ (o : Obj) (Hh : Heap → Prop), Begins (.ref c) o Hh ∧ Hh s1.heap ∧ c < s1.heap.objs.size ∧ ∀ (h' : Heap) (it : Addr), h'.get? it = some o → ItB t h' it c 0 := fun t c zs hq => by
    unfold SqB at hq
    unfold ItB
    cases t with
    | true =>
      obtain ⟨items, _, p, _⟩ := I1.tuple hq
      obtain ⟨o, ho, _⟩ := id p
      exact ⟨_, _, begins_tuple c items.toArray, p, Heap.lt_size ho, fun h' it e => ⟨_, e, rfl, rfl⟩⟩
    | false =>
      obtain ⟨items, _, p, _⟩ := I1.list hq
      exact ⟨_, _, begins_list c items.toArray, p.isList, p.lt, fun h' it e => ⟨_, e, rfl, rfl⟩⟩
  obtain ⟨o1, P1, B1, p1, la, k1⟩ := beg t1 a xs hqx
  obtain ⟨o2, P2, B2, p2, lb, k2⟩ := beg t2 b ys hqy
  refine zip_begins2 B1 B2 p1 p2 fun h' hz hTI hTO g1 g2 hsz hk => wpAny_pyIter_zip hz ?_
  have I2 : Inv X pins σ H1 { s1 with heap := h' } := I1.kept (t' := s1.toks) hk
  refine ⟨s1.heap.objs.size + 4, [s1.heap.objs.size + 4, s1.heap.objs.size + 2, s1.heap.objs.size + 3, s1.heap.objs.size, s1.heap.objs.size + 1], _, _, H1, rfl, I2, turn_zipM (t1 := t1) (t2 := t2) (sepZ la lb) (Nat.ne_of_lt la) (Nat.ne_of_lt (Nat.lt_succ_of_lt lb)), ⟨hz, hTI, ⟨_, _, hTO⟩, k1 _ _ g1, k2 _ _ g2⟩, fun c hcm => ?_, q⟩
  have hle : s1.heap.objs.size ≤ c := by
    have e' : c = s1.heap.objs.size + 4 ∨ c = s1.heap.objs.size + 2 ∨ c = s1.heap.objs.size + 3 ∨ c = s1.heap.objs.size ∨ c = s1.heap.objs.size + 1 := by simpa using hcm
    rcases e' with z | z | z | z | z <;> rw [z]
    · exact Nat.le_add_right _ _
    · exact Nat.le_add_right _ _
    · exact Nat.le_add_right _ _
    · exact Nat.le_refl _
    · exact Nat.le_add_right _ _
  exact I1.fpOk hle (I1.hok.fresh hle)
theorem kPiZipM {X : Cx} {K : PySem.W.Frag} (t1 t2 : Bool) {e e2 : Expr} {ta : TA} {p pos tpos : Pos} {elts : List Expr} {kk : Nat} (h : X.K = K) (hg : Gl X "zip") (hm : X.mg "zip" = none) (ha : PA X [e, e2] ta)
    (hs : starEach [e, e2] X.env = (false, eval e X.env) :: starEach [e2] X.env := by rfl) (hpl : (backTo pos (starEach [e2] X.env)).any (·.1) = false := by rfl) :
    PI X (.Tuple elts kk tpos) (.Call (.Name "zip" p) [e, e2] [] pos) (iZipM K t1 t2 ta) := by subst h; exact pi_zipM t1 t2 hg hm ha hs hpl
theorem walk_zipM {t1 t2 : Bool} {K : PySem.W.Frag} {a b : Addr} {xs ys : List V} {n : Nat} (hx : xs.length = n) (hy : ys.length = n) : Walk (ItM t1 t2 K a b) n (fun H => SqB t1 K H a xs ∧ SqB t2 K H b ys) (YPair (fun i => xs[i]?) (fun i => ys[i]?)) := by
  refine ⟨fun i H hi q => ⟨xs, ys, q.1, q.2, by omega, by omega⟩, fun H q => ⟨xs, ys, q.1, q.2, by omega, by omega, .inl hx.symm⟩, fun i H v H' hi q y => ?_⟩
  obtain ⟨T, x, y, h1, h2, h3, h4, h5⟩ := y
  exact ⟨T, x, y, h1, h2, h3, h4 xs q.1, h5 ys q.2⟩
theorem wipe_in {σ : L2.St} {j : Nat} : ∀ {vs : List Nat}, j ∈ vs → j < σ.length → (wipe σ vs)[j]? = some none
  | v :: vs, h, hl => by
    show ((wipe σ vs).set v none)[j]? = some none
    by_cases e : v = j
    · subst e
      rw [List.getElem?_set_self (by rw [wipe_length]; exact hl)]
    · rw [List.getElem?_set_ne e]
      exact wipe_in ((List.mem_cons.mp h).resolve_left fun z => e z.symm) hl
/-- what stands in a slot that is wiped does not matter -/
theorem wipe_set {σ : L2.St} {i : Nat} {x : Option V} {vs : List Nat} (h : i ∈ vs) : wipe (σ.set i x) vs = wipe σ vs := by
  refine List.ext_getElem? fun j => ?_
  by_cases hl : j < σ.length
  · by_cases hj : j ∈ vs
    · rw [wipe_in hj (by rw [List.length_set]; exact hl), wipe_in hj hl]
    · rw [wipe_out hj, wipe_out hj, List.getElem?_set_ne (fun z => hj (by rw [← z]; exact h))]
  · rw [List.getElem?_eq_none (by rw [wipe_length, List.length_set]; omega), List.getElem?_eq_none (by rw [wipe_length]; omega)]
theorem wipe_wipe {σ : L2.St} {vs : List Nat} : wipe (wipe σ vs) vs = wipe σ vs := by
  refine List.ext_getElem? fun j => ?_
  by_cases hl : j < σ.length
  · by_cases hj : j ∈ vs
    · rw [wipe_in hj (by rw [wipe_length]; exact hl), wipe_in hj hl]
    · rw [wipe_out hj, wipe_out hj]
  · rw [List.getElem?_eq_none (by rw [wipe_length, wipe_length]; omega), List.getElem?_eq_none (by rw [wipe_length]; omega)]
end G
namespace G
open PySem PySem.Spec PyProof.Rows L2 Evl TL
/-! ## == of circuits but for the ranges, as data -/
def rTupOf (K : PySem.W.Frag) : List V → Hp → VK → Prop := fun xs H Q => ∃ p ys, xs = [.ref p] ∧ ((SqL K H p ys ∧ ∀ l, H l = none → Q (.ref l) (upd H l (.tup ys))) ∨ (SqT K H p ys ∧ Q (.ref p) H))
theorem kTupOf {X : Cx} {K : PySem.W.Frag} (h : X.K = K) : CallR X (.type "tuple") (rTupOf K) := by subst h; exact call_tuple_of
instance decIIB : DecidableEq (Int × Int × Bool) := inferInstance
instance decPIIB : DecidableEq ((Int × Int) × (Int × Int) × Int × Int × Bool) := inferInstance
instance decReg : DecidableEq (Str × Str × (Int × Int) × (Int × Int) × Int × Int × Bool) := inferInstance
instance decGate : DecidableEq (Str × List Bool × List Str) := inferInstance
theorem eqvAll_map {α β : Type} [DecidableEq β] {f : α → PyData} {g : α → β} (h : ∀ x y, PyData.eqv (f x) (f y) = decide (g x = g y)) : ∀ l m : List α, PyData.eqvAll (l.map f) (m.map f) = decide (l.map g = m.map g)
  | [], [] => by simp [PyData.eqvAll]
  | [], y :: m => by simp [PyData.eqvAll]
  | x :: l, [] => by simp [PyData.eqvAll]
  | x :: l, y :: m => by
    simp only [List.map_cons, PyData.eqvAll, h x y, eqvAll_map h l m, List.cons.injEq, Bool.decide_and]
def strsP (ns : List Str) : PyData := .tuple (ns.map .str)
def tabP (bs : List Bool) : PyData := .tuple (bs.map .bool)
def pairP (p : Int × Int) : PyData := .tuple [.int p.1, .int p.2]
def gateP (g : GateD) : PyData := .tuple [.str g.name, tabP g.tab, strsP g.pins]
def regP (r : RegD) : PyData := .tuple [.str r.name, .str r.net, pairP r.edge, pairP r.out, .int r.setup, .int r.hold, .bool r.start]
def outP (o : Str × Str) : PyData := .tuple [.str o.1, .str o.2]
def circP (d : CircD) : PyData := .tuple [strsP d.ins, .list (d.gates.map gateP), .tuple (d.regs.map regP), .tuple (d.outs.map outP)]
def gateS (g : GateD) : Str × List Bool × List Str := (g.name, g.tab, g.pins)
def regS (r : RegD) : Str × Str × (Int × Int) × (Int × Int) × Int × Int × Bool := (r.name, r.net, r.edge, r.out, r.setup, r.hold, r.start)
/-- all but the ranges -/
def stripD (d : CircD) : List Str × List (Str × List Bool × List Str) × List (Str × Str × (Int × Int) × (Int × Int) × Int × Int × Bool) × List (Str × Str) := (d.ins, d.gates.map gateS, d.regs.map regS, d.outs)
theorem eqv_strsP (a b : List Str) : PyData.eqv (strsP a) (strsP b) = decide (a = b) := by
  have := eqvAll_map (f := PyData.str) (g := fun x : Str => x) (fun x y => by simp only [PyData.eqv]; rw [Bool.eq_iff_iff]; simp) a b
  simp only [List.map_id'] at this
  simp only [strsP, PyData.eqv, this]
theorem eqv_tabP (a b : List Bool) : PyData.eqv (tabP a) (tabP b) = decide (a = b) := by
  have := eqvAll_map (f := PyData.bool) (g := fun x : Bool => x) (fun x y => by simp only [PyData.eqv]; cases x <;> cases y <;> rfl) a b
  simp only [List.map_id'] at this
  simp only [tabP, PyData.eqv, this]
theorem dec_beq {α : Type} [BEq α] [LawfulBEq α] [DecidableEq α] (a b : α) : (a == b) = decide (a = b) := by rw [Bool.eq_iff_iff]; simp
theorem eqv_pairP (a b : Int × Int) : PyData.eqv (pairP a) (pairP b) = decide (a = b) := by
  obtain ⟨a1, a2⟩ := a
  obtain ⟨b1, b2⟩ := b
  simp only [pairP, PyData.eqv, PyData.eqvAll, Bool.and_true, Prod.mk.injEq, Bool.decide_and, dec_beq]
theorem eqv_gateP (a b : GateD) : PyData.eqv (gateP a) (gateP b) = decide (gateS a = gateS b) := by
  have h1 := eqv_strsP a.pins b.pins
  have h2 := eqv_tabP a.tab b.tab
  simp only [gateP, gateS, PyData.eqv, PyData.eqvAll, Bool.and_true, Prod.mk.injEq, Bool.decide_and, dec_beq, h1, h2]
theorem eqv_regP (a b : RegD) : PyData.eqv (regP a) (regP b) = decide (regS a = regS b) := by
  have h1 := eqv_pairP a.edge b.edge
  have h2 := eqv_pairP a.out b.out
  simp only [regP, regS, PyData.eqv, PyData.eqvAll, Bool.and_true, Prod.mk.injEq, Bool.decide_and, dec_beq, h1, h2]
theorem eqv_outP (a b : Str × Str) : PyData.eqv (outP a) (outP b) = decide (a = b) := by
  obtain ⟨a1, a2⟩ := a
  obtain ⟨b1, b2⟩ := b
  simp only [outP, PyData.eqv, PyData.eqvAll, Bool.and_true, Prod.mk.injEq, Bool.decide_and, dec_beq]
theorem eqv_circP (d e : CircD) : PyData.eqv (circP d) (circP e) = decide (stripD d = stripD e) := by
  have h1 := eqv_strsP d.ins e.ins
  have h2 := eqvAll_map eqv_gateP d.gates e.gates
  have h3 := eqvAll_map eqv_regP d.regs e.regs
  have h4 := eqvAll_map (f := outP) (g := fun x => x) eqv_outP d.outs e.outs
  simp only [List.map_id'] at h4
  simp only [circP, stripD, PyData.eqv, PyData.eqvAll, Bool.and_true, Prod.mk.injEq, Bool.decide_and, h1, h2, h3, h4]
/-! ### its texts are texts -/
structure CircTx (d : CircD) : Prop where
  ins : ∀ x ∈ d.ins, PyData.strOk x = true
  gates : ∀ g ∈ d.gates, PyData.strOk g.name = true ∧ ∀ x ∈ g.pins, PyData.strOk x = true
  regs : ∀ r ∈ d.regs, PyData.strOk r.name = true ∧ PyData.strOk r.net = true
  outs : ∀ o ∈ d.outs, PyData.strOk o.1 = true ∧ PyData.strOk o.2 = true
theorem lay_map {α : Type} {f : α → PyData} {n : Nat} : ∀ {l : List α}, (∀ x ∈ l, (f x).canLay0 = true ∧ (f x).depth ≤ n) → PyData.canLayAll0 (l.map f) = true ∧ PyData.depthAll (l.map f) ≤ n
  | [], _ => ⟨rfl, Nat.zero_le _⟩
  | x :: r, h => by
    have ih := lay_map (l := r) fun y hy => h y (List.mem_cons_of_mem _ hy)
    have hx := h x (List.mem_cons_self ..)
    constructor
    · simp [PyData.canLayAll0, hx.1, ih.1]
    · simp only [List.map_cons, PyData.depthAll]; have := hx.2; have := ih.2; omega
theorem lay_strsP {ns : List Str} (h : ∀ x ∈ ns, PyData.strOk x = true) : (strsP ns).canLay0 = true ∧ (strsP ns).depth ≤ 1 := by
  have := lay_map (f := PyData.str) (n := 0) (l := ns) fun x hx => ⟨by simp [PyData.canLay0, h x hx], by simp [PyData.depth]⟩
  refine ⟨by simp only [strsP, PyData.canLay0, this.1], ?_⟩
  simp only [strsP, PyData.depth]; omega
theorem lay_tabP (bs : List Bool) : (tabP bs).canLay0 = true ∧ (tabP bs).depth ≤ 1 := by
  have := lay_map (f := PyData.bool) (n := 0) (l := bs) fun x hx => ⟨by simp [PyData.canLay0], by simp [PyData.depth]⟩
  refine ⟨by simp only [tabP, PyData.canLay0, this.1], ?_⟩
  simp only [tabP, PyData.depth]; omega
theorem shaped_circP {d : CircD} (h : CircTx d) : SeqAt.shaped (circP d) = true := by
  have h1 := lay_strsP h.ins
  have h2 := lay_map (f := gateP) (n := 2) (l := d.gates) fun g hg => by
    have a := lay_tabP g.tab
    have b := lay_strsP (h.gates g hg).2
    refine ⟨by simp [gateP, PyData.canLay0, PyData.canLayAll0, a.1, b.1, (h.gates g hg).1], ?_⟩
    simp only [gateP, PyData.depth, PyData.depthAll]; have := a.2; have := b.2; omega
  have h3 := lay_map (f := regP) (n := 2) (l := d.regs) fun r hr => by
    refine ⟨by simp [regP, pairP, PyData.canLay0, PyData.canLayAll0, (h.regs r hr).1, (h.regs r hr).2], ?_⟩
    simp [regP, pairP, PyData.depth, PyData.depthAll]
  have h4 := lay_map (f := outP) (n := 1) (l := d.outs) fun o ho => by
    refine ⟨by simp [outP, PyData.canLay0, PyData.canLayAll0, (h.outs o ho).1, (h.outs o ho).2], ?_⟩
    simp [outP, PyData.depth, PyData.depthAll]
  unfold SeqAt.shaped
  rw [Bool.and_eq_true]
  refine ⟨by simp [circP, PyData.canLay0, PyData.canLayAll0, h1.1, h2.1, h3.1, h4.1], decide_eq_true ?_⟩
  simp only [circP, PyData.depth, PyData.depthAll]
  have := h1.2; have := h2.2; have := h3.2; have := h4.2
  omega
theorem dpAll_all2 {K : PySem.W.Frag} {H : Hp} {R : Addr → β → Prop} {f : β → PyData} (h : ∀ a b, R a b → Dp K H (.ref a) (f b)) : ∀ {as : List Addr} {bs : List β}, All2 R as bs → DpAll K H (as.map V.ref) (bs.map f)
  | [], [], _ => .nil
  | a :: as, b :: bs, z => .cons (h a b (z.2 0 a b rfl rfl)) (dpAll_all2 h ⟨Nat.succ.inj z.1, fun i x y hx hy => z.2 (i + 1) x y hx hy⟩)
  | [], b :: bs, z => nomatch z.1
  | a :: as, [], z => nomatch z.1
theorem dp_strsT {K : PySem.W.Frag} {H : Hp} {a : Addr} {ns : List Str} (h : H a = some (.tup (ns.map V.str))) : Dp K H (.ref a) (strsP ns) := .tup (SqT.of h) (dpAll_map (fun i => .str i) ns)
theorem dp_tabT {K : PySem.W.Frag} {H : Hp} {a : Addr} {bs : List Bool} (h : H a = some (.tup (bs.map V.bl))) : Dp K H (.ref a) (tabP bs) := .tup (SqT.of h) (dpAll_map (fun i => .bl i) bs)
theorem dp_pairT {K : PySem.W.Frag} {H : Hp} {a : Addr} {p : Int × Int} (h : IntsAt H a p) : Dp K H (.ref a) (pairP p) := .tup (SqT.of h) (.cons (.int _) (.cons (.int _) .nil))
theorem dp_regT {K : PySem.W.Frag} {H : Hp} {a : Addr} {r : RegD} (h : RegAt H a r) : Dp K H (.ref a) (regP r) := by
  obtain ⟨ea, oa, h1, h2, h3⟩ := h
  exact .tup (SqT.of h1) (.cons (.str _) (.cons (.str _) (.cons (dp_pairT h2) (.cons (dp_pairT h3) (.cons (.int _) (.cons (.int _) (.cons (.bl _) .nil)))))))
theorem dp_outT {K : PySem.W.Frag} {H : Hp} {a : Addr} {o : Str × Str} (h : OutAt H a o) : Dp K H (.ref a) (outP o) := .tup (SqT.of h) (.cons (.str _) (.cons (.str _) .nil))
/-- a gate without its ranges, at a -/
def CutAt (H : Hp) (a : Addr) (g : GateD) : Prop := ∃ (t pt : Addr), H a = some (.tup [.str g.name, .ref t, .ref pt]) ∧ H t = some (.tup (g.tab.map V.bl)) ∧ H pt = some (.tup (g.pins.map V.str))
theorem dp_cutT {K : PySem.W.Frag} {H : Hp} {a : Addr} {g : GateD} (h : CutAt H a g) : Dp K H (.ref a) (gateP g) := by
  obtain ⟨t, pt, h1, h2, h3⟩ := h
  exact .tup (SqT.of h1) (.cons (.str _) (.cons (dp_tabT h2) (.cons (dp_strsT h3) .nil)))
theorem CutAt.ex {H H' : Hp} {a : Addr} {g : GateD} (e : Ex H H') (h : CutAt H a g) : CutAt H' a g := by
  obtain ⟨t, pt, h1, h2, h3⟩ := h
  exact ⟨t, pt, e _ _ h1, e _ _ h2, e _ _ h3⟩
end G
namespace G
open PySem PySem.Spec PyProof.Rows L2 Evl TL
/-! ## circuits with other ranges -/
def RowAt (H : Hp) (a : Addr) (r : List (Int × Int)) : Prop := ∃ pl : List Addr, (H a = some (.lst (pl.map V.ref)) ∨ H a = some (.tup (pl.map V.ref))) ∧ All2 (IntsAt H) pl r
def withD (gs : List GateD) (R : List (List (Int × Int))) : List GateD := List.zipWith (fun g r => { g with rng := r }) gs R
theorem withD_snoc {gs : List GateD} {R : List (List (Int × Int))} {j : Nat} {g : GateD} {r : List (Int × Int)} (hg : gs[j]? = some g) (hr : R[j]? = some r) : withD (gs.take (j + 1)) (R.take (j + 1)) = withD (gs.take j) (R.take j) ++ [{ g with rng := r }] := by
  have h1 := (List.getElem?_eq_some_iff.mp hg).1
  have h2 := (List.getElem?_eq_some_iff.mp hr).1
  unfold withD
  rw [take_snoc1 hg, take_snoc1 hr, List.zipWith_append (by rw [List.length_take, List.length_take]; omega)]
  rfl
structure TxtA (mg : Str → Option Value) : Prop where
  zip : mg "zip" = none
  tuple : mg "tuple" = none
section
variable {P : Program} {w : World} {K : PySem.W.Frag} {mg : Str → Option Value} {base : Heap}
def spWith : Sp := fun vs H Q _ => ∃ (c l : Addr) (d : CircD) (R : List (List (Int × Int))) (rl : List Addr) (it gt rt ot : Addr) (ga ra oa : List Addr), vs = [.ref c, .ref l] ∧ CircAt H c d it gt rt ot ga ra oa ∧ H l = some (.lst (rl.map V.ref)) ∧ All2 (RowAt H) rl R ∧ R.length = d.gates.length ∧ d.gates.length ≤ 1000 ∧
  ∀ (c' gt' : Addr) (ga' : List Addr) (H' : Hp), Ex H H' → H c' = none → CircAt H' c' { d with gates := withD d.gates R } it gt' rt ot ga' ra oa → Q (.ref c') H'
theorem sc_with_ranges : FnScope ["circuit", "rows", "inputs", "gates", "regs", "outputs", "changed", "row", "name", "table", "nets", "_"] ["circuit", "rows"] (defScope s_with_ranges) := ⟨rfl, rfl, rfl, by decide +kernel, rfl, by decide +kernel, by decide +kernel⟩
theorem ok_with_ranges (D : Dfd K mg "with_ranges" s_with_ranges ["circuit", "rows"]) (T : TxtA mg) : Has P w K mg base 1 "with_ranges" ["circuit", "rows"] spWith := by
  refine D.has fun f fd F => F.ok sc_with_ranges (fun vs H Q E h => ?_) (fun cdv A outer s H vs Q E hr h => ?_)
  · obtain ⟨c, l, d, R, rl, it, gt, rt, ot, ga, ra, oa, rfl, _⟩ := h
    rfl
  · obtain ⟨c, l, d, R, rl, it, gt, rt, ot, ga, ra, oa, rfl, hc, hl, hR, hRl, hn, q⟩ := h
    refine ⟨_, (pss_cons (ps_asg (pv 0) (pg_tup rfl (pgs_cons (pg_name (i := 2) sc_with_ranges.nd rfl (.inl rfl)) (pgs_cons (pg_name (i := 3) sc_with_ranges.nd rfl (.inl rfl)) (pgs_cons (pg_name (i := 4) sc_with_ranges.nd rfl (.inl rfl)) (pgs_cons (pg_name (i := 5) sc_with_ranges.nd rfl (.inl rfl)) pgs_nil))))))
    (pss_cons (ps_setLc (i := 6) (own := [("row", 7), ("name", 8), ("table", 9), ("nets", 10), ("_", 11)]) (g := gTup K 2 (gCons (gTup K 4 (gCons (gName 8) (gCons (gName 9) (gCons (gName 10) (gCons (gName 11) gNil))))) (gCons (gName 7) gNil))) (tt := tYes) rfl sc_with_ranges.nd rfl rfl (sw_true rfl rfl rfl (by decide +kernel)) (pi_zipM true false (by rfl) T.zip (pa_cons (pv 3) (pa_cons (pv 1) pa_nil))) (blkOk_by (N := ["circuit", "rows", "inputs", "gates", "regs", "outputs", "changed", "row", "name", "table", "nets", "_"]) (sc := defScope s_with_ranges) (own := [("row", 7), ("name", 8), ("table", 9), ("nets", 10), ("_", 11)]) (by decide +kernel)) (fun _ _ _ _ _ => (pg_tup rfl (pgs_cons (pg_tup rfl (pgs_cons (pg_name (i := 8) sc_with_ranges.nd rfl (.inl rfl)) (pgs_cons (pg_name (i := 9) sc_with_ranges.nd rfl (.inl rfl)) (pgs_cons (pg_name (i := 10) sc_with_ranges.nd rfl (.inl rfl)) (pgs_cons (pg_name (i := 11) sc_with_ranges.nd rfl (.inl rfl)) pgs_nil))))) (pgs_cons (pg_name (i := 7) sc_with_ranges.nd rfl (.inl rfl)) pgs_nil)))) (fun _ _ _ _ _ => pts_nil) (fun _ _ _ _ _ => (pe_tup (pa_cons (pv 8) (pa_cons (pv 9) (pa_cons (pv 10) (pa_cons (pe_callTy (kTupOf (K := K) rfl) (by rfl) T.tuple (by decide +kernel) (pa_cons (pv 7) pa_nil)) pa_nil)))))))
    (pss_one (ps_ret (pe_tup (pa_cons (pv 2) (pa_cons (pe_callTy call_tuple_of (by rfl) T.tuple (by decide +kernel) (pa_cons (pv 6) pa_nil)) (pa_cons (pv 4) (pa_cons (pv 5) pa_nil))))))))), ?_⟩
    refine ⟨_, rfl, c, _, rfl, SqT.of hc.top, rfl, _, _, rfl, _, _, rfl, _, _, rfl, _, _, rfl, rfl, ?_⟩
    have hgl := hc.gates.1
    refine ⟨_, rfl, _, rfl, gt, l, ga.map V.ref, rl.map V.ref, rfl, SqT.of hc.gts, SqL.of hl, fun L nL => wk_it (walk_zipM (n := d.gates.length) (by rw [List.length_map]; exact hgl) (by rw [List.length_map, hR.1, hRl]))
      (fun j H' => Ex H H' ∧ ∃ as : List Addr, H' L = some (.lst (as.map V.ref)) ∧ All2 (GateAt (hid L H')) as (withD (d.gates.take j) (R.take j))) ⟨Ex.new nL, [], upd_same, by rw [List.take_zero, List.take_zero]; exact .nil⟩ (fun j H' _ g => ⟨SqT.of (g.1 _ _ hc.gts), SqL.of (g.1 _ _ hl)⟩) ?_ ?_⟩
    · rintro j x H3 H4 hj ⟨E3, as, hL, hA⟩ ⟨T1, x0, y0, rfl, nT, rfl, hx, hy⟩
      obtain ⟨b, hb, rfl⟩ := refs_get hx
      obtain ⟨p, hp, rfl⟩ := refs_get hy
      obtain ⟨g, hg, t, pt, rgt, rga, hg1, hg2, hg3, hg4, hg5⟩ := hc.gates.at_ hb
      obtain ⟨r, hr, pl, hp1, hp2⟩ := hR.at_ hp
      have E4 : Ex H3 (upd H3 T1 (.tup [.ref b, .ref p])) := Ex.new nT
      have e34 := E3.trans E4
      refine ⟨T1, _, rfl, SqT.of upd_same, rfl, _, _, rfl, b, _, rfl, SqT.of (e34 _ _ hg1), rfl, _, _, rfl, _, _, rfl, _, _, rfl, _, _, rfl, rfl, _, _, rfl, rfl, (by rw [wipe_set (by decide), wipe_set (by decide), wipe_set (by decide), wipe_set (by decide), wipe_set (by decide), wipe_wipe]), tYes_in ?_⟩
      generalize upd H3 T1 (.tup [.ref b, .ref p]) = H4 at *
      simp only [wipe, _root_.L2.start, List.map_cons, List.map_nil, List.length_cons, List.length_nil, Nat.reduceAdd, Nat.reduceSub, List.replicate_succ, List.replicate_zero, List.cons_append, List.nil_append, List.set_cons_zero, List.set_cons_succ]
      have nLH3 : ∀ {c : Addr}, H4 c = none → L ≠ c := fun {c} z => ne_of_none (E4 _ _ hL) z
      have fin : ∀ (rt' : Addr) (H5 : Hp), Ex H4 H5 → H5 rt' = some (.tup (pl.map V.ref)) → ∀ c, H5 c = none → ∃ acc, upd H5 c (.tup [.str g.name, .ref t, .ref pt, .ref rt']) L = some (.lst acc) ∧ acc.length < sizeLine ∧
          Ex H (upd (upd H5 c (.tup [.str g.name, .ref t, .ref pt, .ref rt'])) L (.lst (acc ++ [.ref c]))) ∧ ∃ as : List Addr, upd (upd H5 c (.tup [.str g.name, .ref t, .ref pt, .ref rt'])) L (.lst (acc ++ [.ref c])) L = some (.lst (as.map V.ref)) ∧ All2 (GateAt (hid L (upd (upd H5 c (.tup [.str g.name, .ref t, .ref pt, .ref rt'])) L (.lst (acc ++ [.ref c]))))) as (withD (d.gates.take (j + 1)) (R.take (j + 1))) := fun rt' H5 E5 hrt c nc => by
        have E6 : Ex H5 (upd H5 c (.tup [.str g.name, .ref t, .ref pt, .ref rt'])) := Ex.new nc
        have e46 := E5.trans E6
        have hc6 : upd H5 c (.tup [.str g.name, .ref t, .ref pt, .ref rt']) c = some (.tup [.str g.name, .ref t, .ref pt, .ref rt']) := upd_same
        have nLc : L ≠ c := ne_of_none ((E4.trans E5) _ _ hL) nc
        have hrt6 := E6 _ _ hrt
        generalize upd H5 c (.tup [.str g.name, .ref t, .ref pt, .ref rt']) = H6 at *
        have hL6 := (E4.trans e46) _ _ hL
        have e06 := e34.trans e46
        have tl : ∀ {q : Addr} {xs : List V}, H6 q = some (.tup xs) → hid L H6 q = some (.tup xs) := fun {q xs} z => by rw [hid_ne (ne_of z hL6 (by intro y; cases y))]; exact z
        refine ⟨_, hL6, sz_lt (by rw [List.length_map, hA.1]; unfold withD; rw [List.length_zipWith, List.length_take, List.length_take]; omega), e06.mut nL, as ++ [c], by rw [upd_same, List.map_append]; rfl, ?_⟩
        rw [hid_upd, withD_snoc hg hr]
        refine (hA.imp fun _ _ z => z.te fun q xs hq => ?_).snoc ⟨t, pt, rt', pl, tl hc6, tl (e06 _ _ hg2), tl (e06 _ _ hg3), tl hrt6, hp2.imp fun _ _ z => tl (e06 _ _ z)⟩
        exact tl ((E4.trans e46) _ _ (hid_get hq))
      refine ⟨_, rfl, _, rfl, _, rfl, _, rfl, p, pl.map V.ref, rfl, ?_⟩
      rcases hp1 with h1 | h1
      · refine .inl ⟨SqL.of (e34 _ _ h1), fun rt' nrt => ⟨(by show 4 ≤ sizeLine; decide), fun c nc => ?_⟩⟩
        exact fin rt' _ (Ex.new nrt) upd_same c nc
      · exact .inr ⟨SqT.of (e34 _ _ h1), (by show 4 ≤ sizeLine; decide), fun c nc => fin p H4 (.refl _) (e34 _ _ h1) c nc⟩
    · rintro H3 ⟨E3, as, hL, hA⟩
      rw [List.take_length, show R.take d.gates.length = R by rw [← hRl, List.take_length]] at hA
      refine ⟨_, rfl, _, rfl, L, _, rfl, .inl ⟨SqL.of hL, fun gt' ngt => ?_⟩⟩
      have E4 : Ex H3 (upd H3 gt' (.tup (as.map V.ref))) := Ex.new ngt
      have hg4 : upd H3 gt' (.tup (as.map V.ref)) gt' = some (.tup (as.map V.ref)) := upd_same
      generalize upd H3 gt' (.tup (as.map V.ref)) = H4 at *
      refine ⟨_, rfl, _, rfl, (by show 4 ≤ sizeLine; decide), fun c' nc => ?_⟩
      have E5 : Ex H4 (upd H4 c' (.tup [.ref it, .ref gt', .ref rt, .ref ot])) := Ex.new nc
      have e35 := E4.trans E5
      have e05 := E3.trans e35
      have hcx := hc.te (.of e05)
      exact q c' gt' as _ e05 (fresh_back (E3.trans E4) nc) ⟨upd_same, hcx.ins, E5 _ _ hg4, hcx.rgs, hcx.ots, hA.imp fun _ _ z => z.te (.of (hid_ex.trans e35)), hcx.regs, hcx.outs⟩
end
end G
namespace G
open PySem PySem.Spec PyProof.Rows L2 Evl TL
/-! ## what a drawn circuit is -/
theorem nm_tx : ∀ c ∈ (["i", "r", "g", "p"] : List Str), ∀ k, k < 20 → PyData.strOk (nm c k) = true := by decide +kernel
theorem nms_tx {c : Str} {n : Nat} {x : Str} (hc : c ∈ (["i", "r", "g", "p"] : List Str)) (hn : n ≤ 20) (h : x ∈ (List.range n).map (nm c)) : PyData.strOk x = true := by
  obtain ⟨k, hk, rfl⟩ := List.mem_map.mp h
  exact nm_tx c hc k (by have := List.mem_range.mp hk; omega)
section
variable {most : Nat} {d : CircD} {Gs : List GateD}
theorem CircWf.net_tx (W : CircWf most d Gs) (hm : most ≤ 15) {k : Nat} (hk : k ≤ Gs.length) {x : Str} (h : x ∈ d.ins ++ d.regs.map (·.name) ++ (List.range k).map (nm "g")) : PyData.strOk x = true := by
  have := W.few
  rcases List.mem_append.mp h with z | z
  · rcases List.mem_append.mp z with z | z
    · obtain ⟨n, _, h2, e⟩ := W.ins
      rw [e] at z
      exact nms_tx nmi_str (by omega) z
    · obtain ⟨n, h2, e⟩ := W.regs
      rw [e] at z
      exact nms_tx nmr_str (by omega) z
  · exact nms_tx nmg_str (by omega) z
theorem CircWf.gate (W : CircWf most d Gs) {g : GateD} (h : g ∈ d.gates) : ∃ k, k < Gs.length ∧ GateWf (d.ins ++ d.regs.map (·.name) ++ (List.range k).map (nm "g")) k g := by
  obtain ⟨k, hk, e⟩ := List.getElem_of_mem (W.perm.mem_iff.mp h)
  exact ⟨k, hk, W.gates k g (List.getElem?_eq_some_iff.mpr ⟨hk, e⟩)⟩
theorem CircWf.tx (W : CircWf most d Gs) (hm : most ≤ 15) : CircTx d := by
  refine ⟨fun x hx => ?_, fun g hg => ?_, fun r hr => ⟨?_, ?_⟩, fun o ho => ⟨?_, ?_⟩⟩
  · exact W.net_tx hm (Nat.le_refl _) (List.mem_append.mpr (.inl (List.mem_append.mpr (.inl hx))))
  · obtain ⟨k, hk, w⟩ := W.gate hg
    have := W.few
    exact ⟨by rw [w.name]; exact nm_tx _ nmg_str k (by omega), fun x hx => W.net_tx hm (by omega) (w.pins x hx)⟩
  · exact W.net_tx hm (Nat.le_refl _) (List.mem_append.mpr (.inl (List.mem_append.mpr (.inr (List.mem_map.mpr ⟨r, hr, rfl⟩)))))
  · exact W.net_tx hm (Nat.le_refl _) (W.rwf r hr).2
  · obtain ⟨n, hn, e⟩ := W.outs
    have : o.1 ∈ d.outs.map (·.1) := List.mem_map.mpr ⟨o, ho, rfl⟩
    rw [e] at this
    exact nms_tx nmp_str (by omega) this
  · exact W.net_tx hm (Nat.le_refl _) (W.onet o ho)
theorem CircWf.glen (W : CircWf most d Gs) : d.gates.length ≤ most := by rw [W.perm.length_eq]; exact W.few
structure GateSm (g : GateD) : Prop where
  few : g.pins.length ≤ 3
  tab : g.tab.length = 2 ^ g.pins.length
  many : g.rng.length = g.pins.length
  rng : ∀ r ∈ g.rng, 0 ≤ r.1 ∧ r.1 ≤ 4 ∧ r.1 + 2 ≤ r.2 ∧ r.2 ≤ r.1 + 6
theorem CircWf.gsm (W : CircWf most d Gs) {g : GateD} (h : g ∈ d.gates) : GateSm g := by
  obtain ⟨k, _, w⟩ := W.gate h
  exact ⟨w.few, w.tab, w.many, w.rng⟩
theorem CircWf.rlen (W : CircWf most d Gs) : d.regs.length ≤ 3 := by
  obtain ⟨n, hn, e⟩ := W.regs
  have := congrArg List.length e
  rw [List.length_map, List.length_map, List.length_range] at this
  omega
theorem CircWf.ilen (W : CircWf most d Gs) : d.ins.length ≤ 3 := by
  obtain ⟨n, _, hn, e⟩ := W.ins
  rw [e, List.length_map, List.length_range]; exact hn
theorem CircWf.olen (W : CircWf most d Gs) : d.outs.length ≤ 3 := by
  obtain ⟨n, hn, e⟩ := W.outs
  have := congrArg List.length e
  rw [List.length_map, List.length_map, List.length_range] at this
  omega
end
/-! ## a circuit as data for _law_same -/
def strsD (l : List Str) : D := .tup (l.map .str)
def pairD (p : Int × Int) : D := .tup [.int p.1, .int p.2]
def gateD (g : GateD) : D := .tup [.str g.name, .tup (g.tab.map .bl), strsD g.pins, .tup (g.rng.map pairD)]
def regD (r : RegD) : D := .tup [.str r.name, .str r.net, pairD r.edge, pairD r.out, .int r.setup, .int r.hold, .bl r.start]
def outD (o : Str × Str) : D := .tup [.str o.1, .str o.2]
def circD (d : CircD) : D := .tup [strsD d.ins, .tup (d.gates.map gateD), .tup (d.regs.map regD), .tup (d.outs.map outD)]
section
variable {H : Hp}
theorem rep_fix {a : Addr} {xs : List V} {ds : List D} (h : H a = some (.tup xs)) (z : All2 (Rep H) xs ds) : Rep H (.ref a) (.tup ds) := .tup h z.1 z.2
theorem rep_all2 {β : Type} {R : Addr → β → Prop} {f : β → D} {a : Addr} {as : List Addr} {bs : List β} (h : H a = some (.tup (as.map V.ref))) (z : All2 R as bs) (r : ∀ a b, R a b → Rep H (.ref a) (f b)) : Rep H (.ref a) (.tup (bs.map f)) := by
  refine .tup h (by rw [List.length_map, List.length_map]; exact z.1) fun i x d hx hd => ?_
  obtain ⟨b, hb, rfl⟩ := refs_get hx
  rw [List.getElem?_map] at hd
  cases e : bs[i]? with
  | none => rw [e] at hd; cases hd
  | some y => rw [e] at hd; cases hd; exact r b y (z.2 i b y hb e)
theorem rep_strsT {a : Addr} {l : List Str} (h : H a = some (.tup (l.map V.str))) : Rep H (.ref a) (strsD l) :=
  let r := rep_map (H := H) (f := V.str) (g := D.str) (l := l) fun i => .str i
  .tup h r.1 r.2
theorem rep_pair {a : Addr} {p : Int × Int} (h : IntsAt H a p) : Rep H (.ref a) (pairD p) := rep_fix h (.cons (.int _) (.cons (.int _) .nil))
theorem rep_gate {a : Addr} {g : GateD} (h : GateAt H a g) : Rep H (.ref a) (gateD g) := by
  obtain ⟨t, pt, rt, ra, h1, h2, h3, h4, h5⟩ := h
  exact rep_fix h1 (.cons (.str _) (.cons (rep_bls h2) (.cons (rep_strsT h3) (.cons (rep_all2 h4 h5 fun _ _ z => rep_pair z) .nil))))
theorem rep_reg {a : Addr} {r : RegD} (h : RegAt H a r) : Rep H (.ref a) (regD r) := by
  obtain ⟨ea, oa, h1, h2, h3⟩ := h
  exact rep_fix h1 (.cons (.str _) (.cons (.str _) (.cons (rep_pair h2) (.cons (rep_pair h3) (.cons (.int _) (.cons (.int _) (.cons (.bl _) .nil)))))))
theorem rep_circ {c it gt rt ot : Addr} {ga ra oa : List Addr} {d : CircD} (h : CircAt H c d it gt rt ot ga ra oa) : Rep H (.ref c) (circD d) :=
  rep_fix h.top (.cons (rep_strsT h.ins) (.cons (rep_all2 h.gts h.gates fun _ _ z => rep_gate z) (.cons (rep_all2 h.rgs h.regs fun _ _ z => rep_reg z) (.cons (rep_all2 h.ots h.outs fun _ _ z => rep_fix z (.cons (.str _) (.cons (.str _) .nil))) .nil))))
end
theorem okD_tup {n : Nat} {l : List D} (hl : l.length < 2 ^ 61) (h : ∀ x ∈ l, okD n x) : okD (n + 1) (.tup l) := ⟨hl, h⟩
theorem okD_map {α : Type} {n : Nat} {l : List α} {f : α → D} (hl : l.length < 2 ^ 61) (h : ∀ x ∈ l, okD n (f x)) : okD (n + 1) (.tup (l.map f)) :=
  ⟨by rw [List.length_map]; exact hl, fun d hd => by obtain ⟨x, hx, rfl⟩ := List.mem_map.mp hd; exact h x hx⟩
theorem ok_fix2 {n : Nat} {a b : D} (h1 : okD n a) (h2 : okD n b) : okD (n + 1) (.tup [a, b]) := okD_tup (by show 2 < _; decide) fun x hx => by
  rcases List.mem_cons.mp hx with rfl | hx
  · exact h1
  · rw [List.mem_singleton.mp hx]; exact h2
theorem ok_int {n : Nat} (i : Int) : okD n (.int i) := by cases n <;> trivial
theorem ok_str {n : Nat} (i : Str) : okD n (.str i) := by cases n <;> trivial
theorem ok_bl {n : Nat} (i : Bool) : okD n (.bl i) := by cases n <;> trivial
theorem ok_pairD (p : Int × Int) : okD 1 (pairD p) := ok_fix2 (ok_int _) (ok_int _)
/-- few enough items everywhere -/
structure CircFew (d : CircD) : Prop where
  ins : d.ins.length ≤ 1000
  gates : d.gates.length ≤ 1000
  gate : ∀ g ∈ d.gates, g.tab.length ≤ 1000 ∧ g.pins.length ≤ 1000 ∧ g.rng.length ≤ 1000
  regs : d.regs.length ≤ 1000
  outs : d.outs.length ≤ 1000
theorem ok_circD {d : CircD} (h : CircFew d) : okD 5 (circD d) := by
  have big : ∀ {n : Nat}, n ≤ 1000 → n < 2 ^ 61 := fun h => by omega
  refine okD_tup (by show 4 < _; decide) fun x hx => ?_
  simp only [List.mem_cons, List.not_mem_nil, or_false] at hx
  rcases hx with rfl | rfl | rfl | rfl
  · exact okD.mono (n := 1) (by decide) (okD_map (big h.ins) fun _ _ => ok_str _)
  · refine okD_map (big h.gates) fun g hg => ?_
    obtain ⟨h1, h2, h3⟩ := h.gate g hg
    refine okD_tup (by show 4 < _; decide) fun x hx => ?_
    simp only [List.mem_cons, List.not_mem_nil, or_false] at hx
    rcases hx with rfl | rfl | rfl | rfl
    · exact ok_str _
    · exact okD.mono (n := 1) (by decide) (okD_map (big h1) fun _ _ => ok_bl _)
    · exact okD.mono (n := 1) (by decide) (okD_map (big h2) fun _ _ => ok_str _)
    · exact okD_map (big h3) fun _ _ => ok_pairD _
  · refine okD.mono (n := 3) (by decide) (okD_map (big h.regs) fun r hr => okD_tup (by show 7 < _; decide) fun x hx => ?_)
    simp only [List.mem_cons, List.not_mem_nil, or_false] at hx
    rcases hx with rfl | rfl | rfl | rfl | rfl | rfl | rfl
    · exact ok_str _
    · exact ok_str _
    · exact ok_pairD _
    · exact ok_pairD _
    · exact ok_int _
    · exact ok_int _
    · exact ok_bl _
  · exact okD.mono (n := 2) (by decide) (okD_map (big h.outs) fun o ho => ok_fix2 (ok_str _) (ok_str _))
theorem CircWf.circFew {most : Nat} {d : CircD} {Gs : List GateD} (W : CircWf most d Gs) (hm : most ≤ 15) : CircFew d := by
  have := W.glen
  have := W.rlen
  have := W.ilen
  have := W.olen
  refine ⟨by omega, by omega, fun g hg => ?_, by omega, by omega⟩
  have w := W.gsm hg
  have h1 := w.few
  have h2 : 2 ^ g.pins.length ≤ 64 := pow_le64 (by omega)
  have h3 := w.tab
  have h4 := w.many
  omega
end G
namespace G
open PySem PySem.Spec PyProof.Rows L2 Evl TL
/-! ## sizes of gates -/
abbrev SizeD := Int × List (Int × Int)
def SzAt (H : Hp) (a : Addr) (s : SizeD) : Prop := ∃ (rt : Addr) (rl : List Addr), H a = some (.tup [.int s.1, .ref rt]) ∧ H rt = some (.tup (rl.map V.ref)) ∧ All2 (IntsAt H) rl s.2
def LsAt (H : Hp) (l : Addr) (rows : List SizeD) : Prop := ∃ as : List Addr, H l = some (.lst (as.map V.ref)) ∧ All2 (SzAt H) as rows
def SizesAt (H : Hp) (l : Addr) (S : List (List SizeD)) : Prop := ∃ ls : List Addr, H l = some (.lst (ls.map V.ref)) ∧ All2 (LsAt H) ls S
theorem SzAt.ex {H H' : Hp} {a : Addr} {s : SizeD} (e : Ex H H') (h : SzAt H a s) : SzAt H' a s := by
  obtain ⟨rt, rl, h1, h2, h3⟩ := h
  exact ⟨rt, rl, e _ _ h1, e _ _ h2, h3.imp fun _ _ z => e _ _ z⟩
theorem LsAt.ex {H H' : Hp} {a : Addr} {s : List SizeD} (e : Ex H H') (h : LsAt H a s) : LsAt H' a s := by
  obtain ⟨as, h1, h2⟩ := h
  exact ⟨as, e _ _ h1, h2.imp fun _ _ z => z.ex e⟩
theorem SizesAt.ex {H H' : Hp} {a : Addr} {s : List (List SizeD)} (e : Ex H H') (h : SizesAt H a s) : SizesAt H' a s := by
  obtain ⟨as, h1, h2⟩ := h
  exact ⟨as, e _ _ h1, h2.imp fun _ _ z => z.ex e⟩
/-- few enough -/
structure SzFew (S : List (List SizeD)) : Prop where
  n : S.length ≤ 50
  r : ∀ rows ∈ S, rows.length ≤ 100 ∧ ∀ s ∈ rows, s.2.length ≤ 1000
def okR (r : Int × Int) : Prop := 0 ≤ r.1 ∧ r.1 + 2 ≤ r.2
def rowOk (m : Nat) (rows : List SizeD) : Prop := rows ≠ [] ∧ ∀ s ∈ rows, s.2.length = m
def Cnt0 (gs : List GateD) (S : List (List SizeD)) : Prop := S.length = gs.length ∧ ∀ (k : Nat) (g : GateD) (rows : List SizeD), gs[k]? = some g → S[k]? = some rows → rowOk g.pins.length rows
def Cst0 (S : List (List SizeD)) : Prop := ∀ rows ∈ S, ∀ s ∈ rows, 0 ≤ s.1
def Idx (S : List (List SizeD)) (ch : List Int) : Prop := ∀ (k : Nat) (rows : List SizeD) (i : Int), S[k]? = some rows → ch[k]? = some i → 0 ≤ i ∧ i < rows.length
def Rng (S : List (List SizeD)) : Prop := ∀ rows ∈ S, ∀ s ∈ rows, ∀ r ∈ s.2, okR r
theorem fs3 {a b n : Str} (ha : a.length ≤ 100) (hb : b.length ≤ 100) (hn : n.length ≤ 1000) : (Str.empty ++ a).length ≤ sizeLine ∧ ((Str.empty ++ a) ++ n).length ≤ sizeLine ∧ (((Str.empty ++ a) ++ n) ++ b).length ≤ sizeLine := by
  have e : ∀ x y : Str, (x ++ y).length = x.length + y.length := fun x y => by rw [len_tl, tl_append, List.length_append, ← len_tl, ← len_tl]
  have e0 : Str.empty.length = 0 := rfl
  refine ⟨sz_of ?_, sz_of ?_, sz_of ?_⟩
  · rw [e, e0]; omega
  · rw [e, e, e0]; omega
  · rw [e, e, e, e0]; omega
structure TxtZ (mg : Str → Option Value) : Prop where
  len : mg "len" = none
  any : mg "any" = none
  zip : mg "zip" = none
  sum : mg "sum" = none
section
variable {P : Program} {w : World} {K : PySem.W.Frag} {mg : Str → Option Value} {base : Heap}
def spPin (R : Addr) : Sp := fun vs H Q E => ∃ (a : Addr) (r : Int × Int), vs = [.ref a] ∧ IntsAt H a r ∧ (okR r → Q .non H) ∧ (¬ okR r → ∀ H', Ex H H' → E (.ref R) none H')
theorem sc_check_pin_range : FnScope ["pair", "low", "high"] ["pair"] (defScope s_check_pin_range) := ⟨rfl, rfl, rfl, by decide +kernel, rfl, by decide +kernel, by decide +kernel⟩
theorem ok_check_pin_range {R : Addr} (D : Dfd K mg "check_pin_range" s_check_pin_range ["pair"]) (UR : ExcT K mg "BadRange" R) (g : ∃ t, mg "LEAST_SPREAD" = some (.int 2 t)) : HasX P w K mg base 1 "check_pin_range" ["pair"] (spPin R) := by
  obtain ⟨t, g_LEAST_SPREAD⟩ := g
  obtain ⟨f, fd, F, gf, bf⟩ := D
  refine ⟨f, fd, F.okX sc_check_pin_range (fun vs H Q E h => ?_) (fun cdv A outer s H vs Q E hr h => ?_), gf, F.kp, bf⟩
  · obtain ⟨a, r, rfl, _⟩ := h
    rfl
  · obtain ⟨a, r, rfl, ha, q1, q2⟩ := h
    refine ⟨_, (pss_cons (ps_asg (pv 0) (pg_tup rfl (pgs_cons (pg_name (i := 1) sc_check_pin_range.nd rfl (.inl rfl)) (pgs_cons (pg_name (i := 2) sc_check_pin_range.nd rfl (.inl rfl)) pgs_nil))))
    (pss_one (ps_if (PW.pt (pw_or (pt_cmpR op_lt (pv 1) pe_int (nomark _)) (pw_or1 (pt_cmpR op_gt (pe_op op_add (pv 1) (gInt rfl g_LEAST_SPREAD)) (pv 2) (nomark _)))))
      (pss_one (ps_raise rfl (takes_of rfl rfl rfl rfl) (pmk_ownA PySem.F.excBase_ValueError UR.xP UR.gC UR.kC (raises_own UR.bC UR.tC) rfl (pa_cons pe_str pa_nil))))
      pss_nil))), ?_⟩
    refine ⟨_, rfl, a, _, rfl, SqT.of ha, rfl, _, _, rfl, _, _, rfl, rfl, ?_⟩
    simp only [wipe, _root_.L2.start, List.map_cons, List.map_nil, List.length_cons, List.length_nil, Nat.reduceAdd, Nat.reduceSub, List.replicate_succ, List.replicate_zero, List.cons_append, List.nil_append, List.set_cons_zero, List.set_cons_succ]
    refine ⟨_, rfl, _, _, rfl, rfl, _, rfl, ite2 (fun c => ?_) (fun c => ?_)⟩
    · refine iteT ⟨(by show 1 ≤ sizeLine; decide), q2 (fun z => ?_) H (Ex.refl _)⟩
      have := of_decide_eq_true c; have := z.1; omega
    · refine ⟨_, rfl, _, _, rfl, rfl, _, rfl, _, _, rfl, rfl, _, rfl, ite2 (fun c2 => ?_) (fun c2 => ?_)⟩
      · refine ⟨(by show 1 ≤ sizeLine; decide), q2 (fun z => ?_) H (Ex.refl _)⟩
        have := of_decide_eq_true c2; have := z.2; omega
      · refine q1 ⟨?_, ?_⟩
        · have : ¬ r.1 < 0 := fun z => c (decide_eq_true z)
          omega
        · have : ¬ r.1 + 2 > r.2 := fun z => c2 (decide_eq_true z)
          omega
def spCnts (Wc : Addr) : Sp := fun vs H Q E => ∃ (c sl : Addr) (d : CircD) (S : List (List SizeD)) (it gt rt ot : Addr) (ga ra oa : List Addr), vs = [.ref c, .ref sl] ∧ CircAt H c d it gt rt ot ga ra oa ∧ SizesAt H sl S ∧ SzFew S ∧ (∀ g ∈ d.gates, g.name.length ≤ 1000) ∧
  (Cnt0 d.gates S → ∀ H', Ex H H' → Q .non H') ∧ (¬ Cnt0 d.gates S → ∀ H', Ex H H' → E (.ref Wc) none H')
theorem sc_check_counts : FnScope ["circuit", "sizes", "gates", "gate", "rows", "_", "ranges"] ["circuit", "sizes"] (defScope s_check_counts) := ⟨rfl, rfl, rfl, by decide +kernel, rfl, by decide +kernel, by decide +kernel⟩
theorem ok_check_counts {Wc : Addr} (D : Dfd K mg "_check_counts" s_check_counts ["circuit", "sizes"]) (UW : ExcT K mg "WrongCount" Wc) (T : TxtZ mg) : HasX P w K mg base 1 "_check_counts" ["circuit", "sizes"] (spCnts Wc) := by
  obtain ⟨f, fd, F, gf, bf⟩ := D
  refine ⟨f, fd, F.okX sc_check_counts (fun vs H Q E h => ?_) (fun cdv A outer s H vs Q E hr h => ?_), gf, F.kp, bf⟩
  · obtain ⟨c, sl, d, S, it, gt, rt, ot, ga, ra, oa, rfl, _⟩ := h
    rfl
  · obtain ⟨c, sl, d, S, it, gt, rt, ot, ga, ra, oa, rfl, hc, hS, few, hnm, q1, q2⟩ := h
    obtain ⟨ls, hsl, hls⟩ := hS
    refine ⟨_, (pss_cons (ps_set (i := 2) sc_check_counts.nd rfl (.inl rfl) (pe_ix ix_tup (pv 0) pe_int (fun _ _ => rfl)))
    (pss_cons (ps_if (pt_cmpR op_ne (pe_callB call_len_seq (by rfl) T.len (by decide +kernel) (pa_cons (pv 1) pa_nil)) (pe_callB call_len_seq (by rfl) T.len (by decide +kernel) (pa_cons (pv 2) pa_nil)) (nomark _))
      (pss_one (ps_raise rfl (takes_of rfl rfl rfl rfl) (pmk_ownA PySem.F.excBase_ValueError UW.xP UW.gC UW.kC (raises_own UW.bC UW.tC) rfl (pa_cons pe_str pa_nil))))
      pss_nil)
    (pss_one (ps_for (passes_of rfl) rfl (pi_zipM true false (by rfl) T.zip (pa_cons (pv 2) (pa_cons (pv 1) pa_nil))) (pg_tup rfl (pgs_cons (pg_name (i := 3) sc_check_counts.nd rfl (.inr rfl)) (pgs_cons (pg_name (i := 4) sc_check_counts.nd rfl (.inl rfl)) pgs_nil)))
      (pss_one (ps_if (PW.pt (pw_or (pt_cmpR op_eq (pe_callB call_len_seq (by rfl) T.len (by decide +kernel) (pa_cons (pv 4) pa_nil)) pe_int (nomark _)) (pw_or1 (pt_val (pe_callB (cr_any rfl) (by rfl) T.any (by decide +kernel) (pa_cons (pe_lc (own := [("_", 5), ("ranges", 6)]) (g := gTup K 2 (gCons (gName 5) (gCons (gName 6) gNil))) (tt := tYes) rfl sc_check_counts.nd (pi_list (pv 4)) (blkOk_by (N := ["circuit", "sizes", "gates", "gate", "rows", "_", "ranges"]) (sc := defScope s_check_counts) (own := [("_", 5), ("ranges", 6)]) (by decide +kernel)) (fun _ _ _ _ _ => (pg_tup rfl (pgs_cons (pg_name (i := 5) sc_check_counts.nd rfl (.inl rfl)) (pgs_cons (pg_name (i := 6) sc_check_counts.nd rfl (.inl rfl)) pgs_nil)))) (fun _ _ _ _ _ => pts_nil) (fun _ _ _ _ _ => (pe_cmpR op_ne (pe_callB (kLen (K := K) rfl) (by rfl) T.len (by decide +kernel) (pa_cons (pv 6) pa_nil)) (pe_callB (kLen (K := K) rfl) (by rfl) T.len (by decide +kernel) (pa_cons (pe_ix (kIxT (K := K) rfl) (pv 3) pe_int (fun _ _ => rfl)) pa_nil)) (nomark _)))) pa_nil))))))
        (pss_one (ps_raise rfl (takes_of rfl rfl rfl rfl) (pmk_ownA PySem.F.excBase_ValueError UW.xP UW.gC UW.kC (raises_own UW.bC UW.tC) rfl (pa_cons (pe_joined (.cons pe_str (.cons (pe_fmt (pe_ix ix_tup (pv 3) pe_int (fun _ _ => rfl))) (.cons pe_str .nil)))) pa_nil))))
        pss_nil)))))), ?_⟩
    have hgl := hc.gates.1
    have hll := hls.1
    refine ⟨_, rfl, _, _, _, _, rfl, rfl, SqT.of hc.top, atI_nat (j := 1) rfl, _, rfl, _, _, rfl, .inl (SqL.of hsl), _, rfl, _, _, rfl, .inr (SqT.of hc.gts), rfl, _, rfl, ?_⟩
    rw [List.length_map, List.length_map, hll, hgl]
    cases hb : (!decide (V.int (S.length : Int) = V.int (d.gates.length : Int))) with
    | true =>
      refine iteT ⟨(by show 1 ≤ sizeLine; decide), q2 (fun z => ?_) H (Ex.refl _)⟩
      rw [Bool.not_eq_true', decide_eq_false_iff_not] at hb
      exact hb (by rw [z.1])
    | false =>
      have hlen : S.length = d.gates.length := by
        rw [Bool.not_eq_false', decide_eq_true_iff, V.int.injEq] at hb; omega
      refine iteF ⟨_, rfl, _, rfl, gt, sl, ga.map V.ref, ls.map V.ref, rfl, SqT.of hc.gts, SqL.of hsl, for_it (walk_zipM (n := d.gates.length) (by rw [List.length_map, hgl]) (by rw [List.length_map, hll, hlen]))
        (fun i σ H' => Ex H H' ∧ (∀ (k : Nat) (g : GateD) (rows : List SizeD), k < i → d.gates[k]? = some g → S[k]? = some rows → rowOk g.pins.length rows) ∧ ∃ x3 x4 : Option V, σ = [some (.ref c), some (.ref sl), some (.ref gt), x3, x4, none, none])
        ⟨.refl _, (fun k _ _ h => absurd h (Nat.not_lt_zero _)), _, _, rfl⟩ (fun i σ H' _ g => ⟨SqT.of (g.1 _ _ hc.gts), SqL.of (g.1 _ _ hsl)⟩) ?_ ?_⟩
      · rintro i x σ H2 H3 hi ⟨E2, ok, x3, x4, rfl⟩ ⟨T1, x0, y0, rfl, nT, rfl, hx, hy⟩
        obtain ⟨b, hb, rfl⟩ := refs_get hx
        obtain ⟨l, hl, rfl⟩ := refs_get hy
        obtain ⟨g, hg, t, pt, rgt, rga, a1, a2, a3, a4, a5⟩ := hc.gates.at_ hb
        obtain ⟨rows, hrows, as, b1, b2⟩ := hls.at_ hl
        have E3 : Ex H2 (upd H2 T1 (.tup [.ref b, .ref l])) := Ex.new nT
        refine ⟨T1, _, rfl, SqT.of upd_same, rfl, _, _, rfl, _, _, rfl, rfl, ?_⟩
        generalize upd H2 T1 (.tup [.ref b, .ref l]) = H3 at *
        have e03 := E2.trans E3
        simp only [wipe, _root_.L2.start, List.map_cons, List.map_nil, List.length_cons, List.length_nil, Nat.reduceAdd, Nat.reduceSub, List.replicate_succ, List.replicate_zero, List.cons_append, List.nil_append, List.set_cons_zero, List.set_cons_succ]
        have hfr := (few.r rows (List.mem_of_getElem? hrows)).1
        have stop : ¬ rowOk g.pins.length rows → ¬ Cnt0 d.gates S := fun z y => z (y.2 i g rows hg hrows)
        have nmS := hnm g (List.mem_of_getElem? hg)
        have raise : ∀ H4, Ex H H4 → ¬ rowOk g.pins.length rows → E (.ref Wc) none H4 := fun H4 E4 z => q2 (stop z) H4 E4
        have e0 : rows.length = as.length := b2.1.symm
        obtain ⟨z1, z2, z3⟩ := fs3 (a := "gate ") (b := " has no size, or a size has not one range for each pin") (n := g.name) (by decide +kernel) (by decide +kernel) nmS
        refine ⟨_, rfl, _, _, rfl, .inl (SqL.of (e03 _ _ b1)), rfl, _, rfl, ite2 (fun c1 => ?_) (fun c1 => ?_)⟩
        · have hnil : rows = [] := by
            have h := of_decide_eq_true c1
            rw [List.length_map, V.int.injEq] at h
            exact List.length_eq_zero_iff.mp (by rw [e0]; omega)
          exact iteT ⟨_, rfl, z1, _, rfl, _, _, _, _, rfl, rfl, SqT.of (e03 _ _ a1), atI_nat (j := 0) rfl, .inl ⟨g.name, rfl, sz_of (by omega), _, rfl, z2, _, rfl, z3, (by show 1 ≤ sizeLine; decide), raise H3 e03 fun z => z.1 hnil⟩⟩
        · have hne : rows ≠ [] := fun z => c1 (by rw [List.length_map, ← e0, z]; rfl)
          refine ⟨_, rfl, l, rfl, ⟨_, SqL.of (e03 _ _ b1)⟩, fun L nL => wk_list (K := K) (a := l) (xs := as.map V.ref)
            (fun j H' => Ex H3 H' ∧ H' L = some (.lst (((rows.take j).map fun s : SizeD => !decide (V.int (s.2.length : Int) = V.int (g.pins.length : Int))).map V.bl))) ⟨Ex.new nL, upd_same⟩ (fun j H' _ z => SqL.of (z.1 _ _ (e03 _ _ b1))) ?_ ?_⟩
          · rintro j y H4 hy ⟨E4, hL⟩
            obtain ⟨u, hu, rfl⟩ := refs_get hy
            obtain ⟨sz, hsz, rt, rl, s1, s2, s3⟩ := b2.at_ hu
            have hj : j < rows.length := (List.getElem?_eq_some_iff.mp hsz).1
            have e04 := e03.trans E4
            refine ⟨u, _, rfl, SqT.of (e04 _ _ s1), rfl, _, _, rfl, _, _, rfl, rfl, (by rw [wipe_set (by decide), wipe_set (by decide), wipe_wipe]), tYes_in ?_⟩
            simp only [wipe, _root_.L2.start, List.map_cons, List.map_nil, List.length_cons, List.length_nil, Nat.reduceAdd, Nat.reduceSub, List.replicate_succ, List.replicate_zero, List.cons_append, List.nil_append, List.set_cons_zero, List.set_cons_succ]
            refine ⟨_, rfl, _, _, rfl, .inr (SqT.of (e04 _ _ s2)), _, rfl, _, _, _, _, rfl, rfl, SqT.of (e04 _ _ a1), atI_nat (j := 2) rfl, _, _, rfl, .inr (SqT.of (e04 _ _ a3)), rfl, _, hL, sz_lt (by rw [List.length_map, List.length_map, List.length_take]; omega), E4.mut nL, ?_⟩
            rw [upd_same, take_snoc1 hsz, List.map_append, List.map_append, List.length_map, List.length_map, s3.1]; rfl
          · rintro H4 ⟨E4, hL⟩
            rw [List.length_map, b2.1, List.take_length] at hL
            have e04 := e03.trans E4
            refine ⟨L, _, rfl, SqL.of hL, _, rfl, ?_⟩
            cases ha : ((rows.map fun s : SizeD => !decide (V.int (s.2.length : Int) = V.int (g.pins.length : Int))).any id) with
            | true =>
              refine iteT ⟨_, rfl, z1, _, rfl, _, _, _, _, rfl, rfl, SqT.of (e04 _ _ a1), atI_nat (j := 0) rfl, .inl ⟨g.name, rfl, sz_of (by omega), _, rfl, z2, _, rfl, z3, (by show 1 ≤ sizeLine; decide), raise H4 e04 fun z => ?_⟩⟩
              rw [List.any_map, List.any_eq_true] at ha
              obtain ⟨sz, hm, h⟩ := ha
              have h' : (!decide (V.int (sz.2.length : Int) = V.int (g.pins.length : Int))) = true := h
              rw [Bool.not_eq_true', decide_eq_false_iff_not] at h'
              exact h' (by rw [z.2 sz hm])
            | false =>
              refine iteF ⟨e04, fun k g' rows' hk h1 h2 => ?_, _, _, rfl⟩
              rcases Nat.lt_succ_iff_lt_or_eq.mp hk with z | z
              · exact ok k g' rows' z h1 h2
              · subst z
                rw [hg] at h1
                rw [hrows] at h2
                cases h1; cases h2
                refine ⟨hne, fun sz hm => ?_⟩
                have h := List.any_eq_false.mp ha (!decide (V.int (sz.2.length : Int) = V.int (g.pins.length : Int))) (List.mem_map.mpr ⟨sz, hm, rfl⟩)
                rw [id, Bool.not_eq_true, Bool.not_eq_false', decide_eq_true_iff, V.int.injEq] at h
                omega
      · rintro σ H2 ⟨E2, ok, x3, x4, rfl⟩
        exact q1 ⟨hlen, fun k g rows h1 h2 => ok k g rows (List.getElem?_eq_some_iff.mp h1).1 h1 h2⟩ H2 E2
def spCosts (Bc : Addr) : Sp := fun vs H Q E => ∃ (sl : Addr) (S : List (List SizeD)), vs = [.ref sl] ∧ SizesAt H sl S ∧ SzFew S ∧ (Cst0 S → ∀ H', Ex H H' → Q .non H') ∧ (¬ Cst0 S → ∀ H', Ex H H' → E (.ref Bc) none H')
/-- which costs are negative, in the order of the rows -/
def negs (S : List (List SizeD)) : List Bool := S.flatMap fun rows => rows.map fun s => decide (s.1 < 0)
theorem flat_snoc {l : List (List SizeD)} {j : Nat} {x : List SizeD} (h : l[j]? = some x) : negs (l.take (j + 1)) = negs (l.take j) ++ x.map fun s : SizeD => decide (s.1 < 0) := by
  unfold negs
  rw [take_snoc1 h, List.flatMap_append, List.flatMap_cons, List.flatMap_nil, List.append_nil]
theorem negs_len {S : List (List SizeD)} (h : SzFew S) : ∀ j, (negs (S.take j)).length ≤ j * 100
  | 0 => by rw [List.take_zero]; exact Nat.le_refl _
  | j + 1 => by
    have ih := negs_len h j
    cases e : S[j]? with
    | none =>
      have : S.take (j + 1) = S.take j := by rw [List.take_add_one, e]; exact List.append_nil _
      rw [this]; omega
    | some x =>
      have := (h.r x (List.mem_of_getElem? e)).1
      rw [flat_snoc e, List.length_append, List.length_map]; omega
theorem negs_any {S : List (List SizeD)} : (negs S).any id = false ↔ Cst0 S := by
  unfold negs Cst0
  rw [List.any_eq_false]
  constructor
  · intro h rows hr s hs
    have := h (decide (s.1 < 0)) (List.mem_flatMap.mpr ⟨rows, hr, List.mem_map.mpr ⟨s, hs, rfl⟩⟩)
    rw [id, Bool.not_eq_true, decide_eq_false_iff_not] at this
    omega
  · intro h b hb
    obtain ⟨rows, hr, hb⟩ := List.mem_flatMap.mp hb
    obtain ⟨s, hs, rfl⟩ := List.mem_map.mp hb
    have := h rows hr s hs
    rw [id, Bool.not_eq_true, decide_eq_false_iff_not]
    omega
theorem sc_check_costs : FnScope ["sizes", "rows", "cost", "_"] ["sizes"] (defScope s_check_costs) := ⟨rfl, rfl, rfl, by decide +kernel, rfl, by decide +kernel, by decide +kernel⟩
theorem ok_check_costs {Bc : Addr} (D : Dfd K mg "_check_costs" s_check_costs ["sizes"]) (UB : ExcT K mg "BadArgument" Bc) (T : TxtZ mg) : HasX P w K mg base 1 "_check_costs" ["sizes"] (spCosts Bc) := by
  obtain ⟨f, fd, F, gf, bf⟩ := D
  refine ⟨f, fd, F.okX sc_check_costs (fun vs H Q E h => ?_) (fun cdv A outer s H vs Q E hr h => ?_), gf, F.kp, bf⟩
  · obtain ⟨sl, S, rfl, _⟩ := h
    rfl
  · obtain ⟨sl, S, rfl, ⟨ls, hsl, hls⟩, few, q1, q2⟩ := h
    refine ⟨_, (pss_one (ps_if (pt_val (pe_callB (cr_any rfl) (by rfl) T.any (by decide +kernel) (pa_cons (pe_lc2 (own := [("rows", 1), ("cost", 2), ("_", 3)]) (vs1 := [2, 3]) (g := (gName 1)) (tt := tYes) (g1 := (gTup K 2 (gCons (gName 2) (gCons (gName 3) gNil)))) (tt1 := tYes) rfl sc_check_costs.nd (pi_list (pv 0)) (blkOk_by (N := ["sizes", "rows", "cost", "_"]) (sc := defScope s_check_costs) (own := [("rows", 1), ("cost", 2), ("_", 3)]) (by decide +kernel)) (by decide) (fun _ _ _ _ _ => (pg_name (i := 1) sc_check_costs.nd rfl (.inl rfl))) (fun _ _ _ _ _ => pts_nil) (fun _ _ _ _ _ => (kPiL (K := K) rfl (pv 1))) (fun _ _ _ _ _ => (pg_tup rfl (pgs_cons (pg_name (i := 2) sc_check_costs.nd rfl (.inl rfl)) (pgs_cons (pg_name (i := 3) sc_check_costs.nd rfl (.inl rfl)) pgs_nil)))) (fun _ _ _ _ _ => pts_nil) (fun _ _ _ _ _ => (pe_cmpR op_lt (pv 2) pe_int (nomark _)))) pa_nil)))
      (pss_one (ps_raise rfl (takes_of rfl rfl rfl rfl) (pmk_ownA PySem.F.excBase_ValueError UB.xP UB.gC UB.kC (raises_own UB.bC UB.tC) rfl (pa_cons pe_str pa_nil))))
      pss_nil)), ?_⟩
    refine ⟨_, rfl, sl, rfl, ⟨_, SqL.of hsl⟩, fun L nL => wk_list (K := K) (a := sl) (xs := ls.map V.ref) (fun j H' => Ex H H' ∧ H' L = some (.lst ((negs (S.take j)).map V.bl))) ⟨Ex.new nL, upd_same⟩ (fun j H' _ z => SqL.of (z.1 _ _ hsl)) ?_ ?_⟩
    · rintro j y H1 hy ⟨E1, hL⟩
      obtain ⟨l, hl, rfl⟩ := refs_get hy
      obtain ⟨rows, hrows, as, b1, b2⟩ := hls.at_ hl
      have hj : j < S.length := (List.getElem?_eq_some_iff.mp hrows).1
      have hn := few.n
      have hfr := (few.r rows (List.mem_of_getElem? hrows)).1
      refine ⟨(by rw [wipe_set (by decide), wipe_wipe]), tYes_in ?_⟩
      simp only [wipe, _root_.L2.start, List.map_cons, List.map_nil, List.length_cons, List.length_nil, Nat.reduceAdd, Nat.reduceSub, List.replicate_succ, List.replicate_zero, List.cons_append, List.nil_append, List.set_cons_zero, List.set_cons_succ]
      refine ⟨_, rfl, l, rfl, ⟨_, SqL.of (E1 _ _ b1)⟩, wk_list (K := K) (a := l) (xs := as.map V.ref) (fun k H' => Ex H H' ∧ H' L = some (.lst ((negs (S.take j) ++ (rows.take k).map fun s : SizeD => decide (s.1 < 0)).map V.bl))) ⟨E1, ?_⟩ (fun k H' _ z => SqL.of (z.1 _ _ b1)) ?_ ?_⟩
      · rw [List.take_zero, List.map_nil, List.append_nil]; exact hL
      · rintro k y H2 hy ⟨E2, hL2⟩
        obtain ⟨u, hu, rfl⟩ := refs_get hy
        obtain ⟨sz, hsz, rt, rl, s1, s2, s3⟩ := b2.at_ hu
        have hk : k < rows.length := (List.getElem?_eq_some_iff.mp hsz).1
        refine ⟨u, _, rfl, SqT.of (E2 _ _ s1), rfl, _, _, rfl, _, _, rfl, rfl, rfl, tYes_in ?_⟩
        simp only [wipe, _root_.L2.start, List.map_cons, List.map_nil, List.length_cons, List.length_nil, Nat.reduceAdd, Nat.reduceSub, List.replicate_succ, List.replicate_zero, List.cons_append, List.nil_append, List.set_cons_zero, List.set_cons_succ]
        have := negs_len few j
        refine ⟨_, rfl, _, _, rfl, rfl, _, hL2, sz_lt (by rw [List.length_map, List.length_append, List.length_map, List.length_take]; omega), E2.mut nL, ?_⟩
        rw [upd_same, take_snoc1 hsz]
        simp only [List.map_append, List.append_assoc]; rfl
      · rintro H2 ⟨E2, hL2⟩
        rw [List.length_map, b2.1, List.take_length] at hL2
        exact ⟨E2, by rw [flat_snoc hrows]; exact hL2⟩
    · rintro H1 ⟨E1, hL⟩
      rw [List.length_map, hls.1, List.take_length] at hL
      refine ⟨L, _, rfl, SqL.of hL, _, rfl, ?_⟩
      cases ha : (negs S).any id with
      | true => exact iteT ⟨(by show 1 ≤ sizeLine; decide), q2 (fun z => by rw [negs_any.mpr z] at ha; cases ha) H1 E1⟩
      | false => exact iteF (q1 (negs_any.mp ha) H1 E1)
def spRngs (R : Addr) : Sp := fun vs H Q E => ∃ (sl : Addr) (S : List (List SizeD)), vs = [.ref sl] ∧ SizesAt H sl S ∧ (Rng S → ∀ H', Ex H H' → Q .non H') ∧ (¬ Rng S → ∀ H', Ex H H' → E (.ref R) none H')
theorem sc_check_ranges : FnScope ["sizes", "rows", "_", "ranges", "pair"] ["sizes"] (defScope s_check_ranges) := ⟨rfl, rfl, rfl, by decide +kernel, rfl, by decide +kernel, by decide +kernel⟩
theorem ok_check_ranges {R : Addr} (D : Dfd K mg "_check_ranges" s_check_ranges ["sizes"]) (C1 : HasX P w K mg base 1 "check_pin_range" ["pair"] (spPin R)) : HasX P w K mg base 2 "_check_ranges" ["sizes"] (spRngs R) := by
  obtain ⟨f_check_pin_range, d_check_pin_range, G_check_pin_range, g_check_pin_range, k_check_pin_range, b_check_pin_range⟩ := C1
  obtain ⟨f, fd, F, gf, bf⟩ := D
  refine ⟨f, fd, F.okX sc_check_ranges (fun vs H Q E h => ?_) (fun cdv A outer s H vs Q E hr h => ?_), gf, F.kp, bf⟩
  · obtain ⟨sl, S, rfl, _⟩ := h
    rfl
  · obtain ⟨sl, S, rfl, ⟨ls, hsl, hls⟩, q1, q2⟩ := h
    refine ⟨_, (pss_one (ps_for (passes_of rfl) rfl (pi_list (pv 0)) (pg_name (i := 1) sc_check_ranges.nd rfl (.inl rfl))
      (pss_one (ps_for (passes_of rfl) rfl (pi_list (pv 1)) (pg_tup rfl (pgs_cons (pg_name (i := 2) sc_check_ranges.nd rfl (.inl rfl)) (pgs_cons (pg_name (i := 3) sc_check_ranges.nd rfl (.inl rfl)) pgs_nil)))
        (pss_one (ps_for (passes_of rfl) rfl (pi_tup (pv 3)) (pg_name (i := 4) sc_check_ranges.nd rfl (.inl rfl))
          (pss_one (ps_expr (pe_call G_check_pin_range (hr.mono (by omega)) (by rfl) g_check_pin_range k_check_pin_range b_check_pin_range .nil (passes_call (takes_of rfl rfl rfl rfl) fun _ _ _ _ h => h) (pa_cons (pv 4) pa_nil)))))))))), ?_⟩
    refine ⟨_, rfl, sl, rfl, ⟨_, SqL.of hsl⟩, for_list (K := K) (a := sl) (xs := ls.map V.ref)
      (fun i σ H' => Ex H H' ∧ Rng (S.take i) ∧ ∃ x1 x2 x3 x4 : Option V, σ = [some (.ref sl), x1, x2, x3, x4]) ⟨.refl _, (by rw [List.take_zero]; exact fun _ h => nomatch h), _, _, _, _, rfl⟩ (fun i σ H' _ g => SqL.of (g.1 _ _ hsl)) ?_ ?_⟩
    · rintro i x σ H1 hx ⟨E1, ok, x1, x2, x3, x4, rfl⟩
      obtain ⟨l, hl, rfl⟩ := refs_get hx
      obtain ⟨rows, hrows, as, b1, b2⟩ := hls.at_ hl
      refine ⟨_, rfl, l, rfl, ⟨_, SqL.of (E1 _ _ b1)⟩, for_list (K := K) (a := l) (xs := as.map V.ref)
        (fun j σ H' => Ex H H' ∧ (∀ s ∈ rows.take j, ∀ r ∈ s.2, okR r) ∧ ∃ x2 x3 x4 : Option V, σ = [some (.ref sl), some (.ref l), x2, x3, x4]) ⟨E1, (by rw [List.take_zero]; exact fun _ h => nomatch h), _, _, _, rfl⟩ (fun i σ H' _ g => SqL.of (g.1 _ _ b1)) ?_ ?_⟩
      · rintro j x σ H2 hx ⟨E2, okj, y2, y3, y4, rfl⟩
        obtain ⟨u, hu, rfl⟩ := refs_get hx
        obtain ⟨sz, hsz, rt, rl, s1, s2, s3⟩ := b2.at_ hu
        refine ⟨u, _, rfl, SqT.of (E2 _ _ s1), rfl, _, _, rfl, _, _, rfl, rfl, ?_⟩
        simp only [wipe, _root_.L2.start, List.map_cons, List.map_nil, List.length_cons, List.length_nil, Nat.reduceAdd, Nat.reduceSub, List.replicate_succ, List.replicate_zero, List.cons_append, List.nil_append, List.set_cons_zero, List.set_cons_succ]
        refine ⟨_, rfl, rt, rfl, ⟨_, SqT.of (E2 _ _ s2)⟩, for_tup (K := K) (a := rt) (xs := rl.map V.ref)
          (fun k σ H' => Ex H H' ∧ (∀ r ∈ sz.2.take k, okR r) ∧ ∃ x4 : Option V, σ = [some (.ref sl), some (.ref l), some (.int sz.1), some (.ref rt), x4]) ⟨E2, (by rw [List.take_zero]; exact fun _ h => nomatch h), _, rfl⟩ (fun i σ H' _ g => SqT.of (g.1 _ _ s2)) ?_ ?_⟩
        · rintro k x σ H3 hx ⟨E3, okk, z4, rfl⟩
          obtain ⟨v, hv, rfl⟩ := refs_get hx
          obtain ⟨r, hr2, hra⟩ := s3.at_ hv
          refine ⟨_, rfl, v, r, rfl, E3 _ _ hra, fun ho => ⟨E3, fun r' hr' => ?_, _, rfl⟩, fun hb H' E' => q2 (fun z => ?_) H' (E3.trans E')⟩
          · rw [take_snoc1 hr2] at hr'
            rcases List.mem_append.mp hr' with h | h
            · exact okk r' h
            · rw [List.mem_singleton.mp h]; exact ho
          · exact hb (z rows (List.mem_of_getElem? hrows) sz (List.mem_of_getElem? hsz) r (List.mem_of_getElem? hr2))
        · rintro σ H3 ⟨E3, okk, z4, rfl⟩
          rw [List.length_map, s3.1, List.take_length] at okk
          refine ⟨E3, fun s' hs' => ?_, _, _, _, rfl⟩
          rw [take_snoc1 hsz] at hs'
          rcases List.mem_append.mp hs' with h | h
          · exact okj s' h
          · rw [List.mem_singleton.mp h]; exact okk
      · rintro σ H2 ⟨E2, okj, y2, y3, y4, rfl⟩
        rw [List.length_map, b2.1, List.take_length] at okj
        refine ⟨E2, fun r' hr' => ?_, _, _, _, _, rfl⟩
        rw [take_snoc1 hrows] at hr'
        rcases List.mem_append.mp hr' with h | h
        · exact ok r' h
        · rw [List.mem_singleton.mp h]; exact okj
    · rintro σ H1 ⟨E1, ok, x1, x2, x3, x4, rfl⟩
      rw [List.length_map, hls.1, List.take_length] at ok
      exact q1 ok H1 E1
/-- the chosen sizes -/
def pickD (S : List (List SizeD)) (ch : List Int) : List SizeD := List.zipWith (fun rows k => rows.getD k.toNat (0, [])) S ch
theorem pick_snoc {S : List (List SizeD)} {ch : List Int} {j : Nat} {rows : List SizeD} {k : Int} (h1 : S[j]? = some rows) (h2 : ch[j]? = some k) : pickD (S.take (j + 1)) (ch.take (j + 1)) = pickD (S.take j) (ch.take j) ++ [rows.getD k.toNat (0, [])] := by
  have l1 := (List.getElem?_eq_some_iff.mp h1).1
  have l2 := (List.getElem?_eq_some_iff.mp h2).1
  unfold pickD
  rw [take_snoc1 h1, take_snoc1 h2, List.zipWith_append (by rw [List.length_take, List.length_take]; omega)]
  rfl
theorem pick_get {rows : List SizeD} {k : Int} (h0 : 0 ≤ k) (h1 : k < rows.length) : rows[k.toNat]? = some (rows.getD k.toNat (0, [])) := by
  have : k.toNat < rows.length := by omega
  rw [List.getD_eq_getElem?_getD, List.getElem?_eq_getElem this]; rfl
def spSized (Wc Bc R : Addr) : Sp := fun vs H Q E => ∃ (c sl cl : Addr) (d : CircD) (S : List (List SizeD)) (ch : List Int) (it gt rt ot : Addr) (ga ra oa : List Addr), vs = [.ref c, .ref sl, .ref cl] ∧ CircAt H c d it gt rt ot ga ra oa ∧ SizesAt H sl S ∧ H cl = some (.lst (ch.map V.int)) ∧ SzFew S ∧ d.gates.length ≤ 1000 ∧ (∀ g ∈ d.gates, g.name.length ≤ 1000) ∧
  (Cnt0 d.gates S → ch.length = S.length → Cst0 S → Idx S ch → Rng S → ∀ (c' gt' : Addr) (ga' : List Addr) (H' : Hp), Ex H H' → H c' = none → CircAt H' c' { d with gates := withD d.gates ((pickD S ch).map (·.2)) } it gt' rt ot ga' ra oa → Q (.ref c') H') ∧
  (¬ (Cnt0 d.gates S ∧ ch.length = S.length) → ∀ H', Ex H H' → E (.ref Wc) none H') ∧ (Cnt0 d.gates S → ch.length = S.length → ¬ (Cst0 S ∧ Idx S ch) → ∀ H', Ex H H' → E (.ref Bc) none H') ∧ (Cnt0 d.gates S → ch.length = S.length → Cst0 S → Idx S ch → ¬ Rng S → ∀ H', Ex H H' → E (.ref R) none H')
theorem sc_sized : FnScope ["circuit", "sizes", "choice", "rows", "k"] ["circuit", "sizes", "choice"] (defScope s_sized) := ⟨rfl, rfl, rfl, by decide +kernel, rfl, by decide +kernel, by decide +kernel⟩
theorem ok_sized {Wc Bc R : Addr} (D : Dfd K mg "sized" s_sized ["circuit", "sizes", "choice"]) (T : TxtZ mg) (UW : ExcT K mg "WrongCount" Wc) (UB : ExcT K mg "BadArgument" Bc) (C1 : HasX P w K mg base 1 "_check_counts" ["circuit", "sizes"] (spCnts Wc)) (C2 : HasX P w K mg base 1 "_check_costs" ["sizes"] (spCosts Bc)) (C3 : HasX P w K mg base 2 "_check_ranges" ["sizes"] (spRngs R))
    (C4 : Has P w K mg base 1 "with_ranges" ["circuit", "rows"] spWith) : HasX P w K mg base 3 "sized" ["circuit", "sizes", "choice"] (spSized Wc Bc R) := by
  obtain ⟨f_check_counts, d_check_counts, G_check_counts, g_check_counts, k_check_counts, b_check_counts⟩ := C1
  obtain ⟨f_check_costs, d_check_costs, G_check_costs, g_check_costs, k_check_costs, b_check_costs⟩ := C2
  obtain ⟨f_check_ranges, d_check_ranges, G_check_ranges, g_check_ranges, k_check_ranges, b_check_ranges⟩ := C3
  obtain ⟨f_with_ranges, d_with_ranges, G_with_ranges, g_with_ranges, k_with_ranges, b_with_ranges⟩ := C4
  obtain ⟨f, fd, F, gf, bf⟩ := D
  refine ⟨f, fd, F.okX sc_sized (fun vs H Q E h => ?_) (fun cdv A outer s H vs Q E hr h => ?_), gf, F.kp, bf⟩
  · obtain ⟨c, sl, cl, d, S, ch, it, gt, rt, ot, ga, ra, oa, rfl, _⟩ := h
    rfl
  · obtain ⟨c, sl, cl, d, S, ch, it, gt, rt, ot, ga, ra, oa, rfl, hc, hS, hcl, few, hn, hnm, q, qW, qB, qR⟩ := h
    refine ⟨_, (pss_cons (ps_expr (pe_call G_check_counts (hr.mono (by omega)) (by rfl) g_check_counts k_check_counts b_check_counts .nil (passes_call (takes_of rfl rfl rfl rfl) fun _ _ _ _ h => h) (pa_cons (pv 0) (pa_cons (pv 1) pa_nil))))
    (pss_cons (ps_if (pt_cmpR op_ne (pe_callB call_len_seq (by rfl) T.len (by decide +kernel) (pa_cons (pv 2) pa_nil)) (pe_callB call_len_seq (by rfl) T.len (by decide +kernel) (pa_cons (pv 1) pa_nil)) (nomark _))
      (pss_one (ps_raise rfl (takes_of rfl rfl rfl rfl) (pmk_ownA PySem.F.excBase_ValueError UW.xP UW.gC UW.kC (raises_own UW.bC UW.tC) rfl (pa_cons pe_str pa_nil))))
      pss_nil)
    (pss_cons (ps_expr (pe_call G_check_costs (hr.mono (by omega)) (by rfl) g_check_costs k_check_costs b_check_costs .nil (passes_call (takes_of rfl rfl rfl rfl) fun _ _ _ _ h => h) (pa_cons (pv 1) pa_nil)))
    (pss_cons (ps_for (passes_of rfl) rfl (pi_zipM false false (by rfl) T.zip (pa_cons (pv 1) (pa_cons (pv 2) pa_nil))) (pg_tup rfl (pgs_cons (pg_name (i := 3) sc_sized.nd rfl (.inl rfl)) (pgs_cons (pg_name (i := 4) sc_sized.nd rfl (.inl rfl)) pgs_nil)))
      (pss_one (ps_if (PW.pt (pw_or (pt_cmpR op_lt (pv 4) pe_int (nomark _)) (pw_or1 (pt_cmpR op_ge (pv 4) (pe_callB call_len_seq (by rfl) T.len (by decide +kernel) (pa_cons (pv 3) pa_nil)) (nomark _)))))
        (pss_one (ps_raise rfl (takes_of rfl rfl rfl rfl) (pmk_ownA PySem.F.excBase_ValueError UB.xP UB.gC UB.kC (raises_own UB.bC UB.tC) rfl (pa_cons pe_str pa_nil))))
        pss_nil)))
    (pss_cons (ps_expr (pe_call G_check_ranges (hr.mono (by omega)) (by rfl) g_check_ranges k_check_ranges b_check_ranges .nil (passes_call (takes_of rfl rfl rfl rfl) fun _ _ _ _ h => h) (pa_cons (pv 1) pa_nil)))
    (pss_one (ps_ret (pe_call G_with_ranges (hr.mono (by omega)) (by rfl) g_with_ranges k_with_ranges b_with_ranges .nil pass0 (pa_cons (pv 0) (pa_cons (pe_lc (own := [("rows", 3), ("k", 4)]) (g := gTup K 2 (gCons (gName 3) (gCons (gName 4) gNil))) (tt := tYes) rfl sc_sized.nd (pi_zipM false false (by rfl) T.zip (pa_cons (pv 1) (pa_cons (pv 2) pa_nil))) (blkOk_by (N := ["circuit", "sizes", "choice", "rows", "k"]) (sc := defScope s_sized) (own := [("rows", 3), ("k", 4)]) (by decide +kernel)) (fun _ _ _ _ _ => (pg_tup rfl (pgs_cons (pg_name (i := 3) sc_sized.nd rfl (.inl rfl)) (pgs_cons (pg_name (i := 4) sc_sized.nd rfl (.inl rfl)) pgs_nil)))) (fun _ _ _ _ _ => pts_nil) (fun _ _ _ _ _ => (pe_ix (kIxT (K := K) rfl) (pe_ix (kIxL (K := K) rfl) (pv 3) (pv 4) (fun _ _ => rfl)) pe_int (fun _ _ => rfl)))) pa_nil)))))))))), ?_⟩
    refine ⟨_, rfl, _, rfl, c, sl, d, S, it, gt, rt, ot, ga, ra, oa, rfl, hc, hS, few, hnm, fun hCnt H1 E1 => ?_, fun z => qW fun y => z y.1⟩
    obtain ⟨ls, hsl, hls⟩ := hS.ex E1
    refine ⟨_, rfl, _, _, rfl, .inl (SqL.of (E1 _ _ hcl)), _, rfl, _, _, rfl, .inl (SqL.of hsl), rfl, _, rfl, ?_⟩
    rw [List.length_map, List.length_map, hls.1]
    cases hb : (!decide (V.int (ch.length : Int) = V.int (S.length : Int))) with
    | true =>
      refine iteT ⟨(by show 1 ≤ sizeLine; decide), qW (fun z => ?_) H1 E1⟩
      rw [Bool.not_eq_true', decide_eq_false_iff_not] at hb
      exact hb (by rw [z.2])
    | false =>
      have hlen : ch.length = S.length := by
        rw [Bool.not_eq_false', decide_eq_true_iff, V.int.injEq] at hb; omega
      refine iteF ⟨_, rfl, sl, S, rfl, hS.ex E1, few, fun hCst H2 E2 => ?_, fun z H' E' => qB hCnt hlen (fun y => z y.1) H' (E1.trans E')⟩
      have e2 := E1.trans E2
      have hsl2 := E2 _ _ hsl
      have hls2 := hls.imp fun _ _ z => z.ex E2
      refine ⟨_, rfl, _, rfl, sl, cl, ls.map V.ref, ch.map V.int, rfl, SqL.of hsl2, SqL.of (e2 _ _ hcl), for_it (walk_zipM (n := S.length) (by rw [List.length_map, hls.1]) (by rw [List.length_map, hlen]))
        (fun i σ H' => Ex H2 H' ∧ (∀ (k : Nat) (rows : List SizeD) (z : Int), k < i → S[k]? = some rows → ch[k]? = some z → 0 ≤ z ∧ z < rows.length) ∧ ∃ x3 x4 : Option V, σ = [some (.ref c), some (.ref sl), some (.ref cl), x3, x4])
        ⟨.refl _, (fun k _ _ h => absurd h (Nat.not_lt_zero _)), _, _, rfl⟩ (fun i σ H' _ g => ⟨SqL.of (g.1 _ _ hsl2), SqL.of (g.1 _ _ (e2 _ _ hcl))⟩) ?_ ?_⟩
      · rintro i x σ H3 H4 hi ⟨E3, ok, x3, x4, rfl⟩ ⟨T1, x0, y0, rfl, nT, rfl, hx, hy⟩
        obtain ⟨l, hl, rfl⟩ := refs_get hx
        obtain ⟨rows, hrows, as, b1, b2⟩ := hls2.at_ hl
        have hic : i < ch.length := by omega
        have hyc : y0 = .int ch[i] := by
          have hy' : (ch.map V.int)[i]? = some y0 := hy
          rw [List.getElem?_map, List.getElem?_eq_getElem hic] at hy'
          exact (Option.some.inj hy').symm
        subst hyc
        have E4 : Ex H3 (upd H3 T1 (.tup [.ref l, .int ch[i]])) := Ex.new nT
        refine ⟨T1, _, rfl, SqT.of upd_same, rfl, _, _, rfl, _, _, rfl, rfl, ?_⟩
        generalize upd H3 T1 (.tup [.ref l, .int ch[i]]) = H4 at *
        have e24 := E3.trans E4
        have e04 := e2.trans e24
        simp only [wipe, _root_.L2.start, List.map_cons, List.map_nil, List.length_cons, List.length_nil, Nat.reduceAdd, Nat.reduceSub, List.replicate_succ, List.replicate_zero, List.cons_append, List.nil_append, List.set_cons_zero, List.set_cons_succ]
        have bad : ¬ (0 ≤ ch[i] ∧ ch[i] < rows.length) → E (.ref Bc) none H4 := fun z => qB hCnt hlen (fun y => z (y.2 i rows _ hrows (List.getElem?_eq_getElem hic))) H4 e04
        refine ⟨_, rfl, _, _, rfl, rfl, _, rfl, ite2 (fun c1 => ?_) (fun c1 => ?_)⟩
        · exact iteT ⟨(by show 1 ≤ sizeLine; decide), bad fun z => by have := of_decide_eq_true c1; omega⟩
        · refine ⟨_, rfl, _, rfl, _, _, rfl, .inl (SqL.of (e24 _ _ b1)), _, _, rfl, rfl, _, rfl, ?_⟩
          rw [List.length_map, b2.1]
          refine ite2 (fun c2 => ?_) (fun c2 => ?_)
          · exact ⟨(by show 1 ≤ sizeLine; decide), bad fun z => by have := of_decide_eq_true c2; omega⟩
          · refine ⟨e24, fun k rows' z' hk h1 h2 => ?_, _, _, rfl⟩
            rcases Nat.lt_succ_iff_lt_or_eq.mp hk with z | z
            · exact ok k rows' z' z h1 h2
            · subst z
              rw [hrows] at h1
              rw [List.getElem?_eq_getElem hic] at h2
              cases h1; cases h2
              have k1 : ¬ ch[k] < 0 := fun z => c1 (decide_eq_true z)
              have k2 : ¬ ch[k] ≥ (rows.length : Int) := fun z => c2 (decide_eq_true z)
              exact ⟨by omega, by omega⟩
      · rintro σ H3 ⟨E3, ok, x3, x4, rfl⟩
        have hIdx : Idx S ch := fun k rows z h1 h2 => ok k rows z (List.getElem?_eq_some_iff.mp h1).1 h1 h2
        have e03 := e2.trans E3
        refine ⟨_, rfl, sl, S, rfl, hS.ex e03, fun hRng H4 E4 => ?_, fun z H' E' => qR hCnt hlen hCst hIdx z H' (e03.trans E')⟩
        have e04 := e03.trans E4
        obtain ⟨ls4, hsl4, hls4⟩ := hS.ex e04
        have hc4 := hc.te (.of e04)
        refine ⟨_, rfl, _, rfl, _, rfl, sl, cl, ls4.map V.ref, ch.map V.int, rfl, SqL.of hsl4, SqL.of (e04 _ _ hcl), fun L nL => wk_it (walk_zipM (n := S.length) (by rw [List.length_map, hls4.1]) (by rw [List.length_map, hlen]))
          (fun j H' => Ex H4 H' ∧ ∃ as : List Addr, H' L = some (.lst (as.map V.ref)) ∧ All2 (RowAt (hid L H')) as ((pickD (S.take j) (ch.take j)).map (·.2))) ⟨Ex.new nL, [], upd_same, by rw [List.take_zero, List.take_zero]; exact .nil⟩ (fun j H' _ g => ⟨SqL.of (g.1 _ _ hsl4), SqL.of (g.1 _ _ (e04 _ _ hcl))⟩) ?_ ?_⟩
        · rintro j x H5 H6 hj ⟨E5, as, hL, hA⟩ ⟨T1, x0, y0, rfl, nT, rfl, hx, hy⟩
          obtain ⟨l, hl, rfl⟩ := refs_get hx
          obtain ⟨rows, hrows, rs, b1, b2⟩ := hls4.at_ hl
          have hjc : j < ch.length := by omega
          have gjc : ch[j]? = some ch[j] := List.getElem?_eq_getElem hjc
          have hyc : y0 = .int ch[j] := by
            have hy' : (ch.map V.int)[j]? = some y0 := hy
            rw [List.getElem?_map, gjc] at hy'
            exact (Option.some.inj hy').symm
          subst hyc
          obtain ⟨i0, i1⟩ := hIdx j rows _ hrows gjc
          have E6 : Ex H5 (upd H5 T1 (.tup [.ref l, .int ch[j]])) := Ex.new nT
          refine ⟨T1, _, rfl, SqT.of upd_same, rfl, _, _, rfl, _, _, rfl, rfl, (by rw [wipe_set (by decide), wipe_set (by decide), wipe_wipe]), tYes_in ?_⟩
          generalize upd H5 T1 (.tup [.ref l, .int ch[j]]) = H6 at *
          have e46 := E5.trans E6
          simp only [wipe, _root_.L2.start, List.map_cons, List.map_nil, List.length_cons, List.length_nil, Nat.reduceAdd, Nat.reduceSub, List.replicate_succ, List.replicate_zero, List.cons_append, List.nil_append, List.set_cons_zero, List.set_cons_succ]
          obtain ⟨u, hu, rt2, rl2, s1, s2, s3⟩ := b2.of (pick_get i0 i1)
          have hur : (rs.map V.ref)[ch[j].toNat]? = some (.ref u) := by rw [List.getElem?_map, hu]; rfl
          have hL6 := E6 _ _ hL
          refine ⟨_, rfl, _, rfl, _, _, _, _, rfl, rfl, SqL.of (e46 _ _ b1), at_of (j := ch[j].toNat) (by omega) hur, _, _, _, _, rfl, rfl, SqT.of (e46 _ _ s1), atI_nat (j := 1) rfl, _, hL6, sz_lt ?_, e46.mut nL, as ++ [rt2], by rw [upd_same, List.map_append]; rfl, ?_⟩
          · have := few.n
            rw [List.length_map, hA.1, List.length_map]
            unfold pickD
            rw [List.length_zipWith, List.length_take, List.length_take]; omega
          · rw [hid_upd, pick_snoc hrows gjc, List.map_append]
            have tl : ∀ {q : Addr} {xs : List V}, H6 q = some (.tup xs) → hid L H6 q = some (.tup xs) := fun {q xs} z => by rw [hid_ne (ne_of z hL6 (by intro y; cases y))]; exact z
            refine (hA.imp fun _ _ z => ?_).snoc ⟨rl2, .inr (tl (e46 _ _ s2)), s3.imp fun _ _ z => tl (e46 _ _ z)⟩
            obtain ⟨pl, p1, p2⟩ := z
            exact ⟨pl, p1.imp (fun y => by rw [hid_ne (hid_neq y)]; exact E6 _ _ (hid_get y)) (fun y => tl (E6 _ _ (hid_get y))), p2.imp fun _ _ y => tl (E6 _ _ (hid_get y))⟩
        · rintro H5 ⟨E5, as, hL, hA⟩
          rw [List.take_length, show ch.take S.length = ch by rw [← hlen, List.take_length]] at hA
          have hlp : ((pickD S ch).map (·.2)).length = d.gates.length := by
            rw [List.length_map]; unfold pickD
            rw [List.length_zipWith, hlen, Nat.min_self, hCnt.1]
          refine ⟨c, L, d, (pickD S ch).map (·.2), as, it, gt, rt, ot, ga, ra, oa, rfl, hc4.te (.of E5), hL, hA.imp fun _ _ z => ?_, hlp, hn, fun c' gt' ga' H6 E6 nc h => ?_⟩
          · obtain ⟨pl, p1, p2⟩ := z
            exact ⟨pl, p1.imp hid_get hid_get, p2.imp fun _ _ y => hid_get y⟩
          · exact q hCnt hlen hCst hIdx hRng c' gt' ga' H6 (e04.trans (E5.trans E6)) (fresh_back (e04.trans E5) nc) h
def spTotal : Sp := fun vs H Q _ => ∃ (sl cl : Addr) (S : List (List SizeD)) (ch : List Int), vs = [.ref sl, .ref cl] ∧ SizesAt H sl S ∧ H cl = some (.lst (ch.map V.int)) ∧ SzFew S ∧ ch.length = S.length ∧ Cst0 S ∧ Idx S ch ∧ ∀ H', Ex H H' → Q (.int ((pickD S ch).map (·.1)).sum) H'
theorem sc_total_cost : FnScope ["sizes", "choice", "rows", "k"] ["sizes", "choice"] (defScope s_total_cost) := ⟨rfl, rfl, rfl, by decide +kernel, rfl, by decide +kernel, by decide +kernel⟩
theorem ok_total_cost {Bc : Addr} (D : Dfd K mg "total_cost" s_total_cost ["sizes", "choice"]) (T : TxtZ mg) (C2 : HasX P w K mg base 1 "_check_costs" ["sizes"] (spCosts Bc)) : Has P w K mg base 2 "total_cost" ["sizes", "choice"] spTotal := by
  obtain ⟨f_check_costs, d_check_costs, G_check_costs, g_check_costs, k_check_costs, b_check_costs⟩ := C2
  refine D.has fun f fd F => F.ok sc_total_cost (fun vs H Q E h => ?_) (fun cdv A outer s H vs Q E hr h => ?_)
  · obtain ⟨sl, cl, S, ch, rfl, _⟩ := h
    rfl
  · obtain ⟨sl, cl, S, ch, rfl, hS, hcl, few, hlen, hCst, hIdx, q⟩ := h
    refine ⟨_, (pss_cons (ps_expr (pe_call G_check_costs (hr.mono (by omega)) (by rfl) g_check_costs k_check_costs b_check_costs .nil passX0 (pa_cons (pv 0) pa_nil)))
    (pss_one (ps_ret (pe_callB (cr_sum rfl) (by rfl) T.sum (by decide +kernel) (pa_cons (pe_lc (own := [("rows", 2), ("k", 3)]) (g := gTup K 2 (gCons (gName 2) (gCons (gName 3) gNil))) (tt := tYes) rfl sc_total_cost.nd (pi_zipM false false (by rfl) T.zip (pa_cons (pv 0) (pa_cons (pv 1) pa_nil))) (blkOk_by (N := ["sizes", "choice", "rows", "k"]) (sc := defScope s_total_cost) (own := [("rows", 2), ("k", 3)]) (by decide +kernel)) (fun _ _ _ _ _ => (pg_tup rfl (pgs_cons (pg_name (i := 2) sc_total_cost.nd rfl (.inl rfl)) (pgs_cons (pg_name (i := 3) sc_total_cost.nd rfl (.inl rfl)) pgs_nil)))) (fun _ _ _ _ _ => pts_nil) (fun _ _ _ _ _ => (pe_ix (kIxT (K := K) rfl) (pe_ix (kIxL (K := K) rfl) (pv 2) (pv 3) (fun _ _ => rfl)) pe_int (fun _ _ => rfl)))) pa_nil))))), ?_⟩
    refine ⟨_, rfl, sl, S, rfl, hS, few, fun _ H4 e04 => ?_, fun z => absurd hCst z⟩
    obtain ⟨ls4, hsl4, hls4⟩ := hS.ex e04
    refine ⟨_, rfl, _, rfl, sl, cl, ls4.map V.ref, ch.map V.int, rfl, SqL.of hsl4, SqL.of (e04 _ _ hcl), fun L nL => wk_it (walk_zipM (n := S.length) (by rw [List.length_map, hls4.1]) (by rw [List.length_map, hlen]))
      (fun j H' => Ex H4 H' ∧ H' L = some (.lst (((pickD (S.take j) (ch.take j)).map (·.1)).map V.int))) ⟨Ex.new nL, upd_same⟩ (fun j H' _ g => ⟨SqL.of (g.1 _ _ hsl4), SqL.of (g.1 _ _ (e04 _ _ hcl))⟩) ?_ ?_⟩
    · rintro j x H5 H6 hj ⟨E5, hL⟩ ⟨T1, x0, y0, rfl, nT, rfl, hx, hy⟩
      obtain ⟨l, hl, rfl⟩ := refs_get hx
      obtain ⟨rows, hrows, rs, b1, b2⟩ := hls4.at_ hl
      have hjc : j < ch.length := by omega
      have gjc : ch[j]? = some ch[j] := List.getElem?_eq_getElem hjc
      have hyc : y0 = .int ch[j] := by
        have hy' : (ch.map V.int)[j]? = some y0 := hy
        rw [List.getElem?_map, gjc] at hy'
        exact (Option.some.inj hy').symm
      subst hyc
      obtain ⟨i0, i1⟩ := hIdx j rows _ hrows gjc
      have E6 : Ex H5 (upd H5 T1 (.tup [.ref l, .int ch[j]])) := Ex.new nT
      refine ⟨T1, _, rfl, SqT.of upd_same, rfl, _, _, rfl, _, _, rfl, rfl, (by rw [wipe_set (by decide), wipe_set (by decide), wipe_wipe]), tYes_in ?_⟩
      generalize upd H5 T1 (.tup [.ref l, .int ch[j]]) = H6 at *
      have e46 := E5.trans E6
      simp only [wipe, _root_.L2.start, List.map_cons, List.map_nil, List.length_cons, List.length_nil, Nat.reduceAdd, Nat.reduceSub, List.replicate_succ, List.replicate_zero, List.cons_append, List.nil_append, List.set_cons_zero, List.set_cons_succ]
      obtain ⟨u, hu, rt2, rl2, s1, s2, s3⟩ := b2.of (pick_get i0 i1)
      have hur : (rs.map V.ref)[ch[j].toNat]? = some (.ref u) := by rw [List.getElem?_map, hu]; rfl
      have hL6 := E6 _ _ hL
      have hN := few.n
      refine ⟨_, rfl, _, rfl, _, _, _, _, rfl, rfl, SqL.of (e46 _ _ b1), at_of (j := ch[j].toNat) (by omega) hur, _, _, _, _, rfl, rfl, SqT.of (e46 _ _ s1), atI_nat (j := 0) rfl, _, hL6, sz_lt ?_, e46.mut nL, ?_⟩
      · rw [List.length_map, List.length_map]
        unfold pickD
        rw [List.length_zipWith, List.length_take, List.length_take]; omega
      · rw [upd_same, pick_snoc hrows gjc, List.map_append, List.map_append]; rfl
    · rintro H5 ⟨E5, hL⟩
      rw [List.take_length, show ch.take S.length = ch by rw [← hlen, List.take_length]] at hL
      exact ⟨L, _, rfl, SqL.of hL, q H5 (e04.trans E5)⟩
end
end G
namespace G
open PySem PySem.Spec PyProof.Rows L2 Evl TL
theorem exHid {L : Addr} {H H' : Hp} (e : Ex H H') : Ex (hid L H) (hid L H') := fun b o h => by rw [hid_ne (hid_neq h)]; exact e _ _ (hid_get h)
theorem SzAt.te {H H' : Hp} {a : Addr} {s : SizeD} (e : TEx H H') (h : SzAt H a s) : SzAt H' a s := by
  obtain ⟨rt, rl, h1, h2, h3⟩ := h
  exact ⟨rt, rl, e _ _ h1, e _ _ h2, h3.imp fun _ _ z => e _ _ z⟩
/-- what is kept besides the pool and the list at sl -/
def Kx (p sl : Addr) (H H' : Hp) : Prop := Ex (hid sl (hid p H)) (hid sl (hid p H'))
theorem Kx.trans {p sl : Addr} {H H1 H2 : Hp} (a : Kx p sl H H1) (b : Kx p sl H1 H2) : Kx p sl H H2 := Ex.trans a b
theorem Kx.px {p sl a : Addr} {H H' : Hp} (x : Px p a H H') : Kx p sl H H' := exHid x.ex
theorem Kx.mut {p sl l : Addr} {H H' : Hp} {o : HO} (x : Kx p sl H H') (n : H l = none) (h1 : l ≠ p) (h2 : l ≠ sl) : Kx p sl H (upd H' l o) := by
  unfold Kx
  rw [hid_upd_ne h1, hid_upd_ne h2]
  exact Ex.mut x (hid_none (hid_none n))
theorem Kx.self {p sl : Addr} {H H' : Hp} {o : HO} (x : Kx p sl H H') (h : sl ≠ p) : Kx p sl H (upd H' sl o) := by
  unfold Kx
  rw [hid_upd_ne h, hid_upd]
  exact x
/-- tuples seen ahead are seen with the pool and a list hidden -/
theorem tup_hid {p sl a q : Addr} {H : Hp} {l xs : List V} (hp : PoolOk p a H) (hl : hid p H sl = some (.lst l)) (h : H q = some (.tup xs)) : hid sl (hid p H) q = some (.tup xs) := by
  obtain ⟨_, _, _, _, _, e, _⟩ := hp
  have h1 : q ≠ p := ne_of h e (by intro z; cases z)
  have h2 : q ≠ sl := ne_of h (hid_get hl) (by intro z; cases z)
  rw [hid_ne h2, hid_ne h1]; exact h
structure SzGood (gs : List GateD) (S : List (List SizeD)) : Prop where
  cnt : Cnt0 gs S
  cst : Cst0 S
  rng : Rng S
  few : ∀ rows ∈ S, 1 ≤ rows.length ∧ rows.length ≤ 3
section
variable {P : Program} {w : World} {K : PySem.W.Frag} {mg : Str → Option Value} {base : Heap}
def spLSizes : Sp := fun vs H Q _ => ∃ (p a c : Addr) (d : CircD) (it gt rt ot : Addr) (ga ra oa : List Addr), vs = [.ref p, .ref c] ∧ PoolOk p a H ∧ CircAt H c d it gt rt ot ga ra oa ∧ d.gates.length ≤ 15 ∧ (∀ g ∈ d.gates, g.pins.length ≤ 10) ∧
  ∀ (sl : Addr) (S : List (List SizeD)) (H' : Hp), Px p a H H' → SizesAt (hid p H') sl S → SzGood d.gates S → Q (.ref sl) H'
theorem sc_law_sizes : FnScope ["pool", "circuit", "sizes", "gate", "rows", "k", "ranges", "net", "low"] ["pool", "circuit"] (defScope s_law_sizes) := ⟨rfl, rfl, rfl, by decide +kernel, rfl, by decide +kernel, by decide +kernel⟩
theorem ok_law_sizes (D : Dfd K mg "_law_sizes" s_law_sizes ["pool", "circuit"]) (T : TxtS mg) (C1 : Has P w K mg base 2 "_law_draw" ["pool", "many"] spDrawX) : Has P w K mg base 3 "_law_sizes" ["pool", "circuit"] spLSizes := by
  obtain ⟨f_law_draw, d_law_draw, G_law_draw, g_law_draw, k_law_draw, b_law_draw⟩ := C1
  refine D.has fun f fd F => F.ok sc_law_sizes (fun vs H Q E h => ?_) (fun cdv A outer s H vs Q E hr h => ?_)
  · obtain ⟨p, a, c, d, it, gt, rt, ot, ga, ra, oa, rfl, _⟩ := h
    rfl
  · obtain ⟨p, a, c, d, it, gt, rt, ot, ga, ra, oa, rfl, hp, hc, hn, hpn, q⟩ := h
    refine ⟨_, (pss_cons (ps_set (i := 2) sc_law_sizes.nd rfl (.inl rfl) (pe_lst pa_nil))
    (pss_cons (ps_for PassesOwn.never rfl (pi_tup (pe_ix ix_tup (pv 1) pe_int (fun _ _ => rfl))) (pg_name (i := 3) sc_law_sizes.nd rfl (.inl rfl))
      (pss_cons (ps_set (i := 4) sc_law_sizes.nd rfl (.inl rfl) (pe_lst pa_nil))
      (pss_cons (ps_for PassesOwn.never rfl (pi_range1 rfl T.range (pa_cons (pe_op op_add pe_int (pe_call G_law_draw (hr.mono (by omega)) (by rfl) g_law_draw k_law_draw b_law_draw .nil pass0 (pa_cons (pv 0) (pa_cons pe_int pa_nil)))) pa_nil)) (pg_name (i := 5) sc_law_sizes.nd rfl (.inl rfl))
        (pss_cons (ps_set (i := 6) sc_law_sizes.nd rfl (.inl rfl) (pe_lst pa_nil))
        (pss_cons (ps_for PassesOwn.never rfl (pi_tup (pe_ix ix_tup (pv 3) pe_int (fun _ _ => rfl))) (pg_name (i := 7) sc_law_sizes.nd rfl (.inl rfl))
          (pss_cons (ps_set (i := 8) sc_law_sizes.nd rfl (.inl rfl) (pe_call G_law_draw (hr.mono (by omega)) (by rfl) g_law_draw k_law_draw b_law_draw .nil pass0 (pa_cons (pv 0) (pa_cons pe_int pa_nil))))
          (pss_one (ps_expr (pe_bm PySem.F.plainAttrs_list PySem.F.slot_list_append PySem.F.type_list_append mt_append (pv 6) (pa_cons (pe_tup (pa_cons (pv 8) (pa_cons (pe_op op_add (pe_op op_add (pv 8) pe_int) (pe_call G_law_draw (hr.mono (by omega)) (by rfl) g_law_draw k_law_draw b_law_draw .nil pass0 (pa_cons (pv 0) (pa_cons pe_int pa_nil)))) pa_nil))) pa_nil))))))
        (pss_one (ps_expr (pe_bm PySem.F.plainAttrs_list PySem.F.slot_list_append PySem.F.type_list_append mt_append (pv 4) (pa_cons (pe_tup (pa_cons (pe_ix ix_list (pe_lst (pa_cons (pe_call G_law_draw (hr.mono (by omega)) (by rfl) g_law_draw k_law_draw b_law_draw .nil pass0 (pa_cons (pv 0) (pa_cons pe_int pa_nil))) (pa_cons (pe_call G_law_draw (hr.mono (by omega)) (by rfl) g_law_draw k_law_draw b_law_draw .nil pass0 (pa_cons (pv 0) (pa_cons (pe_op op_pow pe_int pe_int) pa_nil))) pa_nil))) (pe_call G_law_draw (hr.mono (by omega)) (by rfl) g_law_draw k_law_draw b_law_draw .nil pass0 (pa_cons (pv 0) (pa_cons pe_int pa_nil))) (fun _ _ => rfl)) (pa_cons (pe_callTy call_tuple_of (by rfl) T.tuple (by decide +kernel) (pa_cons (pv 6) pa_nil)) pa_nil))) pa_nil)))))))
      (pss_one (ps_expr (pe_bm PySem.F.plainAttrs_list PySem.F.slot_list_append PySem.F.type_list_append mt_append (pv 2) (pa_cons (pv 4) pa_nil)))))))
    (pss_one (ps_ret (pv 2))))), ?_⟩
    have hgl := hc.gates.1
    refine ⟨Nat.zero_le _, fun sl nsl => ?_⟩
    have hsp := hp.ne nsl
    have X0 := (Px.refl hp).new (o := .lst []) nsl
    have hs0 : hid p (upd H sl (.lst [])) sl = some (.lst []) := by rw [hid_ne hsp]; exact upd_same
    have T0 : TEx H (upd H sl (.lst [])) := TEx.px X0
    generalize upd H sl (.lst []) = H0 at *
    refine ⟨_, rfl, _, _, _, _, rfl, rfl, SqT.of (T0 _ _ hc.top), atI_nat (j := 1) rfl, gt, rfl, ⟨_, SqT.of (T0 _ _ hc.gts)⟩, for_tup (K := K) (a := gt) (xs := ga.map V.ref)
      (fun i σ H' => Px p a H H' ∧ (∃ (ls : List Addr) (S : List (List SizeD)), hid p H' sl = some (.lst (ls.map V.ref)) ∧ All2 (LsAt (hid sl (hid p H'))) ls S ∧ SzGood (d.gates.take i) S) ∧ ∃ x3 x4 x5 x6 x7 x8 : Option V, σ = [some (.ref p), some (.ref c), some (.ref sl), x3, x4, x5, x6, x7, x8])
      ⟨X0, ⟨[], [], hs0, .nil, ⟨⟨by rw [List.take_zero]; rfl, fun k g rows h => by rw [List.take_zero] at h; exact nomatch h⟩, (fun _ h => nomatch h), (fun _ h => nomatch h), (fun _ h => nomatch h)⟩⟩, _, _, _, _, _, _, rfl⟩
      (fun i σ H' _ g => SqT.of (TEx.px g.1 _ _ hc.gts)) ?_ ?_⟩
    · rintro i x σ H1 hx ⟨X1, ⟨ls, S, hs1, hS, hG⟩, x3, x4, x5, x6, x7, x8, rfl⟩
      obtain ⟨b, hb, rfl⟩ := refs_get hx
      obtain ⟨g, hg, t, pt, rgt, rga, a1, a2, a3, a4, a5⟩ := hc.gates.at_ hb
      have hi : i < d.gates.length := (List.getElem?_eq_some_iff.mp hg).1
      have hpins := hpn g (List.mem_of_getElem? hg)
      have hSl : S.length = i := by rw [hG.cnt.1, List.length_take]; omega
      -- rows
      refine ⟨Nat.zero_le _, fun rl nrl => ?_⟩
      have hrp := X1.pool.ne nrl
      have hrs : rl ≠ sl := (ne_of_none (hid_get hs1) nrl).symm
      have X2 := (Px.refl X1.pool).new (o := .lst []) nrl
      have hs2 := X2.get hs1
      have hr2 : hid p (upd H1 rl (.lst [])) rl = some (.lst []) := by rw [hid_ne hrp]; exact upd_same
      have K2 : Kx p sl H1 (upd H1 rl (.lst [])) := Kx.px X2
      generalize upd H1 rl (.lst []) = H2 at *
      refine ⟨_, rfl, p, a, 3, rfl, by decide, by decide, X2.pool, fun v1 H3 hv1 X3 _ => ⟨_, _, rfl, rfl, 1 + (v1 : Int), rfl, by omega, by omega, for_range (n := (1 + (v1 : Int)).toNat)
        (fun j σ H' => Px p a H1 H' ∧ Kx p sl H1 H' ∧ hid p H' sl = some (.lst (ls.map V.ref)) ∧ (∃ (as : List Addr) (rows : List SizeD), hid p H' rl = some (.lst (as.map V.ref)) ∧ All2 (SzAt H') as rows ∧ rows.length = j ∧ ∀ s ∈ rows, 0 ≤ s.1 ∧ s.2.length = g.pins.length ∧ ∀ r ∈ s.2, okR r) ∧
          ∃ x5 x6 x7 x8 : Option V, σ = [some (.ref p), some (.ref c), some (.ref sl), some (.ref b), some (.ref rl), x5, x6, x7, x8])
        ⟨X2.trans X3, K2.trans (Kx.px X3), X3.get hs2, ⟨[], [], X3.get hr2, .nil, rfl, fun _ h => nomatch h⟩, _, _, _, _, rfl⟩ ?_ ?_⟩⟩
      · rintro j σ H4 hj ⟨X4, K4, hs4, ⟨as, rows, hr4, hA, hlen, hrows⟩, y5, y6, y7, y8, rfl⟩
        have hj3 : j < 3 := by omega
        -- ranges
        refine ⟨Nat.zero_le _, fun gl ngl => ?_⟩
        have hgp := X4.pool.ne ngl
        have hgs : gl ≠ sl := (ne_of_none (hid_get hs4) ngl).symm
        have hgr : gl ≠ rl := (ne_of_none (hid_get hr4) ngl).symm
        have X5 := (Px.refl X4.pool).new (o := .lst []) ngl
        have hs5 := X5.get hs4
        have hr5 := X5.get hr4
        have hg5 : hid p (upd H4 gl (.lst [])) gl = some (.lst []) := by rw [hid_ne hgp]; exact upd_same
        have T5 : TEx H4 (upd H4 gl (.lst [])) := TEx.px X5
        generalize upd H4 gl (.lst []) = H5 at *
        have TH5 : TEx H H5 := (TEx.px X1).trans ((TEx.px X4).trans T5)
        refine ⟨_, rfl, _, _, _, _, rfl, rfl, SqT.of (TH5 _ _ a1), atI_nat (j := 2) rfl, pt, rfl, ⟨_, SqT.of (TH5 _ _ a3)⟩, for_tup (K := K) (a := pt) (xs := g.pins.map V.str)
          (fun k σ H' => Px p a H4 H' ∧ hid p H' sl = some (.lst (ls.map V.ref)) ∧ hid p H' rl = some (.lst (as.map V.ref)) ∧ (∃ (ra2 : List Addr) (R : List (Int × Int)), hid p H' gl = some (.lst (ra2.map V.ref)) ∧ All2 (IntsAt H') ra2 R ∧ R.length = k ∧ ∀ r ∈ R, okR r) ∧
            ∃ z7 z8 : Option V, σ = [some (.ref p), some (.ref c), some (.ref sl), some (.ref b), some (.ref rl), some (.int (0 + (j : Int))), some (.ref gl), z7, z8])
          ⟨X5, hs5, hr5, ⟨[], [], hg5, .nil, rfl, fun _ h => nomatch h⟩, _, _, rfl⟩ (fun k σ H' _ z => SqT.of ((TEx.px X1).trans ((TEx.px X4).trans (TEx.px z.1)) _ _ a3)) ?_ ?_⟩
        · rintro k x σ H6 hx ⟨X6, hs6, hr6, ⟨ra2, R, hg6, hR, hRk, hRo⟩, z7, z8, rfl⟩
          have hk : k < 10 := by have := (List.getElem?_eq_some_iff.mp hx).1; rw [List.length_map] at this; omega
          refine ⟨_, rfl, p, a, 6, rfl, by decide, by decide, X6.pool, fun lo H7 hlo X7 _ => ?_⟩
          refine ⟨_, rfl, .inl ⟨rfl, _, SqL.of (hid_get (X7.get hg6))⟩, _, rfl, _, rfl, _, _, rfl, rfl, _, rfl, p, a, 6, rfl, by decide, by decide, X7.pool, fun u H8 hu X8 _ => ⟨_, _, rfl, rfl, (by show 2 ≤ sizeLine; decide), fun e ne => ?_⟩⟩
          have X9 := (X7.trans X8).new (o := .tup [.int lo, .int ((lo : Int) + 2 + u)]) ne
          have hg9 := X9.get hg6
          have hs9 := X9.get hs6
          have hr9 := X9.get hr6
          have T9 := TEx.px X9
          have he : upd H8 e (.tup [.int lo, .int ((lo : Int) + 2 + u)]) e = some (.tup [.int lo, .int ((lo : Int) + 2 + u)]) := upd_same
          generalize upd H8 e (.tup [.int lo, .int ((lo : Int) + 2 + u)]) = H9 at *
          refine ⟨gl, ra2.map V.ref, .ref e, rfl, rfl, hid_get hg9, sz_lt (by rw [List.length_map, hR.1]; omega), (X6.trans X9).mut ngl, keep1 hs9 hgs.symm hgp, keep1 hr9 hgr.symm hgp, ⟨ra2 ++ [e], R ++ [((lo : Int), (lo : Int) + 2 + u)], ?_, ?_, ?_, ?_⟩, _, _, rfl⟩
          · rw [hid_new hgp, List.map_append]; rfl
          · exact (hR.imp fun _ _ z => (z.te T9).te (TEx.mut (hid_get hg9))).snoc (TEx.mut (hid_get hg9) _ _ he)
          · rw [List.length_append, hRk]; rfl
          · intro r hr
            rcases List.mem_append.mp hr with z | z
            · exact hRo r z
            · rw [List.mem_singleton.mp z]; exact ⟨by show (0 : Int) ≤ lo; omega, by show (lo : Int) + 2 ≤ lo + 2 + u; omega⟩
        · rintro σ H6 ⟨X6, hs6, hr6, ⟨ra2, R, hg6, hR, hRk, hRo⟩, z7, z8, rfl⟩
          rw [List.length_map] at hRk
          refine ⟨_, rfl, .inl ⟨rfl, _, SqL.of (hid_get hr6)⟩, _, rfl, p, a, 9, rfl, by decide, by decide, X6.pool, fun c1 H7 hc1 X7 _ => ⟨_, rfl, _, _, rfl, rfl, ⟨by decide, by decide, by decide⟩, p, a, 10 ^ 20, rfl, by decide, by decide, X7.pool, fun c2 H8 hc2 X8 _ => ⟨(by show 2 ≤ sizeLine; decide), fun l nl => ⟨_, rfl, p, a, 2, rfl, by decide, by decide, (X8.new nl).pool, fun v H9 hv X9 kp => ?_⟩⟩⟩⟩
          obtain ⟨z, hz, hz0⟩ : ∃ z : Int, ([.int c1, .int c2] : List V)[v]? = some (.int z) ∧ 0 ≤ z := by
            have : v = 0 ∨ v = 1 := by omega
            rcases this with rfl | rfl
            · exact ⟨c1, rfl, by omega⟩
            · exact ⟨c2, rfl, by omega⟩
          have X69 := X7.trans ((X8.new nl).trans X9)
          have hg9 := X69.get hg6
          refine ⟨_, _, _, _, rfl, rfl, SqL.of (by rw [kp _ (X8.pool.ne nl)]; exact upd_same), atI_nat hz, _, rfl, _, _, rfl, .inl ⟨SqL.of (hid_get hg9), fun rt' nrt => ⟨(by show 2 ≤ sizeLine; decide), fun e ne => ?_⟩⟩⟩
          have X10 := (X69.new (o := .tup (ra2.map V.ref)) nrt).new (o := .tup [.int z, .ref rt']) ne
          have hrt : upd (upd H9 rt' (.tup (ra2.map V.ref))) e (.tup [.int z, .ref rt']) rt' = some (.tup (ra2.map V.ref)) := Ex.new ne _ _ upd_same
          have he : upd (upd H9 rt' (.tup (ra2.map V.ref))) e (.tup [.int z, .ref rt']) e = some (.tup [.int z, .ref rt']) := upd_same
          generalize upd (upd H9 rt' (.tup (ra2.map V.ref))) e (.tup [.int z, .ref rt']) = H10 at *
          have hs10 := X10.get hs6
          have hr10 := X10.get hr6
          have T10 := TEx.px X10
          have TM : TEx H10 (upd H10 rl (.lst (as.map V.ref ++ [.ref e]))) := TEx.mut (hid_get hr10)
          have X410 := (X6.trans X10)
          refine ⟨rl, as.map V.ref, .ref e, rfl, rfl, hid_get hr10, sz_lt (by rw [List.length_map, hA.1]; omega), (X4.trans X410).mut nrl, (K4.trans (Kx.px X410)).mut nrl hrp hrs, keep1 hs10 hrs.symm hrp, ⟨as ++ [e], rows ++ [(z, R)], ?_, ?_, ?_, ?_⟩, _, _, _, _, rfl⟩
          · rw [hid_new hrp, List.map_append]; rfl
          · exact (hA.imp fun _ _ y => y.te ((TEx.px X410).trans TM)).snoc ⟨rt', ra2, TM _ _ he, TM _ _ hrt, hR.imp fun _ _ y => (T10.trans TM) _ _ y⟩
          · rw [List.length_append, hlen]; rfl
          · intro s hs
            rcases List.mem_append.mp hs with y | y
            · exact hrows s y
            · rw [List.mem_singleton.mp y]; exact ⟨hz0, hRk, hRo⟩
      · rintro σ H4 ⟨X4, K4, hs4, ⟨as, rows, hr4, hA, hlen, hrows⟩, y5, y6, y7, y8, rfl⟩
        have hlen1 : 1 ≤ rows.length ∧ rows.length ≤ 3 := by omega
        refine ⟨_, rfl, .inl ⟨rfl, _, SqL.of (hid_get hs4)⟩, _, rfl, sl, ls.map V.ref, .ref rl, rfl, rfl, hid_get hs4, sz_lt (by rw [List.length_map, hS.1]; omega), (X1.trans X4).mut nsl, ⟨ls ++ [rl], S ++ [rows], ?_, ?_, ?_⟩, _, _, _, _, _, _, rfl⟩
        · rw [hid_new hsp, List.map_append]; rfl
        · have e5 : hid sl (hid p (upd H4 sl (.lst (ls.map V.ref ++ [.ref rl])))) = hid sl (hid p H4) := by rw [hid_upd_ne hsp, hid_upd]
          rw [e5]
          refine (hS.imp fun _ _ z => z.ex K4).snoc ⟨as, by rw [hid_ne hrs]; exact hr4, hA.imp fun _ _ z => ?_⟩
          exact z.te fun q xs hq => tup_hid X4.pool hs4 hq
        · have hlt : (d.gates.take i).length = S.length := hG.cnt.1.symm
          refine ⟨⟨?_, fun k g' rows' h1 h2 => ?_⟩, fun r hr => ?_, fun r hr => ?_, fun r hr => ?_⟩
          · rw [List.length_append, List.length_take, hSl]
            show i + 1 = _
            omega
          · rw [take_snoc1 hg] at h1
            by_cases hk : k < S.length
            · rw [List.getElem?_append_left (by omega)] at h1
              rw [List.getElem?_append_left hk] at h2
              exact hG.cnt.2 k g' rows' h1 h2
            · rw [List.getElem?_append_right (by omega)] at h1
              rw [List.getElem?_append_right (by omega)] at h2
              rw [hlt] at h1
              cases e : k - S.length with
              | zero =>
                rw [e] at h1 h2
                cases h1; cases h2
                exact ⟨fun z => by rw [z] at hlen1; exact absurd hlen1.1 (by decide), fun s hs => (hrows s hs).2.1⟩
              | succ n => rw [e] at h1; exact nomatch h1
          · rcases List.mem_append.mp hr with z | z
            · exact hG.cst r z
            · rw [List.mem_singleton.mp z]; exact fun s hs => (hrows s hs).1
          · rcases List.mem_append.mp hr with z | z
            · exact hG.rng r z
            · rw [List.mem_singleton.mp z]; exact fun s hs => (hrows s hs).2.2
          · rcases List.mem_append.mp hr with z | z
            · exact hG.few r z
            · rw [List.mem_singleton.mp z]; exact hlen1
    · rintro σ H1 ⟨X1, ⟨ls, S, hs1, hS, hG⟩, x3, x4, x5, x6, x7, x8, rfl⟩
      rw [List.length_map, hgl, List.take_length] at hG
      exact ⟨_, rfl, q sl S H1 X1 ⟨ls, hs1, hS.imp fun _ _ z => z.ex hid_ex⟩ hG⟩
end
end G
namespace G
open PySem PySem.Spec PyProof.Rows L2 Evl TL
theorem it1 {b : Bool} {A B : Prop} (h : b = true) (a : A) : if b = true then A else B := by rw [if_pos h]; exact a
theorem it0 {b : Bool} {A B : Prop} (h : b = false) (a : B) : if b = true then A else B := by rw [if_neg (by rw [h]; decide)]; exact a
/-- what isinstance says of the three errors, and that they are caught -/
structure Tri (K : PySem.W.Frag) (D a b c S : Addr) (x y z : Bool) : Prop where
  isc : ExcC K D
  ka : PySem.W.kitOne K (.ref D) (.ref a) = some x
  kb : PySem.W.kitOne K (.ref D) (.ref b) = some y
  kc : PySem.W.kitOne K (.ref D) (.ref c) = some z
  hit : PySem.W.exmOne K (.ref D) (.ref S) = some true
section
variable {P : Program} {w : World} {K : PySem.W.Frag} {mg : Str → Option Value} {base : Heap}
def spTold : Sp := fun vs H Q _ => ∃ (c sl cl : Addr) (d : CircD) (S : List (List SizeD)) (ch : List Int) (it gt rt ot : Addr) (ga ra oa : List Addr), vs = [.ref c, .ref sl, .ref cl] ∧ CircAt H c d it gt rt ot ga ra oa ∧ SizesAt H sl S ∧ H cl = some (.lst (ch.map V.int)) ∧ SzFew S ∧ d.gates.length ≤ 1000 ∧ (∀ g ∈ d.gates, g.name.length ≤ 1000) ∧
  (Cnt0 d.gates S → ch.length = S.length → Cst0 S → Idx S ch → Rng S → False) ∧ (¬ (Cnt0 d.gates S ∧ ch.length = S.length) → ∀ H', Ex H H' → Q (.int 0) H') ∧ (Cnt0 d.gates S → ch.length = S.length → ¬ (Cst0 S ∧ Idx S ch) → ∀ H', Ex H H' → Q (.int 1) H') ∧ (Cnt0 d.gates S → ch.length = S.length → Cst0 S → Idx S ch → ¬ Rng S → ∀ H', Ex H H' → Q (.int 2) H')
theorem sc_law_told : FnScope ["circuit", "sizes", "choice", "e"] ["circuit", "sizes", "choice"] (defScope s_law_told) := ⟨rfl, rfl, rfl, by decide +kernel, rfl, by decide +kernel, by decide +kernel⟩
theorem ok_law_told {D_WrongCount D_BadArgument D_BadRange S : Addr} (D : Dfd K mg "_law_told" s_law_told ["circuit", "sizes", "choice"]) (T : TxtS mg) (g_WrongCount : mg "WrongCount" = some (.ref D_WrongCount)) (g_BadArgument : mg "BadArgument" = some (.ref D_BadArgument)) (g_BadRange : mg "BadRange" = some (.ref D_BadRange)) (g_SignoffError : mg "SignoffError" = some (.ref S))
    (tW : Tri K D_WrongCount D_WrongCount D_BadArgument D_BadRange S true false false) (tB : Tri K D_BadArgument D_WrongCount D_BadArgument D_BadRange S false true false) (tR : Tri K D_BadRange D_WrongCount D_BadArgument D_BadRange S false false true)
    (C1 : HasX P w K mg base 3 "sized" ["circuit", "sizes", "choice"] (spSized D_WrongCount D_BadArgument D_BadRange)) : Has P w K mg base 4 "_law_told" ["circuit", "sizes", "choice"] spTold := by
  obtain ⟨f_sized, d_sized, G_sized, g_sized, k_sized, b_sized⟩ := C1
  refine D.has fun f fd F => F.ok sc_law_told (fun vs H Q E h => ?_) (fun cdv A outer s H vs Q E hr h => ?_)
  · obtain ⟨c, sl, cl, d, S, ch, it, gt, rt, ot, ga, ra, oa, rfl, _⟩ := h
    rfl
  · obtain ⟨c, sl, cl, d, Sz, ch, it, gt, rt, ot, ga, ra, oa, rfl, hc, hS, hcl, few, hn, hnm, no, q0, q1, q2⟩ := h
    refine ⟨_, (pss_cons (ps_try_as (c := .ref S) (i := 3) rfl rfl sc_law_told.nd rfl rfl ⟨rfl, by decide, .inl g_SignoffError⟩ takes0
      (fun W pn xe tk hp => (pss_one (ps_expr (pe_callS G_sized (hr.mono (by omega)) rfl g_sized k_sized b_sized (fun σ => passAt tk σ) (pa_cons (pv 0) (pa_cons (pv 1) (pa_cons (pv 2) pa_nil)))))))
      (fun a oe cls dd pn hz hf => (pss_one (ps_ret (kBm (K := K) rfl PySem.F.plainAttrs_list PySem.F.slot_list_index PySem.F.type_list_index (kMtIndex (K := K) rfl) (pe_lst (pa_cons (pe_isE hz hf (fun D hz1 ic => pe_callB (call_isE ic hz1 hf) (by rfl) T.isinstance (by decide +kernel) (pa_cons (pv 3) (pa_cons (gRef rfl g_WrongCount) pa_nil)))) (pa_cons (pe_isE hz hf (fun D hz1 ic => pe_callB (call_isE ic hz1 hf) (by rfl) T.isinstance (by decide +kernel) (pa_cons (pv 3) (pa_cons (gRef rfl g_BadArgument) pa_nil)))) (pa_cons (pe_isE hz hf (fun D hz1 ic => pe_callB (call_isE ic hz1 hf) (by rfl) T.isinstance (by decide +kernel) (pa_cons (pv 3) (pa_cons (gRef rfl g_BadRange) pa_nil)))) pa_nil)))) (pa_cons pe_bl pa_nil))))))
    (pss_one (ps_ret (pe_un un_neg pe_int)))), ?_⟩
    refine ⟨_, rfl, _, rfl, _, rfl, c, sl, cl, d, Sz, ch, it, gt, rt, ot, ga, ra, oa, rfl, hc, hS, hcl, few, hn, hnm, fun h1 h2 h3 h4 h5 => (no h1 h2 h3 h4 h5).elim, fun z H1 E1 => ⟨true, tW.hit, fun _ a na => ?_, fun q => nomatch q⟩, fun h1 h2 z H1 E1 => ⟨true, tB.hit, fun _ a na => ?_, fun q => nomatch q⟩, fun h1 h2 h3 h4 z H1 E1 => ⟨true, tR.hit, fun _ a na => ?_, fun q => nomatch q⟩⟩
    · refine ⟨_, ⟨rfl, rfl, tW.isc⟩, _, rfl, .ref D_WrongCount, .ref D_WrongCount, true, rfl, (fun u hu => hu), tW.ka, _, ⟨rfl, rfl, tW.isc⟩, _, rfl, .ref D_BadArgument, .ref D_BadArgument, false, rfl, (fun u hu => hu), tW.kb, _, ⟨rfl, rfl, tW.isc⟩, _, rfl, .ref D_BadRange, .ref D_BadRange, false, rfl, (fun u hu => hu), tW.kc, (by show 3 ≤ sizeLine; decide), fun l nl => ⟨.inl ⟨rfl, _, SqL.of upd_same⟩, l, _, .bl true, 0, .bl true, rfl, rfl, SqL.of upd_same, rfl, rfl, rfl, rfl, (fun m _ h => absurd h (Nat.not_lt_zero _)), q0 z _ (E1.trans (Ex.new nl))⟩⟩
    · refine ⟨_, ⟨rfl, rfl, tB.isc⟩, _, rfl, .ref D_WrongCount, .ref D_WrongCount, false, rfl, (fun u hu => hu), tB.ka, _, ⟨rfl, rfl, tB.isc⟩, _, rfl, .ref D_BadArgument, .ref D_BadArgument, true, rfl, (fun u hu => hu), tB.kb, _, ⟨rfl, rfl, tB.isc⟩, _, rfl, .ref D_BadRange, .ref D_BadRange, false, rfl, (fun u hu => hu), tB.kc, (by show 3 ≤ sizeLine; decide), fun l nl => ⟨.inl ⟨rfl, _, SqL.of upd_same⟩, l, _, .bl true, 1, .bl true, rfl, rfl, SqL.of upd_same, rfl, rfl, rfl, rfl, (fun m z' h e => by
        have : m = 0 := by omega
        subst this; cases e; rfl), q1 h1 h2 z _ (E1.trans (Ex.new nl))⟩⟩
    · refine ⟨_, ⟨rfl, rfl, tR.isc⟩, _, rfl, .ref D_WrongCount, .ref D_WrongCount, false, rfl, (fun u hu => hu), tR.ka, _, ⟨rfl, rfl, tR.isc⟩, _, rfl, .ref D_BadArgument, .ref D_BadArgument, false, rfl, (fun u hu => hu), tR.kb, _, ⟨rfl, rfl, tR.isc⟩, _, rfl, .ref D_BadRange, .ref D_BadRange, true, rfl, (fun u hu => hu), tR.kc, (by show 3 ≤ sizeLine; decide), fun l nl => ⟨.inl ⟨rfl, _, SqL.of upd_same⟩, l, _, .bl true, 2, .bl true, rfl, rfl, SqL.of upd_same, rfl, rfl, rfl, rfl, (fun m z' h e => by
        have : m = 0 ∨ m = 1 := by omega
        rcases this with rfl | rfl <;> cases e <;> rfl), q2 h1 h2 h3 h4 z _ (E1.trans (Ex.new nl))⟩⟩
end
/-! ### the faults -/
inductive Fault : Nat → List (List SizeD) → List Int → List (List SizeD) → List Int → Prop
  | same {n : Nat} {S : List (List SizeD)} {ch : List Int} {i : Nat} (h : S[i]? = some []) : Fault n S ch S ch
  | c0 {S : List (List SizeD)} {ch : List Int} : Fault 0 S ch (S ++ [[(1, [])]]) ch
  | c1 {S : List (List SizeD)} {ch : List Int} {i : Nat} (h : i < S.length) : Fault 0 S ch (S.set i []) ch
  | c2 {S : List (List SizeD)} {ch : List Int} {i : Nat} {s : SizeD} {r : List SizeD} (h : S[i]? = some (s :: r)) : Fault 0 S ch (S.set i (s :: r ++ [(1, s.2 ++ [(0, 9)])])) ch
  | c3 {S : List (List SizeD)} {ch : List Int} : Fault 0 S ch S (ch ++ [0])
  | ix {S : List (List SizeD)} {ch : List Int} {i : Nat} {r : List SizeD} {z : Int} (h : S[i]? = some r) (hz : z = r.length ∨ z = -1) : Fault 1 S ch S (ch.set i z)
  | ng {S : List (List SizeD)} {ch : List Int} {i : Nat} {s : SizeD} {r : List SizeD} {z : Int} (h : S[i]? = some (s :: r)) (hz : z < 0) : Fault 1 S ch (S.set i (s :: r ++ [(z, s.2)])) ch
  | rg {S : List (List SizeD)} {ch : List Int} {i : Nat} {s : SizeD} {r : List SizeD} {b : Int × Int} (h : S[i]? = some (s :: r)) (hb : ¬ okR b) : Fault 2 S ch (S.set i (s :: r ++ [(1, List.replicate s.2.length b)])) ch
def SzB (S : List (List SizeD)) (N : Nat) : Prop := S.length ≤ N ∧ ∀ rows ∈ S, rows.length ≤ N ∧ ∀ s ∈ rows, s.2.length ≤ N
theorem mem_set_or {α : Type} {l : List α} {i : Nat} {x y : α} (h : y ∈ l.set i x) : y = x ∨ y ∈ l := (List.mem_or_eq_of_mem_set h).symm
theorem szB_set {S : List (List SizeD)} {N i : Nat} {s x : SizeD} {r : List SizeD} (hB : SzB S N) (h : S[i]? = some (s :: r)) (hx : x.2.length ≤ N + 1) : SzB (S.set i (s :: r ++ [x])) (N + 1) := by
  refine ⟨by rw [List.length_set]; have := hB.1; omega, fun rows hr => ?_⟩
  rcases mem_set_or hr with rfl | hr
  · have := hB.2 _ (List.mem_of_getElem? h)
    refine ⟨?_, fun y hy => ?_⟩
    · have := this.1
      simp only [List.length_append, List.length_cons, List.length_nil] at this ⊢; omega
    · rcases List.mem_append.mp hy with z | z
      · have := this.2 y z; omega
      · rw [List.mem_singleton.mp z]; exact hx
  · have := hB.2 rows hr
    exact ⟨by omega, fun y hy => by have := this.2 y hy; omega⟩
theorem fault_B {n : Nat} {S S' : List (List SizeD)} {ch ch' : List Int} (f : Fault n S ch S' ch') {N : Nat} (hB : SzB S N) (hc : ch.length ≤ N) (hN : 1 ≤ N) : SzB S' (N + 1) ∧ ch'.length ≤ N + 1 := by
  have up : SzB S (N + 1) := ⟨by have := hB.1; omega, fun rows hr => by
    have := hB.2 rows hr
    exact ⟨by omega, fun y hy => by have := this.2 y hy; omega⟩⟩
  cases f with
  | same => exact ⟨up, by omega⟩
  | c0 =>
    refine ⟨⟨by rw [List.length_append]; have := hB.1; show S.length + 1 ≤ _; omega, fun rows hr => ?_⟩, by omega⟩
    rcases List.mem_append.mp hr with z | z
    · exact up.2 rows z
    · rw [List.mem_singleton.mp z]
      exact ⟨by show 1 ≤ _; omega, fun y hy => by rw [List.mem_singleton.mp hy]; exact Nat.zero_le _⟩
  | c1 h =>
    refine ⟨⟨by rw [List.length_set]; exact up.1, fun rows hr => ?_⟩, by omega⟩
    rcases mem_set_or hr with rfl | hr
    · exact ⟨Nat.zero_le _, fun y hy => nomatch hy⟩
    · exact up.2 rows hr
  | c2 h => exact ⟨szB_set hB h (by
      have := (hB.2 _ (List.mem_of_getElem? h)).2 _ (List.mem_cons_self ..)
      show (_ ++ [((0 : Int), (9 : Int))]).length ≤ _
      rw [List.length_append, List.length_singleton]
      omega), by omega⟩
  | c3 => exact ⟨up, by rw [List.length_append]; show _ + 1 ≤ _; omega⟩
  | ix h hz => exact ⟨up, by rw [List.length_set]; omega⟩
  | ng h hz => exact ⟨szB_set hB h (by
      have := (hB.2 _ (List.mem_of_getElem? h)).2 _ (List.mem_cons_self ..)
      exact Nat.le_succ_of_le this), by omega⟩
  | rg h hb => exact ⟨szB_set hB h (by
      have := (hB.2 _ (List.mem_of_getElem? h)).2 _ (List.mem_cons_self ..)
      rw [List.length_replicate]; omega), by omega⟩
def B0 (gs : List GateD) (S : List (List SizeD)) (ch : List Int) : Prop := gs.length < S.length ∨ gs.length < ch.length ∨ ∃ (k : Nat) (g : GateD) (rows : List SizeD), gs[k]? = some g ∧ S[k]? = some rows ∧ ¬ rowOk g.pins.length rows
theorem B0_bad {gs : List GateD} {S : List (List SizeD)} {ch : List Int} (h : B0 gs S ch) : ¬ (Cnt0 gs S ∧ ch.length = S.length) := by
  rintro ⟨⟨h1, h2⟩, h3⟩
  rcases h with z | z | ⟨k, g, rows, a, b, c⟩
  · omega
  · omega
  · exact c (h2 k g rows a b)
theorem gate_at {gs : List GateD} {S : List (List SizeD)} (h : Cnt0 gs S) {i : Nat} {r : List SizeD} (e : S[i]? = some r) : ∃ g, gs[i]? = some g ∧ rowOk g.pins.length r := by
  have hi : i < gs.length := by rw [← h.1]; exact (List.getElem?_eq_some_iff.mp e).1
  exact ⟨gs[i], List.getElem?_eq_getElem hi, h.2 i _ r (List.getElem?_eq_getElem hi) e⟩
theorem fault0 {gs : List GateD} {S S' : List (List SizeD)} {ch ch' : List Int} (f : Fault 0 S ch S' ch') (h : (Cnt0 gs S ∧ ch.length = S.length) ∨ B0 gs S ch) : B0 gs S' ch' := by
  generalize hn : 0 = n at f
  cases f with
  | @same _ _ _ i e =>
    rcases h with h | h
    · obtain ⟨g, _, ho⟩ := gate_at h.1 e
      exact absurd rfl ho.1
    · exact h
  | c0 =>
    rcases h with h | h | h | ⟨k, g, rows, a, b, c⟩
    · exact .inl (by rw [List.length_append, h.1.1]; show gs.length < gs.length + 1; omega)
    · exact .inl (by rw [List.length_append]; omega)
    · exact .inr (.inl h)
    · exact .inr (.inr ⟨k, g, rows, a, by rw [List.getElem?_append_left (List.getElem?_eq_some_iff.mp b).1]; exact b, c⟩)
  | @c1 _ _ i e =>
    by_cases hi : i < gs.length
    · exact .inr (.inr ⟨i, gs[i], [], List.getElem?_eq_getElem hi, by rw [List.getElem?_set_self e], fun z => z.1 rfl⟩)
    · exact .inl (by rw [List.length_set]; omega)
  | @c2 _ _ i s r e =>
    have hi := (List.getElem?_eq_some_iff.mp e).1
    rcases h with h | h | h | ⟨k, g, rows, a, b, c⟩
    · obtain ⟨g, hg, ho⟩ := gate_at h.1 e
      refine .inr (.inr ⟨i, g, _, hg, List.getElem?_set_self hi, fun z => ?_⟩)
      have h1 := z.2 (1, s.2 ++ [(0, 9)]) (List.mem_append.mpr (.inr (List.mem_singleton.mpr rfl)))
      have h2 := ho.2 s (List.mem_cons_self ..)
      rw [List.length_append] at h1
      have : s.2.length + 1 = g.pins.length := h1
      omega
    · exact .inl (by rw [List.length_set]; exact h)
    · exact .inr (.inl h)
    · by_cases hk : k = i
      · subst hk
        rw [e] at b
        cases b
        refine .inr (.inr ⟨k, g, _, a, List.getElem?_set_self hi, fun z => c ⟨by simp, fun y hy => z.2 y (List.mem_append.mpr (.inl hy))⟩⟩)
      · exact .inr (.inr ⟨k, g, rows, a, by rw [List.getElem?_set_ne (fun z => hk z.symm)]; exact b, c⟩)
  | c3 =>
    rcases h with h | h | h | h
    · exact .inr (.inl (by rw [List.length_append, h.2, h.1.1]; show gs.length < gs.length + 1; omega))
    · exact .inl h
    · exact .inr (.inl (by rw [List.length_append]; omega))
    · exact .inr (.inr h)
  | ix => cases hn
  | ng => cases hn
  | rg => cases hn
theorem cnt_set {gs : List GateD} {S : List (List SizeD)} (h : Cnt0 gs S) {i : Nat} {s x : SizeD} {r : List SizeD} (e : S[i]? = some (s :: r)) (hx : x.2.length = s.2.length) : Cnt0 gs (S.set i (s :: r ++ [x])) := by
  obtain ⟨g, hg, ho⟩ := gate_at h e
  refine ⟨by rw [List.length_set]; exact h.1, fun k g' rows h1 h2 => ?_⟩
  by_cases hk : k = i
  · subst hk
    rw [hg] at h1
    cases h1
    rw [List.getElem?_set_self (List.getElem?_eq_some_iff.mp e).1] at h2
    cases h2
    refine ⟨by simp, fun y hy => ?_⟩
    rcases List.mem_append.mp hy with z | z
    · exact ho.2 y z
    · rw [List.mem_singleton.mp z, hx]; exact ho.2 s (List.mem_cons_self ..)
  · rw [List.getElem?_set_ne (fun z => hk z.symm)] at h2
    exact h.2 k g' rows h1 h2
theorem fault1 {gs : List GateD} {S S' : List (List SizeD)} {ch ch' : List Int} (f : Fault 1 S ch S' ch') (h : Cnt0 gs S) (hl : ch.length = S.length) : Cnt0 gs S' ∧ ch'.length = S'.length ∧ ¬ (Cst0 S' ∧ Idx S' ch') := by
  generalize hn : 1 = n at f
  cases f with
  | @same _ _ _ i e =>
    obtain ⟨g, _, ho⟩ := gate_at h e
    exact absurd rfl ho.1
  | c0 => cases hn
  | c1 => cases hn
  | c2 => cases hn
  | c3 => cases hn
  | @ix _ _ i r z e hz =>
    have hi := (List.getElem?_eq_some_iff.mp e).1
    refine ⟨h, by rw [List.length_set]; exact hl, fun y => ?_⟩
    have := y.2 i r z e (List.getElem?_set_self (by omega))
    omega
  | @ng _ _ i s r z e hz =>
    have hi := (List.getElem?_eq_some_iff.mp e).1
    refine ⟨cnt_set h e rfl, by rw [List.length_set]; exact hl, fun y => ?_⟩
    have := y.1 _ (List.mem_of_getElem? (List.getElem?_set_self hi)) (z, s.2) (List.mem_append.mpr (.inr (List.mem_singleton.mpr rfl)))
    have : 0 ≤ z := this
    omega
  | rg => cases hn
theorem fault2 {gs : List GateD} {S S' : List (List SizeD)} {ch ch' : List Int} (f : Fault 2 S ch S' ch') (h : Cnt0 gs S) (hl : ch.length = S.length) (hc : Cst0 S) (hx : Idx S ch) (hp : ∀ g ∈ gs, g.pins ≠ []) : Cnt0 gs S' ∧ ch'.length = S'.length ∧ Cst0 S' ∧ Idx S' ch' ∧ ¬ Rng S' := by
  generalize hn : 2 = n at f
  cases f with
  | @same _ _ _ i e =>
    obtain ⟨g, _, ho⟩ := gate_at h e
    exact absurd rfl ho.1
  | c0 => cases hn
  | c1 => cases hn
  | c2 => cases hn
  | c3 => cases hn
  | ix => cases hn
  | ng => cases hn
  | @rg _ _ i s r b e hb =>
    have hi := (List.getElem?_eq_some_iff.mp e).1
    obtain ⟨g, hg, ho⟩ := gate_at h e
    have hs := ho.2 s (List.mem_cons_self ..)
    have hpos : s.2.length ≠ 0 := by
      rw [hs]
      intro z
      exact hp g (List.mem_of_getElem? hg) (List.length_eq_zero_iff.mp z)
    refine ⟨cnt_set h e (by rw [List.length_replicate]), by rw [List.length_set]; exact hl, fun rows hr => ?_, fun k rows z h1 h2 => ?_, fun y => ?_⟩
    · rcases mem_set_or hr with rfl | hr
      · intro y hy
        rcases List.mem_append.mp hy with z | z
        · exact hc _ (List.mem_of_getElem? e) y z
        · rw [List.mem_singleton.mp z]; show (0 : Int) ≤ 1; decide
      · exact hc rows hr
    · by_cases hk : k = i
      · subst hk
        rw [List.getElem?_set_self hi] at h1
        cases h1
        have := hx k _ z e h2
        rw [List.length_append]
        refine ⟨this.1, ?_⟩
        have h3 := this.2
        show z < (((s :: r).length + 1 : Nat) : Int)
        omega
      · rw [List.getElem?_set_ne (fun z => hk z.symm)] at h1
        exact hx k rows z h1 h2
    · refine hb (y _ (List.mem_of_getElem? (List.getElem?_set_self hi)) (1, List.replicate s.2.length b) (List.mem_append.mpr (.inr (List.mem_singleton.mpr rfl))) b ?_)
      exact List.mem_replicate.mpr ⟨hpos, rfl⟩
end G
namespace G
open PySem PySem.Spec PyProof.Rows L2 Evl TL
def szP (s : SizeD) : PyData := .tuple [.int s.1, .tuple (s.2.map pairP)]
theorem dp_sz {K : PySem.W.Frag} {H : Hp} {a : Addr} {s : SizeD} (h : SzAt H a s) : Dp K H (.ref a) (szP s) := by
  obtain ⟨rt, rl, h1, h2, h3⟩ := h
  exact .tup (SqT.of h1) (.cons (.int _) (.cons (.tup (SqT.of h2) (dpAll_all2 (fun _ _ z => dp_pairT z) h3)) .nil))
theorem dp_ls {K : PySem.W.Frag} {H : Hp} {a : Addr} {rows : List SizeD} (h : LsAt H a rows) : Dp K H (.ref a) (.list (rows.map szP)) := by
  obtain ⟨as, h1, h2⟩ := h
  exact .lst (SqL.of h1) (dpAll_all2 (fun _ _ z => dp_sz z) h2)
theorem shaped_ls (rows : List SizeD) : SeqAt.shaped (.list (rows.map szP)) = true := by
  have h := lay_map (f := szP) (n := 3) (l := rows) fun s _ => by
    have := lay_map (f := pairP) (n := 1) (l := s.2) fun p _ => ⟨by simp [pairP, PyData.canLay0, PyData.canLayAll0], by simp [pairP, PyData.depth, PyData.depthAll]⟩
    refine ⟨by simp [szP, PyData.canLay0, PyData.canLayAll0, this.1], ?_⟩
    simp only [szP, PyData.depth, PyData.depthAll]
    have := this.2
    omega
  unfold SeqAt.shaped
  rw [Bool.and_eq_true]
  refine ⟨by simp [PyData.canLay0, h.1], decide_eq_true ?_⟩
  simp only [PyData.depth]
  have := h.2
  omega
theorem eqv_rows_nil (rows : List SizeD) : PyData.eqv (.list (rows.map szP)) (.list []) = rows.isEmpty := by
  cases rows with
  | nil => rfl
  | cons s r => simp [PyData.eqv, PyData.eqvAll]
def rListOf (K : PySem.W.Frag) : List V → Hp → VK → Prop := fun xs H Q => ∃ p ys, xs = [.ref p] ∧ (SqL K H p ys ∨ SqT K H p ys) ∧ ∀ l, H l = none → Q (.ref l) (upd H l (.lst ys))
theorem kListOf {X : Cx} {K : PySem.W.Frag} (h : X.K = K) : CallR X (.type "list") (rListOf K) := by subst h; exact call_list_of
theorem All2.set {α β : Type} {R : α → β → Prop} {as : List α} {bs : List β} (h : All2 R as bs) {i : Nat} {a : α} {b : β} (r : R a b) : All2 R (as.set i a) (bs.set i b) := by
  refine ⟨by rw [List.length_set, List.length_set]; exact h.1, fun k x y hx hy => ?_⟩
  by_cases hk : k = i
  · subst hk
    have h1 : k < as.length := by have := (List.getElem?_eq_some_iff.mp hx).1; rwa [List.length_set] at this
    rw [List.getElem?_set_self h1] at hx
    rw [List.getElem?_set_self (h.1 ▸ h1)] at hy
    cases hx; cases hy; exact r
  · rw [List.getElem?_set_ne (fun z => hk z.symm)] at hx hy
    exact h.2 k x y hx hy
theorem refs_set {as : List Addr} {i : Nat} {a : Addr} : (as.map V.ref).set i (.ref a) = (as.set i a).map V.ref := by rw [List.map_set]
section
variable {P : Program} {w : World} {K : PySem.W.Frag} {mg : Str → Option Value} {base : Heap}
def spFault : Sp := fun vs H Q _ => ∃ (p a sl cl : Addr) (S : List (List SizeD)) (ch : List Int) (n : Nat), vs = [.ref p, .ref sl, .ref cl, .int n] ∧ n ≤ 2 ∧ PoolOk p a H ∧ SizesAt (hid p H) sl S ∧ hid p H cl = some (.lst (ch.map V.int)) ∧ SzB S 30 ∧ ch.length ≤ 30 ∧ 0 < S.length ∧ (1 ≤ n → S.length ≤ ch.length) ∧
  ∀ (r sl' cl' : Addr) (S' : List (List SizeD)) (ch' : List Int) (H' : Hp), Px p a H H' → hid p H' r = some (.lst [.ref sl', .ref cl']) → SizesAt (hid p H') sl' S' → hid p H' cl' = some (.lst (ch'.map V.int)) → Fault n S ch S' ch' → Q (.ref r) H'
theorem sc_law_fault : FnScope ["pool", "sizes", "choice", "kind", "at", "form", "many", "rows", "k"] ["pool", "sizes", "choice", "kind"] (defScope s_law_fault) := ⟨rfl, rfl, rfl, by decide +kernel, rfl, by decide +kernel, by decide +kernel⟩
theorem ok_law_fault (D : Dfd K mg "_law_fault" s_law_fault ["pool", "sizes", "choice", "kind"]) (T : TxtS mg) (C1 : Has P w K mg base 2 "_law_draw" ["pool", "many"] spDrawX) : Has P w K mg base 3 "_law_fault" ["pool", "sizes", "choice", "kind"] spFault := by
  obtain ⟨f_law_draw, d_law_draw, G_law_draw, g_law_draw, k_law_draw, b_law_draw⟩ := C1
  refine D.has fun f fd F => F.ok sc_law_fault (fun vs H Q E h => ?_) (fun cdv A outer s H vs Q E hr h => ?_)
  · obtain ⟨p, a, sl, cl, S, ch, n, rfl, _⟩ := h
    rfl
  · obtain ⟨p, a, sl, cl, S, ch, n, rfl, hn, hp, ⟨ls, hsl, hls⟩, hcl, hB, hcn, hpos, hlc, q⟩ := h
    refine ⟨_, (pss_cons (ps_setLc (i := 1) (own := [("rows", 7)]) (g := gName 7) (tt := tYes) rfl sc_law_fault.nd rfl rfl (sw_true rfl rfl rfl (by decide +kernel)) (pi_list (pv 1)) (blkOk_by (N := ["pool", "sizes", "choice", "kind", "at", "form", "many", "rows", "k"]) (sc := defScope s_law_fault) (own := [("rows", 7)]) (by decide +kernel)) (fun _ _ _ _ _ => (pg_name (i := 7) sc_law_fault.nd rfl (.inl rfl))) (fun _ _ _ _ _ => pts_nil) (fun _ _ _ _ _ => (pe_callTy (kListOf (K := K) rfl) (by rfl) T.list (by decide +kernel) (pa_cons (pv 7) pa_nil))))
    (pss_cons (ps_set (i := 2) sc_law_fault.nd rfl (.inl rfl) (pe_callTy call_list_of (by rfl) T.list (by decide +kernel) (pa_cons (pv 2) pa_nil)))
    (pss_cons (ps_set (i := 4) sc_law_fault.nd rfl (.inl rfl) (pe_call G_law_draw (hr.mono (by omega)) (by rfl) g_law_draw k_law_draw b_law_draw .nil pass0 (pa_cons (pv 0) (pa_cons (pe_callB call_len_seq (by rfl) T.len (by decide +kernel) (pa_cons (pv 1) pa_nil)) pa_nil))))
    (pss_cons (ps_set (i := 5) sc_law_fault.nd rfl (.inr rfl) (pe_call G_law_draw (hr.mono (by omega)) (by rfl) g_law_draw k_law_draw b_law_draw .nil pass0 (pa_cons (pv 0) (pa_cons pe_int pa_nil))))
    (pss_cons (ps_if (pt_cmpR (op_eqD hr.units) (pe_ix ix_list (pv 1) (pv 4) (fun _ _ => rfl)) (pe_lst pa_nil) (nomark _))
      (pss_one (ps_ret (pe_lst (pa_cons (pv 1) (pa_cons (pv 2) pa_nil)))))
      pss_nil)
    (pss_cons (ps_if (pt_cmpR op_eq (pv 3) pe_int (nomark _))
      (pss_cons (ps_if (pt_cmpR op_eq (pv 5) pe_int (nomark _))
        (pss_one (ps_ret (pe_lst (pa_cons (pe_op op_cat (pv 1) (pe_lst (pa_cons (pe_lst (pa_cons (pe_tup (pa_cons pe_int (pa_cons (pe_tup pa_nil) pa_nil))) pa_nil)) pa_nil))) (pa_cons (pv 2) pa_nil)))))
        pss_nil)
      (pss_cons (ps_if (pt_cmpR op_eq (pv 5) pe_int (nomark _))
        (pss_one (ps_asg (pe_lst pa_nil) (pg_sub (pv 1) (pv 4) set_list)))
        pss_nil)
      (pss_cons (ps_if (pt_cmpR op_eq (pv 5) pe_int (nomark _))
        (pss_one (ps_asg (pe_op op_cat (pe_ix ix_list (pv 1) (pv 4) (fun _ _ => rfl)) (pe_lst (pa_cons (pe_tup (pa_cons pe_int (pa_cons (pe_op op_catA (pe_ix ix_tup (pe_ix ix_list (pe_ix ix_list (pv 1) (pv 4) (fun _ _ => rfl)) pe_int (fun _ _ => rfl)) pe_int (fun _ _ => rfl)) (pe_tup (pa_cons (pe_tup (pa_cons pe_int (pa_cons pe_int pa_nil))) pa_nil))) pa_nil))) pa_nil))) (pg_sub (pv 1) (pv 4) set_list)))
        pss_nil)
      (pss_one (ps_if (pt_cmpR op_eq (pv 5) pe_int (nomark _))
        (pss_one (ps_ret (pe_lst (pa_cons (pv 1) (pa_cons (pe_op op_cat (pv 2) (pe_lst (pa_cons pe_int pa_nil))) pa_nil)))))
        pss_nil)))))
      pss_nil)
    (pss_cons (ps_if (pt_cmpR op_eq (pv 3) pe_int (nomark _))
      (pss_one (ps_if (pt_cmpR op_lt (pv 5) pe_int (nomark _))
        (pss_one (ps_asg (pe_ix ix_list (pe_lst (pa_cons (pe_callB call_len_seq (by rfl) T.len (by decide +kernel) (pa_cons (pe_ix ix_list (pv 1) (pv 4) (fun _ _ => rfl)) pa_nil)) (pa_cons (pe_un un_neg pe_int) pa_nil))) (pv 5) (fun _ _ => rfl)) (pg_sub (pv 2) (pv 4) set_list)))
        (pss_one (ps_asg (pe_op op_cat (pe_ix ix_list (pv 1) (pv 4) (fun _ _ => rfl)) (pe_lst (pa_cons (pe_tup (pa_cons (pe_op op_sub (pe_un un_neg pe_int) (pv 5)) (pa_cons (pe_ix ix_tup (pe_ix ix_list (pe_ix ix_list (pv 1) (pv 4) (fun _ _ => rfl)) pe_int (fun _ _ => rfl)) pe_int (fun _ _ => rfl)) pa_nil))) pa_nil))) (pg_sub (pv 1) (pv 4) set_list)))))
      pss_nil)
    (pss_cons (ps_if (pt_cmpR op_eq (pv 3) pe_int (nomark _))
      (pss_cons (ps_set (i := 6) sc_law_fault.nd rfl (.inl rfl) (pe_callB call_len_seq (by rfl) T.len (by decide +kernel) (pa_cons (pe_ix ix_tup (pe_ix ix_list (pe_ix ix_list (pv 1) (pv 4) (fun _ _ => rfl)) pe_int (fun _ _ => rfl)) pe_int (fun _ _ => rfl)) pa_nil)))
      (pss_one (ps_asg (pe_op op_cat (pe_ix ix_list (pv 1) (pv 4) (fun _ _ => rfl)) (pe_lst (pa_cons (pe_tup (pa_cons pe_int (pa_cons (pe_callTy call_tuple_of (by rfl) T.tuple (by decide +kernel) (pa_cons (pe_lc (own := [("k", 8)]) (g := gName 8) (tt := tYes) rfl sc_law_fault.nd (pi_range1 rfl T.range (pa_cons (pv 6) pa_nil)) (blkOk_by (N := ["pool", "sizes", "choice", "kind", "at", "form", "many", "rows", "k"]) (sc := defScope s_law_fault) (own := [("k", 8)]) (by decide +kernel)) (fun _ _ _ _ _ => (pg_name (i := 8) sc_law_fault.nd rfl (.inl rfl))) (fun _ _ _ _ _ => pts_nil) (fun _ _ _ _ _ => (pe_ix (kIxL (K := K) rfl) (pe_lst (pa_cons (pe_tup (pa_cons (pe_un un_neg pe_int) (pa_cons pe_int pa_nil))) (pa_cons (pe_tup (pa_cons pe_int (pa_cons pe_int pa_nil))) (pa_cons (pe_tup (pa_cons pe_int (pa_cons pe_int pa_nil))) (pa_cons (pe_tup (pa_cons (pe_un un_neg pe_int) (pa_cons (pe_un un_neg pe_int) pa_nil))) pa_nil))))) (pv 5) (fun _ _ => rfl)))) pa_nil)) pa_nil))) pa_nil))) (pg_sub (pv 1) (pv 4) set_list))))
      pss_nil)
    (pss_one (ps_ret (pe_lst (pa_cons (pv 1) (pa_cons (pv 2) pa_nil))))))))))))), ?_⟩
    -- the lists anew
    refine ⟨_, rfl, sl, rfl, ⟨_, SqL.of (hid_get hsl)⟩, fun L nL => wk_list (K := K) (a := sl) (xs := ls.map V.ref) (fun j H' => Ex H H' ∧ ∃ as : List Addr, H' L = some (.lst (as.map V.ref)) ∧ All2 (LsAt (hid L (hid p H'))) as (S.take j)) ⟨Ex.new nL, [], upd_same, .nil⟩ (fun j H' _ z => SqL.of (z.1 _ _ (hid_get hsl))) ?_ ?_⟩
    · rintro j y H1 hy ⟨E1, as, hL, hA⟩
      obtain ⟨l, hl, rfl⟩ := refs_get hy
      obtain ⟨rows, hrows, rs, b1, b2⟩ := hls.at_ hl
      have hj : j < S.length := (List.getElem?_eq_some_iff.mp hrows).1
      refine ⟨rfl, tYes_in ?_⟩
      simp only [wipe, _root_.L2.start, List.map_cons, List.map_nil, List.length_cons, List.length_nil, Nat.reduceAdd, Nat.reduceSub, List.replicate_succ, List.replicate_zero, List.cons_append, List.nil_append, List.set_cons_zero, List.set_cons_succ]
      refine ⟨_, rfl, _, _, rfl, .inl (SqL.of (E1 _ _ (hid_get b1))), fun nl nnl => ?_⟩
      have E2 : Ex H1 (upd H1 nl (.lst (rs.map V.ref))) := Ex.new nnl
      have hnl : upd H1 nl (.lst (rs.map V.ref)) nl = some (.lst (rs.map V.ref)) := upd_same
      have nLl : nl ≠ L := (ne_of_none hL nnl).symm
      have nlp : nl ≠ p := (hp.kept E1).ne nnl
      have hP2 := (hp.kept E1).kept E2
      generalize upd H1 nl (.lst (rs.map V.ref)) = H2 at *
      have hL2 := E2 _ _ hL
      have hLp : L ≠ p := hp.ne nL
      have hL2p : hid p H2 L = some (.lst (as.map V.ref)) := by rw [hid_ne hLp]; exact hL2
      have := hB.1
      refine ⟨_, hL2, sz_lt (by rw [List.length_map, hA.1, List.length_take]; omega), (E1.trans E2).mut nL, as ++ [nl], by rw [upd_same, List.map_append]; rfl, ?_⟩
      rw [hid_upd_ne hLp, hid_upd, take_snoc1 hrows]
      refine (hA.imp fun _ _ z => z.ex (exHid (exHid E2))).snoc ⟨rs, by rw [hid_ne nLl, hid_ne nlp]; exact hnl, b2.imp fun _ _ z => ?_⟩
      have z1 := (z.ex hid_ex).ex (E1.trans E2)
      exact z1.te fun q xs hq => tup_hid hP2 hL2p hq
    rintro H1 ⟨E1, as, hL, hA⟩
    rw [List.length_map, hls.1, List.take_length] at hA
    have hLp : L ≠ p := hp.ne nL
    -- the choice anew
    refine ⟨_, rfl, _, _, rfl, .inl (SqL.of (E1 _ _ (hid_get hcl))), fun c2 nc2 => ?_⟩
    have P1 := hp.kept E1
    have c2p : c2 ≠ p := P1.ne nc2
    have c2L : c2 ≠ L := (ne_of_none hL nc2).symm
    have hac : ∀ l' ∈ as, l' ≠ c2 := fun l' hl' => by
      obtain ⟨k, hk, e⟩ := List.getElem_of_mem hl'
      obtain ⟨rows, _, rs, b1, _⟩ := hA.at_ (List.getElem?_eq_some_iff.mpr ⟨hk, e⟩)
      exact ne_of_none (hid_get (hid_get b1)) nc2
    have X2 := (Px.ofEx hp E1).new (o := .lst (ch.map V.int)) nc2
    have hc2 : hid p (upd H1 c2 (.lst (ch.map V.int))) c2 = some (.lst (ch.map V.int)) := by rw [hid_ne c2p]; exact upd_same
    have hL2 : hid p (upd H1 c2 (.lst (ch.map V.int))) L = some (.lst (as.map V.ref)) := by rw [hid_ne hLp, upd_ne c2L.symm]; exact hL
    have hA2 : All2 (LsAt (hid L (hid p (upd H1 c2 (.lst (ch.map V.int)))))) as S := hA.imp fun _ _ z => z.ex (exHid (exHid (Ex.new nc2)))
    have nc20 : H c2 = none := fresh_back E1 nc2
    generalize upd H1 c2 (.lst (ch.map V.int)) = H2 at *
    refine ⟨_, rfl, _, rfl, _, _, rfl, .inl (SqL.of (hid_get hL2)), p, a, S.length, by rw [List.length_map, hA2.1]; rfl, by omega, by have := hB.1; omega, X2.pool, fun at_ H3 hat X3 _ => ⟨_, rfl, p, a, 4, rfl, by decide, by decide, X3.pool, fun φ H4 hφ X4 _ => ?_⟩⟩
    have X24 := X3.trans X4
    have X := X2.trans X24
    have hL4 := X24.get hL2
    have hc4 := X24.get hc2
    have hA4 : All2 (LsAt (hid L (hid p H4))) as S := hA2.imp fun _ _ z => z.ex (exHid X24.ex)
    clear X2 X3 X4 hA2 hA hc2 hL2 X24
    have hati : at_ < S.length := by omega
    obtain ⟨l, hl, rs, b1, b2⟩ := hA4.of (List.getElem?_eq_getElem hati)
    have hSat : S[at_]? = some S[at_] := List.getElem?_eq_getElem hati
    generalize S[at_] = rows at *
    have hlr : (as.map V.ref)[at_]? = some (.ref l) := by rw [List.getElem?_map, hl]; rfl
    have b1' := hid_get (hid_get b1)
    have lL : l ≠ L := hid_neq b1
    have lp : l ≠ p := hid_neq (hid_get b1)
    have P4 := X.pool
    -- what is handed back
    have fin : ∀ (H5 : Hp) (sl' cl' : Addr) (S' : List (List SizeD)) (ch' : List Int), Px p a H H5 → SizesAt (hid p H5) sl' S' → hid p H5 cl' = some (.lst (ch'.map V.int)) → Fault n S ch S' ch' → ∀ r, H5 r = none → Q (.ref r) (upd H5 r (.lst [.ref sl', .ref cl'])) := fun H5 sl' cl' S' ch' X5 h1 h2 h3 r nr =>
      q r sl' cl' S' ch' _ (X5.new nr) (by rw [hid_ne (X5.pool.ne nr)]; exact upd_same) (h1.ex (((Px.refl X5.pool).new nr).ex)) (((Px.refl X5.pool).new nr).get h2) h3
    have hS4 : SizesAt (hid p H4) L S := ⟨as, hL4, hA4.imp fun _ _ z => z.ex hid_ex⟩
    -- a row put in
    have put : ∀ (H5 : Hp) (nl : Addr) (rows' : List SizeD), Ex H4 H5 → H4 nl = none → LsAt H5 nl rows' → Px p a H (upd H5 L (.lst ((as.map V.ref).set at_ (.ref nl)))) ∧ SizesAt (hid p (upd H5 L (.lst ((as.map V.ref).set at_ (.ref nl))))) L (S.set at_ rows') ∧ hid p (upd H5 L (.lst ((as.map V.ref).set at_ (.ref nl)))) c2 = some (.lst (ch.map V.int)) := fun H5 nl rows' E5 nnl hrow => by
      have Y := (Px.ofEx P4 E5)
      have nlL : nl ≠ L := (ne_of_none (hid_get hL4) nnl).symm
      have nlp : nl ≠ p := P4.ne nnl
      refine ⟨(X.trans Y).mut nL, ⟨as.set at_ nl, by rw [hid_ne hLp, upd_same, refs_set], ?_⟩, ?_⟩
      · have e5 : hid L (hid p (upd H5 L (.lst ((as.map V.ref).set at_ (.ref nl))))) = hid L (hid p H5) := by rw [hid_upd_ne hLp, hid_upd]
        obtain ⟨rs', h1, h2⟩ := hrow
        have hL5 := Y.get hL4
        have := (hA4.imp fun _ _ z => z.ex (exHid (exHid E5))).set (i := at_) (a := nl) (b := rows') ⟨rs', by rw [hid_ne nlL, hid_ne nlp]; exact h1, h2.imp fun _ _ z => z.te fun q xs hq => tup_hid Y.pool hL5 hq⟩
        rw [← e5] at this
        exact this.imp fun _ _ z => z.ex hid_ex
      · rw [hid_ne c2p, upd_ne c2L]; exact E5 _ _ (hid_get hc4)
    have b4 : LsAt H4 l rows := ⟨rs, b1', b2.imp fun _ _ z => z.ex (hid_ex.trans hid_ex)⟩
    have b2' := b4
    obtain ⟨rs2, hr1, hr2⟩ := b2'
    -- is the row empty
    refine ⟨_, rfl, _, rfl, _, _, _, _, rfl, rfl, SqL.of (hid_get hL4), atI_nat hlr, Nat.zero_le _, fun e ne => ⟨_, _, dp_ls (b4.ex (Ex.new ne)), .lst (SqL.of upd_same) .nil, shaped_ls rows, by decide +kernel, _, rfl, ?_⟩⟩
    have E5 : Ex H4 (upd H4 e (.lst [])) := Ex.new ne
    have X5 := X.more E5
    generalize upd H4 e (.lst []) = H5 at *
    rw [eqv_rows_nil]
    cases rows with
    | nil =>
      exact iteT ⟨_, rfl, _, rfl, (by show 2 ≤ sizeLine; decide), fun r nr => fin H5 L c2 S ch X5 (hS4.ex (exHid E5)) (exHid E5 _ _ hc4) (.same hSat) r nr⟩
    | cons s0 rest =>
      refine iteF ?_
      obtain ⟨u, hu, rt, rl, u1, u2, u3⟩ := hr2.of (i := 0) rfl
      have hL5 : H5 L = some (.lst (as.map V.ref)) := E5 _ _ (hid_get hL4)
      have hl5 : H5 l = some (.lst (rs2.map V.ref)) := E5 _ _ hr1
      have hu0 : (rs2.map V.ref)[0]? = some (.ref u) := by rw [List.getElem?_map, hu]; rfl
      have hasz : ixN (as.map V.ref).length (at_ : Int) = some at_ := ixN_nat (by rw [List.length_map, hA4.1]; exact hati)
      have hrl : (s0 :: rest).length ≤ 30 ∧ ∀ s ∈ s0 :: rest, s.2.length ≤ 30 := hB.2 _ (List.mem_of_getElem? hSat)
      have hrs2 : rs2.length ≤ 30 := by rw [hr2.1]; exact hrl.1
      have hs02 : s0.2.length ≤ 30 := hrl.2 s0 (List.mem_cons_self ..)
      have hrl2 : rl.length ≤ 30 := by rw [u3.1]; exact hs02
      have app : ∀ (H6 : Hp) (t q : Addr) (x : SizeD), Ex H4 H6 → SzAt H6 t x → H6 q = none → LsAt (upd H6 q (.lst (rs2.map V.ref ++ [.ref t]))) q (s0 :: rest ++ [x]) := fun H6 t q x E6 ht nq =>
        ⟨rs2 ++ [t], by rw [upd_same, List.map_append]; rfl, (hr2.imp fun _ _ z => z.ex (E6.trans (Ex.new nq))).snoc (ht.ex (Ex.new nq))⟩
      obtain rfl | rfl | rfl : n = 0 ∨ n = 1 ∨ n = 2 := by omega
      · refine ⟨_, rfl, rfl, _, rfl, it1 (by decide) ?_⟩
        obtain rfl | rfl | rfl | rfl : φ = 0 ∨ φ = 1 ∨ φ = 2 ∨ φ = 3 := by omega
        · refine ⟨_, rfl, rfl, _, rfl, it1 (by decide) ⟨_, rfl, Nat.zero_le _, fun t0 n0 => ⟨(by show 2 ≤ sizeLine; decide), fun t1 n1 => ⟨(by show 1 ≤ sizeLine; decide), fun l1 m1 => ⟨(by show 1 ≤ sizeLine; decide), fun l2 m2 => ?_⟩⟩⟩⟩⟩
          have e0 : Ex H5 (upd H5 t0 (.tup [])) := Ex.new n0
          have g0 : upd H5 t0 (.tup []) t0 = some (.tup []) := upd_same
          generalize upd H5 t0 (.tup []) = J0 at *
          have e1 : Ex J0 (upd J0 t1 (.tup [.int 1, .ref t0])) := Ex.new n1
          have g1 : upd J0 t1 (.tup [.int 1, .ref t0]) t1 = some (.tup [.int 1, .ref t0]) := upd_same
          generalize upd J0 t1 (.tup [.int 1, .ref t0]) = J1 at *
          have e2 : Ex J1 (upd J1 l1 (.lst [.ref t1])) := Ex.new m1
          have g2 : upd J1 l1 (.lst [.ref t1]) l1 = some (.lst [.ref t1]) := upd_same
          generalize upd J1 l1 (.lst [.ref t1]) = J2 at *
          have e3 : Ex J2 (upd J2 l2 (.lst [.ref l1])) := Ex.new m2
          have g3 : upd J2 l2 (.lst [.ref l1]) l2 = some (.lst [.ref l1]) := upd_same
          generalize upd J2 l2 (.lst [.ref l1]) = J3 at *
          have e03 := e0.trans (e1.trans (e2.trans e3))
          refine ⟨L, l2, _, _, rfl, rfl, e03 _ _ hL5, g3, sz_of (by rw [List.length_map, hA4.1]; have := hB.1; show S.length + 1 ≤ _; omega), fun r5 n5 => ?_⟩
          have e4 : Ex J3 (upd J3 r5 (.lst (as.map V.ref ++ [.ref l1]))) := Ex.new n5
          have g4 : upd J3 r5 (.lst (as.map V.ref ++ [.ref l1])) r5 = some (.lst (as.map V.ref ++ [.ref l1])) := upd_same
          generalize upd J3 r5 (.lst (as.map V.ref ++ [.ref l1])) = J4 at *
          have e14 := e1.trans (e2.trans (e3.trans e4))
          have X6 := X5.more (e03.trans e4)
          have ee := (E5.trans (e03.trans e4))
          have nr5p : r5 ≠ p := (X5.more e03).pool.ne n5
          have nl1p : l1 ≠ p := (X5.more (e0.trans e1)).pool.ne m1
          refine ⟨_, rfl, (by show 2 ≤ sizeLine; decide), fun r nr => fin J4 r5 c2 (S ++ [[(1, [])]]) ch X6 ⟨as ++ [l1], by rw [hid_ne nr5p, g4, List.map_append]; rfl, (hA4.imp fun _ _ z => (z.ex hid_ex).ex (exHid ee)).snoc ⟨[t1], by rw [hid_ne nl1p]; exact (e3.trans e4) _ _ g2, .cons ⟨t0, [], ?_, ?_, .nil⟩ .nil⟩⟩ (exHid ee _ _ hc4) .c0 r nr⟩
          · rw [hid_ne ((X5.more e0).pool.ne n1)]; exact (e2.trans (e3.trans e4)) _ _ g1
          · rw [hid_ne (X5.pool.ne n0)]; exact e14 _ _ g0
        · refine ⟨_, rfl, rfl, _, rfl, it0 (by decide) ⟨_, rfl, rfl, _, rfl, it1 (by decide) ⟨Nat.zero_le _, fun nl nnl => ⟨_, rfl, _, rfl, L, _, _, at_, rfl, rfl, Ex.new nnl _ _ hL5, hasz, ?_⟩⟩⟩⟩
          obtain ⟨Z1, Z2, Z3⟩ := put (upd H5 nl (.lst [])) nl [] (E5.trans (Ex.new nnl)) (fresh_back E5 nnl) ⟨[], upd_same, .nil⟩
          exact ⟨_, rfl, rfl, _, rfl, it0 (by decide) ⟨_, rfl, rfl, _, rfl, it0 (by decide) ⟨_, rfl, rfl, _, rfl, it0 (by decide) ⟨_, rfl, rfl, _, rfl, it0 (by decide) ⟨_, rfl, _, rfl, (by show 2 ≤ sizeLine; decide), fun r nr => fin _ L c2 _ ch Z1 Z2 Z3 (.c1 hati) r nr⟩⟩⟩⟩⟩
        · refine ⟨_, rfl, rfl, _, rfl, it0 (by decide) ⟨_, rfl, rfl, _, rfl, it0 (by decide) ⟨_, rfl, rfl, _, rfl, it1 (by decide) ⟨_, rfl, _, rfl, _, _, _, _, rfl, rfl, SqL.of hL5, atI_nat hlr, _, rfl, _, rfl, _, _, _, _, rfl, rfl, SqL.of hL5, atI_nat hlr, _, _, _, _, rfl, rfl, SqL.of hl5, atI_nat (j := 0) hu0, _, _, _, _, rfl, rfl, SqT.of (E5 _ _ u1), atI_nat (j := 1) rfl, (by show 2 ≤ sizeLine; decide), fun t0 n0 => ⟨(by show 1 ≤ sizeLine; decide), fun t1 n1 => ?_⟩⟩⟩⟩⟩
          have e0 : Ex H5 (upd H5 t0 (.tup [.int 0, .int 9])) := Ex.new n0
          have g0 : upd H5 t0 (.tup [.int 0, .int 9]) t0 = some (.tup [.int 0, .int 9]) := upd_same
          generalize upd H5 t0 (.tup [.int 0, .int 9]) = J0 at *
          have e1 : Ex J0 (upd J0 t1 (.tup [.ref t0])) := Ex.new n1
          have g1 : upd J0 t1 (.tup [.ref t0]) t1 = some (.tup [.ref t0]) := upd_same
          generalize upd J0 t1 (.tup [.ref t0]) = J1 at *
          have e51 := E5.trans (e0.trans e1)
          refine cat_tup (K := K) (e51 _ _ u2) g1 (sz_of (by rw [List.length_map]; show _ + 1 ≤ _; omega)) fun c3 J2 e2 hc3 => ⟨(by show 2 ≤ sizeLine; decide), fun t2 n2 => ⟨(by show 1 ≤ sizeLine; decide), fun l1 m1 => ?_⟩⟩
          have e3 : Ex J2 (upd J2 t2 (.tup [.int 1, .ref c3])) := Ex.new n2
          have g3 : upd J2 t2 (.tup [.int 1, .ref c3]) t2 = some (.tup [.int 1, .ref c3]) := upd_same
          generalize upd J2 t2 (.tup [.int 1, .ref c3]) = J3 at *
          have e4 : Ex J3 (upd J3 l1 (.lst [.ref t2])) := Ex.new m1
          have g4 : upd J3 l1 (.lst [.ref t2]) l1 = some (.lst [.ref t2]) := upd_same
          generalize upd J3 l1 (.lst [.ref t2]) = J4 at *
          have e14 := e2.trans (e3.trans e4)
          have e44 := e51.trans e14
          refine ⟨l, l1, _, _, rfl, rfl, e44 _ _ hr1, g4, sz_of (by rw [List.length_map]; show _ + 1 ≤ _; omega), fun q5 n5 => ⟨_, rfl, _, rfl, L, _, _, at_, rfl, rfl, Ex.new n5 _ _ (e44 _ _ (hid_get hL4)), hasz, ?_⟩⟩
          have hz : SzAt J4 t2 (1, s0.2 ++ [(0, 9)]) := ⟨c3, rl ++ [t0], (e4 _ _ g3), by rw [(e3.trans e4) _ _ hc3, List.map_append]; rfl, (u3.imp fun _ _ z => e44 _ _ z).snoc ((e1.trans e14) _ _ g0)⟩
          obtain ⟨Z1, Z2, Z3⟩ := put _ q5 _ (e44.trans (Ex.new n5)) (fresh_back e44 n5) (app J4 t2 q5 _ e44 hz n5)
          exact ⟨_, rfl, rfl, _, rfl, it0 (by decide) ⟨_, rfl, rfl, _, rfl, it0 (by decide) ⟨_, rfl, rfl, _, rfl, it0 (by decide) ⟨_, rfl, _, rfl, (by show 2 ≤ sizeLine; decide), fun r nr => fin _ L c2 _ ch Z1 Z2 Z3 (.c2 hSat) r nr⟩⟩⟩⟩
        · refine ⟨_, rfl, rfl, _, rfl, it0 (by decide) ⟨_, rfl, rfl, _, rfl, it0 (by decide) ⟨_, rfl, rfl, _, rfl, it0 (by decide) ⟨_, rfl, rfl, _, rfl, it1 (by decide) ⟨_, rfl, _, rfl, (by show 1 ≤ sizeLine; decide), fun l1 m1 => ?_⟩⟩⟩⟩⟩
          have e1 : Ex H5 (upd H5 l1 (.lst [.int 0])) := Ex.new m1
          have g1 : upd H5 l1 (.lst [.int 0]) l1 = some (.lst [.int 0]) := upd_same
          generalize upd H5 l1 (.lst [.int 0]) = J1 at *
          have e41 := E5.trans e1
          refine ⟨c2, l1, _, _, rfl, rfl, e41 _ _ (hid_get hc4), g1, sz_of (by rw [List.length_map]; show _ + 1 ≤ _; omega), fun q5 n5 => ?_⟩
          have e2 : Ex J1 (upd J1 q5 (.lst (ch.map V.int ++ [.int 0]))) := Ex.new n5
          have g2 : upd J1 q5 (.lst (ch.map V.int ++ [.int 0])) q5 = some (.lst (ch.map V.int ++ [.int 0])) := upd_same
          have X6 := (X5.more e1).more e2
          generalize upd J1 q5 (.lst (ch.map V.int ++ [.int 0])) = J2 at *
          exact ⟨(by show 2 ≤ sizeLine; decide), fun r nr => fin J2 L q5 S (ch ++ [0]) X6 (hS4.ex (exHid (e41.trans e2))) (by rw [hid_ne ((X5.more e1).pool.ne n5), g2, List.map_append]; rfl) .c3 r nr⟩
      · refine ⟨_, rfl, rfl, _, rfl, it0 (by decide) ⟨_, rfl, rfl, _, rfl, it1 (by decide) ⟨_, rfl, _, _, rfl, rfl, _, rfl, ite2 (fun c => ?_) (fun c => ?_)⟩⟩⟩
        · have hφ2 : φ < 2 := by have := of_decide_eq_true c; omega
          have hlc1 := hlc (by decide)
          refine ⟨_, rfl, _, rfl, _, _, _, _, rfl, rfl, SqL.of hL5, atI_nat hlr, _, _, rfl, .inl (SqL.of hl5), _, rfl, (by show 2 ≤ sizeLine; decide), fun t nt => ?_⟩
          obtain ⟨z, hz, hzz⟩ : ∃ z : Int, ([.int ((rs2.map V.ref).length : Int), .int (-1)] : List V)[φ]? = some (.int z) ∧ (z = ((s0 :: rest).length : Int) ∨ z = -1) := by
            have : φ = 0 ∨ φ = 1 := by omega
            rcases this with rfl | rfl
            · exact ⟨_, rfl, .inl (by rw [List.length_map, hr2.1])⟩
            · exact ⟨_, rfl, .inr rfl⟩
          have hct : upd H5 t (.lst [.int ((rs2.map V.ref).length : Int), .int (-1)]) c2 = some (.lst (ch.map V.int)) := Ex.new nt _ _ (E5 _ _ (hid_get hc4))
          have X6 := X5.new (o := .lst [.int ((rs2.map V.ref).length : Int), .int (-1)]) nt
          have E6 : Ex H4 (upd H5 t (.lst [.int ((rs2.map V.ref).length : Int), .int (-1)])) := E5.trans (Ex.new nt)
          refine ⟨_, rfl, _, _, _, _, rfl, rfl, SqL.of upd_same, atI_nat hz, _, rfl, _, rfl, c2, _, _, at_, rfl, rfl, hct, ixN_nat (by rw [List.length_map]; omega), ?_⟩
          generalize upd H5 t (.lst [.int ((rs2.map V.ref).length : Int), .int (-1)]) = H6 at *
          have X7 := X6.mut (o := .lst ((ch.map V.int).set at_ (.int z))) nc20
          have hs7 : SizesAt (hid p (upd H6 c2 (.lst ((ch.map V.int).set at_ (.int z))))) L S := by
            have hLp6 : hid p H6 L = some (.lst (as.map V.ref)) := by rw [hid_ne hLp]; exact E6 _ _ (hid_get hL4)
            refine ⟨as, by rw [hid_ne hLp, upd_ne c2L.symm]; exact E6 _ _ (hid_get hL4), ?_⟩
            refine ⟨hA4.1, fun k l' rows' hl' hr' => ?_⟩
            obtain ⟨rs', h1, h2⟩ := hA4.2 k l' rows' hl' hr'
            have hne := hac l' (List.mem_of_getElem? hl')
            have hlp : l' ≠ p := hid_neq (hid_get h1)
            have hc6 := E6 _ _ (hid_get hc4)
            refine ⟨rs', by rw [hid_ne hlp, upd_ne hne]; exact E6 _ _ (hid_get (hid_get h1)), h2.imp fun _ _ y => y.te fun q xs hq => ?_⟩
            have hq6 := E6 _ _ (hid_get (hid_get hq))
            rw [hid_ne (hid_neq (hid_get hq)), upd_ne (ne_of hq6 hc6 (by intro y; cases y))]; exact hq6
          have hc7 : hid p (upd H6 c2 (.lst ((ch.map V.int).set at_ (.int z)))) c2 = some (.lst ((ch.set at_ z).map V.int)) := by rw [hid_ne c2p, upd_same, List.map_set]
          exact ⟨_, rfl, rfl, _, rfl, it0 (by decide) ⟨_, rfl, _, rfl, (by show 2 ≤ sizeLine; decide), fun r nr => fin _ L c2 S _ X7 hs7 hc7 (.ix hSat hzz) r nr⟩⟩
        · have hφ2 : ¬ φ < 2 := fun z => c (decide_eq_true (by omega))
          refine ⟨_, rfl, _, rfl, _, _, _, _, rfl, rfl, SqL.of hL5, atI_nat hlr, _, rfl, _, rfl, _, _, rfl, rfl, _, rfl, _, rfl, _, _, _, _, rfl, rfl, SqL.of hL5, atI_nat hlr, _, _, _, _, rfl, rfl, SqL.of hl5, atI_nat (j := 0) hu0, _, _, _, _, rfl, rfl, SqT.of (E5 _ _ u1), atI_nat (j := 1) rfl, (by show 2 ≤ sizeLine; decide), fun t2 n2 => ⟨(by show 1 ≤ sizeLine; decide), fun l1 m1 => ?_⟩⟩
          have e3 : Ex H5 (upd H5 t2 (.tup [.int (-1 - (φ : Int)), .ref rt])) := Ex.new n2
          have g3 : upd H5 t2 (.tup [.int (-1 - (φ : Int)), .ref rt]) t2 = some (.tup [.int (-1 - (φ : Int)), .ref rt]) := upd_same
          generalize upd H5 t2 (.tup [.int (-1 - (φ : Int)), .ref rt]) = J3 at *
          have e4 : Ex J3 (upd J3 l1 (.lst [.ref t2])) := Ex.new m1
          have g4 : upd J3 l1 (.lst [.ref t2]) l1 = some (.lst [.ref t2]) := upd_same
          generalize upd J3 l1 (.lst [.ref t2]) = J4 at *
          have e44 := E5.trans (e3.trans e4)
          refine ⟨l, l1, _, _, rfl, rfl, e44 _ _ hr1, g4, sz_of (by rw [List.length_map]; show _ + 1 ≤ _; omega), fun q5 n5 => ⟨_, rfl, _, rfl, L, _, _, at_, rfl, rfl, Ex.new n5 _ _ (e44 _ _ (hid_get hL4)), hasz, ?_⟩⟩
          have hz : SzAt J4 t2 (-1 - (φ : Int), s0.2) := ⟨rt, rl, e4 _ _ g3, e44 _ _ u2, u3.imp fun _ _ z => e44 _ _ z⟩
          obtain ⟨Z1, Z2, Z3⟩ := put _ q5 _ (e44.trans (Ex.new n5)) (fresh_back e44 n5) (app J4 t2 q5 _ e44 hz n5)
          exact ⟨_, rfl, rfl, _, rfl, it0 (by decide) ⟨_, rfl, _, rfl, (by show 2 ≤ sizeLine; decide), fun r nr => fin _ L c2 _ ch Z1 Z2 Z3 (.ng hSat (by omega)) r nr⟩⟩
      · obtain ⟨bad, hbad, hbr⟩ : ∃ bad : Int × Int, bad = ([(-1, 3), (4, 5), (3, 2), (-2, -9)] : List (Int × Int)).getD φ (0, 0) ∧ ¬ okR bad := by
          refine ⟨_, rfl, ?_⟩
          obtain rfl | rfl | rfl | rfl : φ = 0 ∨ φ = 1 ∨ φ = 2 ∨ φ = 3 := by omega
          · exact fun z => absurd z.1 (by decide)
          · exact fun z => absurd z.2 (by decide)
          · exact fun z => absurd z.2 (by decide)
          · exact fun z => absurd z.1 (by decide)
        refine ⟨_, rfl, rfl, _, rfl, it0 (by decide) ⟨_, rfl, rfl, _, rfl, it0 (by decide) ⟨_, rfl, rfl, _, rfl, it1 (by decide) ⟨_, rfl, _, rfl, _, _, _, _, rfl, rfl, SqL.of hL5, atI_nat hlr, _, _, _, _, rfl, rfl, SqL.of hl5, atI_nat (j := 0) hu0, _, _, _, _, rfl, rfl, SqT.of (E5 _ _ u1), atI_nat (j := 1) rfl, _, _, rfl, .inr (SqT.of (E5 _ _ u2)), ?_⟩⟩⟩⟩
        rw [List.length_map]
        refine ⟨_, rfl, _, rfl, _, _, _, _, rfl, rfl, SqL.of hL5, atI_nat hlr, _, rfl, rl.length, rfl, by omega, by omega, fun Lk nLk => lc_range (lo := 0) (n := ((rl.length : Nat) : Int).toNat) (fun j H' => Ex H5 H' ∧ ∃ ps : List Addr, ps.length = j ∧ H' Lk = some (.lst (ps.map V.ref)) ∧ ∀ q ∈ ps, IntsAt H' q bad) ⟨Ex.new nLk, [], rfl, upd_same, fun _ h => nomatch h⟩ ?_ ?_⟩
        · rintro j J hj ⟨EJ, ps, hpl, hLk, hps⟩
          refine ⟨rfl, tYes_in ?_⟩
          simp only [wipe, _root_.L2.start, List.map_cons, List.map_nil, List.length_cons, List.length_nil, Nat.reduceAdd, Nat.reduceSub, List.replicate_succ, List.replicate_zero, List.cons_append, List.nil_append, List.set_cons_zero, List.set_cons_succ]
          refine ⟨_, rfl, (by show 2 ≤ sizeLine; decide), fun t1 n1 => ⟨(by show 2 ≤ sizeLine; decide), fun t2 n2 => ⟨(by show 2 ≤ sizeLine; decide), fun t3 n3 => ⟨_, rfl, _, rfl, (by show 2 ≤ sizeLine; decide), fun t4 n4 => ⟨(by show 4 ≤ sizeLine; decide), fun lq nq => ?_⟩⟩⟩⟩⟩
          have e1 : Ex J (upd J t1 (.tup [.int (-1), .int 3])) := Ex.new n1
          have g1 : upd J t1 (.tup [.int (-1), .int 3]) t1 = some (.tup [.int (-1), .int 3]) := upd_same
          generalize upd J t1 (.tup [.int (-1), .int 3]) = J1 at *
          have e2 : Ex J1 (upd J1 t2 (.tup [.int 4, .int 5])) := Ex.new n2
          have g2 : upd J1 t2 (.tup [.int 4, .int 5]) t2 = some (.tup [.int 4, .int 5]) := upd_same
          generalize upd J1 t2 (.tup [.int 4, .int 5]) = J2 at *
          have e3 : Ex J2 (upd J2 t3 (.tup [.int 3, .int 2])) := Ex.new n3
          have g3 : upd J2 t3 (.tup [.int 3, .int 2]) t3 = some (.tup [.int 3, .int 2]) := upd_same
          generalize upd J2 t3 (.tup [.int 3, .int 2]) = J3 at *
          have e4 : Ex J3 (upd J3 t4 (.tup [.int (-2), .int (-9)])) := Ex.new n4
          have g4 : upd J3 t4 (.tup [.int (-2), .int (-9)]) t4 = some (.tup [.int (-2), .int (-9)]) := upd_same
          generalize upd J3 t4 (.tup [.int (-2), .int (-9)]) = J4 at *
          have e5 : Ex J4 (upd J4 lq (.lst [.ref t1, .ref t2, .ref t3, .ref t4])) := Ex.new nq
          have g5 : upd J4 lq (.lst [.ref t1, .ref t2, .ref t3, .ref t4]) lq = some (.lst [.ref t1, .ref t2, .ref t3, .ref t4]) := upd_same
          generalize upd J4 lq (.lst [.ref t1, .ref t2, .ref t3, .ref t4]) = J5 at *
          obtain ⟨tq, htq, hb5⟩ : ∃ tq : Addr, ([.ref t1, .ref t2, .ref t3, .ref t4] : List V)[φ]? = some (.ref tq) ∧ IntsAt J5 tq bad := by
            rw [hbad]
            obtain rfl | rfl | rfl | rfl : φ = 0 ∨ φ = 1 ∨ φ = 2 ∨ φ = 3 := by omega
            · exact ⟨t1, rfl, (e2.trans (e3.trans (e4.trans e5))) _ _ g1⟩
            · exact ⟨t2, rfl, (e3.trans (e4.trans e5)) _ _ g2⟩
            · exact ⟨t3, rfl, (e4.trans e5) _ _ g3⟩
            · exact ⟨t4, rfl, e5 _ _ g4⟩
          have e15 := e1.trans (e2.trans (e3.trans (e4.trans e5)))
          have hLk5 := e15 _ _ hLk
          have TM : TEx J5 (upd J5 Lk (.lst (ps.map V.ref ++ [.ref tq]))) := TEx.mut hLk5
          refine ⟨_, rfl, _, _, _, _, rfl, rfl, SqL.of g5, atI_nat htq, _, hLk5, sz_lt (by rw [List.length_map]; omega), (EJ.trans e15).mut nLk, ps ++ [tq], by rw [List.length_append, hpl]; rfl, by rw [upd_same, List.map_append]; rfl, fun q hq => ?_⟩
          rcases List.mem_append.mp hq with z | z
          · exact TM _ _ (e15 _ _ (hps q z))
          · rw [List.mem_singleton.mp z]; exact TM _ _ hb5
        · rintro J ⟨EJ, ps, hpl, hLk, hps⟩
          rw [Int.toNat_natCast, u3.1] at hpl
          refine ⟨_, _, rfl, .inl ⟨SqL.of hLk, fun rt' nrt => ⟨(by show 2 ≤ sizeLine; decide), fun t2 n2 => ⟨(by show 1 ≤ sizeLine; decide), fun l1 m1 => ?_⟩⟩⟩⟩
          have e2 : Ex J (upd J rt' (.tup (ps.map V.ref))) := Ex.new nrt
          have g2 : upd J rt' (.tup (ps.map V.ref)) rt' = some (.tup (ps.map V.ref)) := upd_same
          generalize upd J rt' (.tup (ps.map V.ref)) = J2 at *
          have e3 : Ex J2 (upd J2 t2 (.tup [.int 1, .ref rt'])) := Ex.new n2
          have g3 : upd J2 t2 (.tup [.int 1, .ref rt']) t2 = some (.tup [.int 1, .ref rt']) := upd_same
          generalize upd J2 t2 (.tup [.int 1, .ref rt']) = J3 at *
          have e4 : Ex J3 (upd J3 l1 (.lst [.ref t2])) := Ex.new m1
          have g4 : upd J3 l1 (.lst [.ref t2]) l1 = some (.lst [.ref t2]) := upd_same
          generalize upd J3 l1 (.lst [.ref t2]) = J4 at *
          have e24 := e2.trans (e3.trans e4)
          have e44 := E5.trans (EJ.trans e24)
          refine ⟨l, l1, _, _, rfl, rfl, e44 _ _ hr1, g4, sz_of (by rw [List.length_map]; show _ + 1 ≤ _; omega), fun q5 n5 => ⟨_, rfl, _, rfl, L, _, _, at_, rfl, rfl, Ex.new n5 _ _ (e44 _ _ (hid_get hL4)), hasz, ?_⟩⟩
          have hz : SzAt J4 t2 (1, List.replicate s0.2.length bad) := by
            refine ⟨rt', ps, e4 _ _ g3, (e3.trans e4) _ _ g2, by rw [List.length_replicate, hpl], fun k x y hx hy => ?_⟩
            rw [List.eq_of_mem_replicate (List.mem_of_getElem? hy)]
            exact e24 _ _ (hps x (List.mem_of_getElem? hx))
          obtain ⟨Z1, Z2, Z3⟩ := put _ q5 _ (e44.trans (Ex.new n5)) (fresh_back e44 n5) (app J4 t2 q5 _ e44 hz n5)
          exact ⟨_, rfl, _, rfl, (by show 2 ≤ sizeLine; decide), fun r nr => fin _ L c2 _ ch Z1 Z2 Z3 (.rg hSat hbr) r nr⟩
end
end G
namespace G
open PySem PySem.Spec PyProof.Rows L2 Evl TL
theorem kNeD {X : Cx} {K : PySem.W.Frag} (h : X.K = K) (hu : X.A.units + 64 < cLine) : OpR X (compareOp .NotEq) (rNeD K) := by subst h; exact op_neD hu
theorem kEqD {X : Cx} {K : PySem.W.Frag} (h : X.K = K) (hu : X.A.units + 64 < cLine) : OpR X (compareOp .Eq) (rEqD K) := by subst h; exact op_eqD hu
def gateFP (g : GateD) : PyData := .tuple [.str g.name, tabP g.tab, strsP g.pins, .tuple (g.rng.map pairP)]
theorem dp_gateF {K : PySem.W.Frag} {H : Hp} {a : Addr} {g : GateD} (h : GateAt H a g) : Dp K H (.ref a) (gateFP g) := by
  obtain ⟨t, pt, rt, ra, h1, h2, h3, h4, h5⟩ := h
  exact .tup (SqT.of h1) (.cons (.str _) (.cons (dp_tabT h2) (.cons (dp_strsT h3) (.cons (.tup (SqT.of h4) (dpAll_all2 (fun _ _ z => dp_pairT z) h5)) .nil))))
theorem shaped_gates {gs : List GateD} (h : ∀ g ∈ gs, PyData.strOk g.name = true ∧ ∀ x ∈ g.pins, PyData.strOk x = true) : SeqAt.shaped (.tuple (gs.map gateFP)) = true := by
  have h2 := lay_map (f := gateFP) (n := 3) (l := gs) fun g hg => by
    have a := lay_tabP g.tab
    have b := lay_strsP (h g hg).2
    have c := lay_map (f := pairP) (n := 1) (l := g.rng) fun p _ => ⟨by simp [pairP, PyData.canLay0, PyData.canLayAll0], by simp [pairP, PyData.depth, PyData.depthAll]⟩
    refine ⟨by simp [gateFP, PyData.canLay0, PyData.canLayAll0, a.1, b.1, c.1, (h g hg).1], ?_⟩
    simp only [gateFP, PyData.depth, PyData.depthAll]; have := a.2; have := b.2; have := c.2; omega
  unfold SeqAt.shaped
  rw [Bool.and_eq_true]
  refine ⟨by simp [PyData.canLay0, h2.1], decide_eq_true ?_⟩
  simp only [PyData.depth]
  have := h2.2
  omega
theorem shaped_strsP {ns : List Str} (h : ∀ x ∈ ns, PyData.strOk x = true) : SeqAt.shaped (strsP ns) = true := by
  have := lay_strsP h
  unfold SeqAt.shaped
  rw [Bool.and_eq_true]
  exact ⟨this.1, decide_eq_true (by have := this.2; omega)⟩
theorem eqv_empty {α : Type} (f : α → PyData) (l : List α) : PyData.eqv (.tuple (l.map f)) (.tuple []) = l.isEmpty := by
  cases l with
  | nil => rfl
  | cons s r => simp [PyData.eqv, PyData.eqvAll]
theorem withZ_at {gs : List GateD} {R : List (List (Int × Int))} {k : Nat} {x : GateD} (h : (withD gs R)[k]? = some x) : ∃ g r, gs[k]? = some g ∧ R[k]? = some r ∧ x = { g with rng := r } := by
  unfold withD at h
  rw [List.getElem?_zipWith] at h
  cases e1 : gs[k]? with
  | none => rw [e1] at h; cases h
  | some g =>
    cases e2 : R[k]? with
    | none => rw [e1, e2] at h; cases h
    | some r => rw [e1, e2] at h; cases h; exact ⟨g, r, rfl, rfl, rfl⟩
theorem pick_len {S : List (List SizeD)} {ch : List Int} (h : ch.length = S.length) : (pickD S ch).length = S.length := by
  unfold pickD
  rw [List.length_zipWith, h, Nat.min_self]
theorem pick_at {S : List (List SizeD)} {ch : List Int} {j : Nat} {rows : List SizeD} {k : Int} (h1 : S[j]? = some rows) (h2 : ch[j]? = some k) : (pickD S ch)[j]? = some (rows.getD k.toNat (0, [])) := by
  unfold pickD
  rw [List.getElem?_zipWith, h1, h2]
theorem szB_few {S : List (List SizeD)} {N : Nat} (h : SzB S N) (hN : N ≤ 50) : SzFew S := ⟨by have := h.1; omega, fun rows hr => by
  have := h.2 rows hr
  exact ⟨by omega, fun s hs => by have := this.2 s hs; omega⟩⟩
section
variable {P : Program} {w : World} {K : PySem.W.Frag} {mg : Str → Option Value} {base : Heap}
def spLaw (K : PySem.W.Frag) : Sp := fun vs H Q _ => ∃ (a : Addr) (ns : List Int), vs = [.ref a] ∧ SqL K H a (ns.map V.int) ∧ ns.length ≤ 63 ∧ ∀ H', Q (.bl true) H'
structure TxtM (mg : Str → Option Value) : Prop where
  all : mg "all" = none
  max : mg "max" = none
  min : mg "min" = none
theorem sc_law : FnScope ["script", "pool", "turn", "circuit", "sizes", "choice", "gates", "cost", "k", "gate", "due", "pinned", "first", "second", "wrong", "rows"] ["script"] (defScope s_law) := ⟨rfl, rfl, rfl, by decide +kernel, rfl, by decide +kernel, by decide +kernel⟩
theorem fn_law {f : Addr} {fd : FuncData} {Wc Bc R : Addr} (F : Fun K "law" "law" s_law f fd) (T0 : TxtS mg) (TM : TxtM mg) (C1 : Has P w K mg base 1 "_law_pool" ["script"] (spPool K)) (C2 : Has P w K mg base 2 "_law_draw" ["pool", "many"] spDrawX) (C3 : Has P w K mg base 4 "_law_circuit" ["pool", "most"] spCirc) (C4 : Has P w K mg base 3 "_law_sizes" ["pool", "circuit"] spLSizes)
    (C5 : HasX P w K mg base 3 "sized" ["circuit", "sizes", "choice"] (spSized Wc Bc R)) (C6 : Has P w K mg base 2 "total_cost" ["sizes", "choice"] spTotal) (C7 : Has P w K mg base 6 "_law_same" ["actual", "due"] (spSame 6)) (C8 : Has P w K mg base 3 "_law_fault" ["pool", "sizes", "choice", "kind"] spFault) (C9 : Has P w K mg base 4 "_law_told" ["circuit", "sizes", "choice"] spTold) : FnOk P w K mg base CX0 7 f fd ["script"] (spLaw K) := by
  obtain ⟨f_law_pool, d_law_pool, G_law_pool, g_law_pool, k_law_pool, b_law_pool⟩ := C1
  obtain ⟨f_law_draw, d_law_draw, G_law_draw, g_law_draw, k_law_draw, b_law_draw⟩ := C2
  obtain ⟨f_law_circuit, d_law_circuit, G_law_circuit, g_law_circuit, k_law_circuit, b_law_circuit⟩ := C3
  obtain ⟨f_law_sizes, d_law_sizes, G_law_sizes, g_law_sizes, k_law_sizes, b_law_sizes⟩ := C4
  obtain ⟨f_sized, d_sized, G_sized, g_sized, k_sized, b_sized⟩ := C5
  obtain ⟨f_total_cost, d_total_cost, G_total_cost, g_total_cost, k_total_cost, b_total_cost⟩ := C6
  obtain ⟨f_law_same, d_law_same, G_law_same, g_law_same, k_law_same, b_law_same⟩ := C7
  obtain ⟨f_law_fault, d_law_fault, G_law_fault, g_law_fault, k_law_fault, b_law_fault⟩ := C8
  obtain ⟨f_law_told, d_law_told, G_law_told, g_law_told, k_law_told, b_law_told⟩ := C9
  have T := T0
  refine F.ok sc_law (fun vs H Q E h => ?_) (fun cdv A outer s H vs Q E hr h => ?_)
  · obtain ⟨a, ns, rfl, _⟩ := h
    rfl
  · obtain ⟨sa, ns, rfl, hs, hn, q⟩ := h
    refine ⟨_, (pss_cons (ps_set (i := 1) sc_law.nd rfl (.inr rfl) (pe_call G_law_pool (hr.mono (by omega)) (by rfl) g_law_pool k_law_pool b_law_pool .nil pass0 (pa_cons (pv 0) pa_nil)))
    (pss_cons (ps_for PassesOwn.never rfl (pi_range1 rfl T.range (pa_cons pe_int pa_nil)) (pg_name (i := 2) sc_law.nd rfl (.inl rfl))
      (pss_cons (ps_set (i := 3) sc_law.nd rfl (.inl rfl) (pe_call G_law_circuit (hr.mono (by omega)) (by rfl) g_law_circuit k_law_circuit b_law_circuit .nil pass0 (pa_cons (pv 1) (pa_cons pe_int pa_nil))))
      (pss_cons (ps_set (i := 4) sc_law.nd rfl (.inl rfl) (pe_call G_law_sizes (hr.mono (by omega)) (by rfl) g_law_sizes k_law_sizes b_law_sizes .nil pass0 (pa_cons (pv 1) (pa_cons (pv 3) pa_nil))))
      (pss_cons (ps_setLc (i := 5) (own := [("rows", 15)]) (g := gName 15) (tt := tYes) rfl sc_law.nd rfl rfl (sw_true rfl rfl rfl (by decide +kernel)) (pi_list (pv 4)) (blkOk_by (N := ["script", "pool", "turn", "circuit", "sizes", "choice", "gates", "cost", "k", "gate", "due", "pinned", "first", "second", "wrong", "rows"]) (sc := defScope s_law) (own := [("rows", 15)]) (by decide +kernel)) (fun _ _ _ _ _ => (pg_name (i := 15) sc_law.nd rfl (.inl rfl))) (fun _ _ _ _ _ => pts_nil) (fun _ _ _ _ _ => (pe_call G_law_draw (hr.mono (by omega)) (by rfl) g_law_draw k_law_draw b_law_draw .nil pass0 (pa_cons (pv 1) (pa_cons (pe_callB (kLen (K := K) rfl) (by rfl) T.len (by decide +kernel) (pa_cons (pv 15) pa_nil)) pa_nil)))))
      (pss_cons (ps_set (i := 6) sc_law.nd rfl (.inl rfl) (pe_lst pa_nil))
      (pss_cons (ps_set (i := 7) sc_law.nd rfl (.inl rfl) pe_int)
      (pss_cons (ps_for PassesOwn.never rfl (pi_range1 rfl T.range (pa_cons (pe_callB call_len_seq (by rfl) T.len (by decide +kernel) (pa_cons (pv 5) pa_nil)) pa_nil)) (pg_name (i := 8) sc_law.nd rfl (.inl rfl))
        (pss_cons (ps_set (i := 9) sc_law.nd rfl (.inl rfl) (pe_ix ix_tup (pe_ix ix_tup (pv 3) pe_int (fun _ _ => rfl)) (pv 8) (fun _ _ => rfl)))
        (pss_cons (ps_expr (pe_bm PySem.F.plainAttrs_list PySem.F.slot_list_append PySem.F.type_list_append mt_append (pv 6) (pa_cons (pe_tup (pa_cons (pe_ix ix_tup (pv 9) pe_int (fun _ _ => rfl)) (pa_cons (pe_ix ix_tup (pv 9) pe_int (fun _ _ => rfl)) (pa_cons (pe_ix ix_tup (pv 9) pe_int (fun _ _ => rfl)) (pa_cons (pe_ix ix_tup (pe_ix ix_list (pe_ix ix_list (pv 4) (pv 8) (fun _ _ => rfl)) (pe_ix ix_list (pv 5) (pv 8) (fun _ _ => rfl)) (fun _ _ => rfl)) pe_int (fun _ _ => rfl)) pa_nil))))) pa_nil)))
        (pss_one (ps_set (i := 7) sc_law.nd rfl (.inl rfl) (pe_op op_add (pv 7) (pe_ix ix_tup (pe_ix ix_list (pe_ix ix_list (pv 4) (pv 8) (fun _ _ => rfl)) (pe_ix ix_list (pv 5) (pv 8) (fun _ _ => rfl)) (fun _ _ => rfl)) pe_int (fun _ _ => rfl))))))))
      (pss_cons (ps_set (i := 10) sc_law.nd rfl (.inl rfl) (pe_tup (pa_cons (pe_ix ix_tup (pv 3) pe_int (fun _ _ => rfl)) (pa_cons (pe_callTy call_tuple_of (by rfl) T.tuple (by decide +kernel) (pa_cons (pv 6) pa_nil)) (pa_cons (pe_ix ix_tup (pv 3) pe_int (fun _ _ => rfl)) (pa_cons (pe_ix ix_tup (pv 3) pe_int (fun _ _ => rfl)) pa_nil))))))
      (pss_cut (ps_if (PW.pt (pw_or (pt_not (pt_val (pe_call G_law_same (hr.mono (by omega)) (by rfl) g_law_same k_law_same b_law_same .nil pass0 (pa_cons (pe_call G_sized (hr.mono (by omega)) (by rfl) g_sized k_sized b_sized .nil passX0 (pa_cons (pv 3) (pa_cons (pv 4) (pa_cons (pe_callTy call_list_of (by rfl) T.list (by decide +kernel) (pa_cons (pv 5) pa_nil)) pa_nil)))) (pa_cons (pv 10) pa_nil))))) (pw_or1 (pt_not (pt_val (pe_call G_law_same (hr.mono (by omega)) (by rfl) g_law_same k_law_same b_law_same .nil pass0 (pa_cons (pe_call G_total_cost (hr.mono (by omega)) (by rfl) g_total_cost k_total_cost b_total_cost .nil pass0 (pa_cons (pv 4) (pa_cons (pv 5) pa_nil))) (pa_cons (pv 7) pa_nil))))))))
        (pss_one (ps_ret pe_bl))
        pss_nil)
      (pss_cons (ps_set (i := 11) sc_law.nd rfl (.inl rfl) (pe_and (pe_cmpR (op_neD hr.units) (pe_ix ix_tup (pv 3) pe_int (fun _ _ => rfl)) (pe_tup pa_nil) (nomark _)) (pe_one (pe_callB (cr_all rfl) (by rfl) TM.all (by decide +kernel) (pa_cons (pe_lc (own := [("gate", 9)]) (g := gName 9) (tt := tYes) rfl sc_law.nd (pi_tup (pe_ix ix_tup (pv 3) pe_int (fun _ _ => rfl))) (blkOk_by (N := ["script", "pool", "turn", "circuit", "sizes", "choice", "gates", "cost", "k", "gate", "due", "pinned", "first", "second", "wrong", "rows"]) (sc := defScope s_law) (own := [("gate", 9)]) (by decide +kernel)) (fun _ _ _ _ _ => (pg_name (i := 9) sc_law.nd rfl (.inl rfl))) (fun _ _ _ _ _ => pts_nil) (fun _ _ _ _ _ => (pe_cmpR (kNeD (K := K) rfl hr.units) (pe_ix (kIxT (K := K) rfl) (pv 9) pe_int (fun _ _ => rfl)) (pe_tup pa_nil) (nomark _)))) pa_nil)))))
      (pss_one (ps_if (pt_val (pv 11))
        (pss_cons (ps_set (i := 12) sc_law.nd rfl (.inl rfl) (pe_call G_law_draw (hr.mono (by omega)) (by rfl) g_law_draw k_law_draw b_law_draw .nil pass0 (pa_cons (pv 1) (pa_cons pe_int pa_nil))))
        (pss_cons (ps_set (i := 13) sc_law.nd rfl (.inl rfl) (pe_call G_law_draw (hr.mono (by omega)) (by rfl) g_law_draw k_law_draw b_law_draw .nil pass0 (pa_cons (pv 1) (pa_cons pe_int pa_nil))))
        (pss_cons (ps_set (i := 14) sc_law.nd rfl (.inl rfl) (pe_call G_law_fault (hr.mono (by omega)) (by rfl) g_law_fault k_law_fault b_law_fault .nil pass0 (pa_cons (pv 1) (pa_cons (pv 4) (pa_cons (pv 5) (pa_cons (pe_callB (call_max2 rfl) (by rfl) TM.max (by decide +kernel) (pa_cons (pv 12) (pa_cons (pv 13) pa_nil))) pa_nil))))))
        (pss_cons (ps_set (i := 14) sc_law.nd rfl (.inl rfl) (pe_call G_law_fault (hr.mono (by omega)) (by rfl) g_law_fault k_law_fault b_law_fault .nil pass0 (pa_cons (pv 1) (pa_cons (pe_ix ix_list (pv 14) pe_int (fun _ _ => rfl)) (pa_cons (pe_ix ix_list (pv 14) pe_int (fun _ _ => rfl)) (pa_cons (pe_callB (call_min2 rfl) (by rfl) TM.min (by decide +kernel) (pa_cons (pv 12) (pa_cons (pv 13) pa_nil))) pa_nil))))))
        (pss_one (ps_if (pt_cmpR op_ne (pe_call G_law_told (hr.mono (by omega)) (by rfl) g_law_told k_law_told b_law_told .nil pass0 (pa_cons (pv 3) (pa_cons (pe_ix ix_list (pv 14) pe_int (fun _ _ => rfl)) (pa_cons (pe_ix ix_list (pv 14) pe_int (fun _ _ => rfl)) pa_nil)))) (pe_callB (call_min2 rfl) (by rfl) TM.min (by decide +kernel) (pa_cons (pv 12) (pa_cons (pv 13) pa_nil))) (nomark _))
          (pss_one (ps_ret pe_bl))
          pss_nil))))))
        pss_nil))))))))))))
    (pss_one (ps_ret (pe_call G_law_same (hr.mono (by omega)) (by rfl) g_law_same k_law_same b_law_same .nil pass0 (pa_cons (pe_call G_total_cost (hr.mono (by omega)) (by rfl) g_total_cost k_total_cost b_total_cost .nil pass0 (pa_cons (pe_lst pa_nil) (pa_cons (pe_lst pa_nil) pa_nil))) (pa_cons pe_int pa_nil))))))), ?_⟩
    refine ⟨_, rfl, sa, ns, rfl, hs, by omega, fun p a H0 hp E0 np => ?_⟩
    refine ⟨_, rfl, by decide, by decide, for_range (n := 3) (fun i σ H' => Px p a H0 H' ∧ ∃ x2 x3 x4 x5 x6 x7 x8 x9 x10 x11 x12 x13 x14 : Option V, σ = [some (.ref sa), some (.ref p), x2, x3, x4, x5, x6, x7, x8, x9, x10, x11, x12, x13, x14, none])
      ⟨Px.refl hp, _, _, _, _, _, _, _, _, _, _, _, _, _, rfl⟩ ?_ ?_⟩
    · rintro turn σ H1 _ ⟨X1, x2, x3, x4, x5, x6, x7, x8, x9, x10, x11, x12, x13, x14, rfl⟩
      refine ⟨_, rfl, p, a, 6, rfl, by decide, X1.pool, fun c d Gs it gt rt ot ga ra oa H2 Y2 hc2 W => ?_⟩
      have hgl := hc2.gates.1
      have hg6 := W.glen
      have hgn : ∀ g ∈ d.gates, g.name.length ≤ 1000 := fun g hg => by
        obtain ⟨k, hk, w⟩ := W.gate hg
        rw [w.name]
        have h1 := (nm_small "g" (by decide) k (by have := W.few; omega)).1
        unfold nm
        rw [len_tl, tl_append, List.length_append, ← len_tl, ← len_tl]
        exact h1
      refine ⟨_, rfl, _, rfl, p, a, c, d, it, gt, rt, ot, ga, ra, oa, rfl, Y2.pool, hc2, by omega, fun g hg => by have := (W.gsm hg).few; omega, fun sl S H3 Y3 hS3 hG => ?_⟩
      have X3 := X1.trans (Y2.trans Y3)
      have hc3 := hc2.te (TEx.px Y3)
      obtain ⟨ls, hsl3, hls3⟩ := hS3
      have hSl : S.length = d.gates.length := hG.cnt.1
      have hSB : SzB S 15 := by
        refine ⟨by omega, fun rows hr => ⟨by have := (hG.few rows hr).2; omega, fun s hs => ?_⟩⟩
        obtain ⟨k, hk, e⟩ := List.getElem_of_mem hr
        obtain ⟨g, hg, ho⟩ := gate_at hG.cnt (List.getElem?_eq_some_iff.mpr ⟨hk, e⟩)
        rw [ho.2 s hs]
        have := (W.gsm (List.mem_of_getElem? hg)).few
        omega
      have few := szB_few hSB (by decide)
      -- the choice
      refine ⟨_, rfl, sl, rfl, ⟨_, SqL.of (hid_get hsl3)⟩, fun L nL => wk_list (K := K) (a := sl) (xs := ls.map V.ref) (fun j H' => Px p a H3 H' ∧ ∃ ch : List Int, hid p H' L = some (.lst (ch.map V.int)) ∧ ch.length = j ∧ ∀ (k : Nat) (rows : List SizeD) (z : Int), S[k]? = some rows → ch[k]? = some z → 0 ≤ z ∧ z < rows.length)
        ⟨(Px.refl Y3.pool).new nL, [], by rw [hid_ne (Y3.pool.ne nL)]; exact upd_same, rfl, fun k rows z _ h => nomatch h⟩ (fun j H' _ z => SqL.of (z.1.at_ hsl3)) ?_ ?_⟩
      · rintro j y H4 hy ⟨X4, ch, hch, hcj, hci⟩
        obtain ⟨l, hl, rfl⟩ := refs_get hy
        obtain ⟨rows, hrows, rs, b1, b2⟩ := hls3.at_ hl
        have hj : j < S.length := (List.getElem?_eq_some_iff.mp hrows).1
        have hfr := hG.few rows (List.mem_of_getElem? hrows)
        refine ⟨rfl, tYes_in ?_⟩
        simp only [wipe, _root_.L2.start, List.map_cons, List.map_nil, List.length_cons, List.length_nil, Nat.reduceAdd, Nat.reduceSub, List.replicate_succ, List.replicate_zero, List.cons_append, List.nil_append, List.set_cons_zero, List.set_cons_succ]
        refine ⟨_, rfl, _, rfl, _, _, rfl, .inl (SqL.of (X4.at_ b1)), p, a, rows.length, by rw [List.length_map, b2.1]; rfl, by omega, by omega, X4.pool, fun v H5 hv X5 _ => ?_⟩
        have hch5 := X5.get hch
        refine ⟨_, hid_get hch5, sz_lt (by rw [List.length_map]; omega), (X4.trans X5).mut nL, ch ++ [(v : Int)], by rw [hid_ne (Y3.pool.ne nL), upd_same, List.map_append]; rfl, by rw [List.length_append, hcj]; rfl, fun k rows' z h1 h2 => ?_⟩
        by_cases hk : k < ch.length
        · rw [List.getElem?_append_left hk] at h2
          exact hci k rows' z h1 h2
        · have hkj : k = j := by
            have := (List.getElem?_eq_some_iff.mp h2).1
            rw [List.length_append] at this
            have : k < ch.length + 1 := this
            omega
          subst hkj
          rw [hrows] at h1
          rw [List.getElem?_append_right (by omega), hcj, Nat.sub_self] at h2
          cases h1; cases h2
          omega
      rintro H4 ⟨X4, ch, hch, hcj, hIdx⟩
      rw [List.length_map, hls3.1] at hcj
      have X14 := X3.trans X4
      have hc4 := hc3.te (TEx.px X4)
      have hS4 : SizesAt (hid p H4) sl S := SizesAt.ex X4.ex ⟨ls, hsl3, hls3⟩
      have P4 := X4.pool
      clear X4 Y3 Y2
      -- gates, cost
      refine ⟨Nat.zero_le _, fun GL nGL => ?_⟩
      have E5 : Ex H4 (upd H4 GL (.lst [])) := Ex.new nGL
      obtain ⟨ls4, hsl4, hls4⟩ := hS4
      have hch4 := hid_get hch
      have hlenR : ((pickD S ch).map (·.2)).length = d.gates.length := by rw [List.length_map, pick_len hcj, hSl]
      refine ⟨_, rfl, _, _, rfl, .inl (SqL.of (E5 _ _ hch4)), _, rfl, by omega, by rw [List.length_map]; omega, for_range (n := (((ch.map V.int).length : Nat) : Int).toNat)
        (fun i σ H' => Ex H4 H' ∧ ∃ (as : List Addr) (cost : Int) (z8 z9 : Option V), H' GL = some (.lst (as.map V.ref)) ∧ All2 (GateAt (hid GL H')) as ((withD d.gates ((pickD S ch).map (·.2))).take i) ∧ cost = (((pickD S ch).map (·.1)).take i).sum ∧
          σ = [some (.ref sa), some (.ref p), some (.int (0 + (turn : Int))), some (.ref c), some (.ref sl), some (.ref L), some (.ref GL), some (.int cost), z8, z9, x10, x11, x12, x13, x14, none])
        ⟨E5, [], 0, _, _, upd_same, .nil, rfl, rfl⟩ ?_ ?_⟩
      · rintro i σ H6 hi ⟨E6, as, cost, z8, z9, hGL, hA, hco, rfl⟩
        rw [Int.toNat_natCast, List.length_map] at hi
        have hiS : i < S.length := by omega
        have hig : i < d.gates.length := by omega
        have hia : i < ga.length := by omega
        have hrows : S[i]? = some S[i] := List.getElem?_eq_getElem hiS
        have hci : ch[i]? = some ch[i] := List.getElem?_eq_getElem hi
        obtain ⟨i0, i1⟩ := hIdx i _ _ hrows hci
        have hgi : d.gates[i]? = some d.gates[i] := List.getElem?_eq_getElem hig
        obtain ⟨b, hb, hgb⟩ := hc4.gates.of hgi
        obtain ⟨t, pt, rgt, rga, a1, a2, a3, a4, a5⟩ := hgb
        obtain ⟨l, hl, rs, b1, b2⟩ := hls4.of hrows
        obtain ⟨u, hu, rt2, rl2, s1, s2, s3⟩ := b2.of (pick_get i0 i1)
        have gb : (ga.map V.ref)[i]? = some (.ref b) := by rw [List.getElem?_map, hb]; rfl
        have gl : (ls4.map V.ref)[i]? = some (.ref l) := by rw [List.getElem?_map, hl]; rfl
        have gu : (rs.map V.ref)[ch[i].toNat]? = some (.ref u) := by rw [List.getElem?_map, hu]; rfl
        have gc : (ch.map V.int)[i]? = some (.int ch[i]) := by rw [List.getElem?_map, hci]; rfl
        refine ⟨_, rfl, _, _, _, _, rfl, rfl, SqT.of (E6 _ _ hc4.top), atI_nat (j := 1) rfl, _, rfl, _, _, _, _, rfl, rfl, SqT.of (E6 _ _ hc4.gts), at_of (j := i) (by omega) gb, ?_⟩
        refine ⟨_, rfl, .inl ⟨rfl, _, SqL.of hGL⟩, _, rfl, _, _, _, _, rfl, rfl, SqT.of (E6 _ _ a1), atI_nat (j := 0) rfl, _, rfl, _, _, _, _, rfl, rfl, SqT.of (E6 _ _ a1), atI_nat (j := 1) rfl, _, rfl, _, _, _, _, rfl, rfl, SqT.of (E6 _ _ a1), atI_nat (j := 2) rfl, _, rfl, _, rfl, _, _, _, _, rfl, rfl, SqL.of (E6 _ _ (hid_get hsl4)), at_of (j := i) (by omega) gl, _, rfl, _, rfl, _, _, _, _, rfl, rfl, SqL.of (E6 _ _ hch4), at_of (j := i) (by omega) gc, _, _, _, _, rfl, rfl, SqL.of (E6 _ _ (hid_get b1)), at_of (j := ch[i].toNat) (by omega) gu, _, _, _, _, rfl, rfl, SqT.of (E6 _ _ (hid_get s1)), atI_nat (j := 1) rfl, (by show 4 ≤ sizeLine; decide), fun cg ncg => ?_⟩
        have E7 : Ex H6 (upd H6 cg (.tup [.str d.gates[i].name, .ref t, .ref pt, .ref rt2])) := Ex.new ncg
        have h7 : upd H6 cg (.tup [.str d.gates[i].name, .ref t, .ref pt, .ref rt2]) cg = some (.tup [.str d.gates[i].name, .ref t, .ref pt, .ref rt2]) := upd_same
        generalize upd H6 cg (.tup [.str d.gates[i].name, .ref t, .ref pt, .ref rt2]) = H7 at *
        have E47 := E6.trans E7
        have hGL7 := E7 _ _ hGL
        have tl : ∀ {q : Addr} {xs : List V}, H7 q = some (.tup xs) → hid GL H7 q = some (.tup xs) := fun {q xs} z => by rw [hid_ne (ne_of z hGL7 (by intro y; cases y))]; exact z
        have hpi := pick_at hrows hci
        have hgd : (withD d.gates ((pickD S ch).map (·.2)))[i]? = some { d.gates[i] with rng := (S[i].getD ch[i].toNat (0, [])).2 } := by
          unfold withD
          rw [List.getElem?_zipWith, hgi, List.getElem?_map, hpi]; rfl
        have hasl : as.length ≤ 1000 := by rw [hA.1, List.length_take]; omega
        have E8 : Ex H4 (upd H7 GL (.lst (as.map V.ref ++ [.ref cg]))) := E47.mut nGL
        refine ⟨GL, _, _, rfl, rfl, hGL7, sz_lt (by rw [List.length_map]; omega), _, rfl, _, rfl, _, rfl, _, _, _, _, rfl, rfl, SqL.of (E8 _ _ (hid_get hsl4)), at_of (j := i) (by omega) gl, _, rfl, _, rfl, _, _, _, _, rfl, rfl, SqL.of (E8 _ _ hch4), at_of (j := i) (by omega) gc, _, _, _, _, rfl, rfl, SqL.of (E8 _ _ (hid_get b1)), at_of (j := ch[i].toNat) (by omega) gu, _, _, _, _, rfl, rfl, SqT.of (E8 _ _ (hid_get s1)), atI_nat (j := 0) rfl, _, _, rfl, rfl, E8, as ++ [cg], cost + (S[i].getD ch[i].toNat (0, [])).1, some (.int (0 + (i : Int))), some (.ref b), by rw [upd_same, List.map_append]; rfl, ?_, ?_, rfl⟩
        · rw [hid_upd, take_snoc1 hgd]
          refine (hA.imp fun _ _ z => z.te fun q xs hq => ?_).snoc ⟨t, pt, rt2, rl2, tl h7, tl (E47 _ _ a2), tl (E47 _ _ a3), tl (E47 _ _ (hid_get s2)), s3.imp fun _ _ y => tl (E47 _ _ (hid_get y))⟩
          exact tl (E7 _ _ (hid_get hq))
        · have : ((pickD S ch).map (·.1))[i]? = some (S[i].getD ch[i].toNat (0, [])).1 := by rw [List.getElem?_map, hpi]; rfl
          rw [take_snoc1 this, List.sum_append, hco]
          show _ = _ + ((S[i].getD ch[i].toNat (0, [])).1 + 0)
          omega
      · rintro σ H6 ⟨E6, as, cost, z8, z9, hGL, hA, hco, rfl⟩
        rw [Int.toNat_natCast, List.length_map] at hA hco
        have hwl : (withD d.gates ((pickD S ch).map (·.2))).length = ch.length := by
          unfold withD
          rw [List.length_zipWith, hlenR, Nat.min_self]; omega
        have hco2 : cost = ((pickD S ch).map (·.1)).sum := by
          rw [hco, List.take_of_length_le (by rw [List.length_map, pick_len hcj]; omega)]
        rw [← hwl, List.take_length] at hA
        have hc6 := hc4.te (.of E6)
        -- due
        refine ⟨_, rfl, _, _, _, _, rfl, rfl, SqT.of hc6.top, atI_nat (j := 0) rfl, _, rfl, _, _, rfl, .inl ⟨SqL.of hGL, fun g2 ng2 => ?_⟩⟩
        have E7 : Ex H6 (upd H6 g2 (.tup (as.map V.ref))) := Ex.new ng2
        have h7 : upd H6 g2 (.tup (as.map V.ref)) g2 = some (.tup (as.map V.ref)) := upd_same
        generalize upd H6 g2 (.tup (as.map V.ref)) = H7 at *
        have hc7 := hc6.te (.of E7)
        refine ⟨_, rfl, _, _, _, _, rfl, rfl, SqT.of hc7.top, atI_nat (j := 2) rfl, _, rfl, _, _, _, _, rfl, rfl, SqT.of hc7.top, atI_nat (j := 3) rfl, (by show 4 ≤ sizeLine; decide), fun c2 nc2 => ?_⟩
        have E8 : Ex H7 (upd H7 c2 (.tup [.ref it, .ref g2, .ref rt, .ref ot])) := Ex.new nc2
        have h8 : upd H7 c2 (.tup [.ref it, .ref g2, .ref rt, .ref ot]) c2 = some (.tup [.ref it, .ref g2, .ref rt, .ref ot]) := upd_same
        generalize upd H7 c2 (.tup [.ref it, .ref g2, .ref rt, .ref ot]) = H8 at *
        have e68 := E7.trans E8
        have E48 := E6.trans e68
        have hc8 := hc6.te (.of e68)
        have hdue : CircAt H8 c2 { d with gates := withD d.gates ((pickD S ch).map (·.2)) } it g2 rt ot as ra oa := ⟨h8, hc8.ins, E8 _ _ h7, hc8.rgs, hc8.ots, hA.imp fun _ _ z => z.te (.of (hid_ex.trans e68)), hc8.regs, hc8.outs⟩
        have hcf := W.circFew (by decide)
        have hcd : CircFew { d with gates := withD d.gates ((pickD S ch).map (·.2)) } := by
          refine ⟨hcf.ins, by show (withD d.gates _).length ≤ 1000; rw [hwl]; omega, fun g hg => ?_, hcf.regs, hcf.outs⟩
          obtain ⟨k, hk, rfl⟩ := List.getElem_of_mem hg
          obtain ⟨g', r', h1, h2, h3⟩ := withZ_at (List.getElem?_eq_getElem hk)
          rw [h3]
          obtain ⟨q1, q2, q3⟩ := hcf.gate g' (List.mem_of_getElem? h1)
          refine ⟨q1, q2, ?_⟩
          rw [List.getElem?_map] at h2
          cases e : (pickD S ch)[k]? with
          | none => rw [e] at h2; cases h2
          | some sz =>
            rw [e] at h2
            cases h2
            have hkS : k < S.length := by have := (List.getElem?_eq_some_iff.mp e).1; rwa [pick_len hcj] at this
            have hkc : k < ch.length := by omega
            rw [pick_at (List.getElem?_eq_getElem hkS) (List.getElem?_eq_getElem hkc)] at e
            cases e
            obtain ⟨j0, j1⟩ := hIdx k _ _ (List.getElem?_eq_getElem hkS) (List.getElem?_eq_getElem hkc)
            have hm := List.mem_of_getElem? (pick_get j0 j1)
            exact Nat.le_trans ((hSB.2 _ (List.getElem_mem hkS)).2 _ hm) (by decide)
        have hS8 : SizesAt H8 sl S := SizesAt.ex (hid_ex.trans E48) ⟨ls4, hsl4, hls4⟩
        have hch8 := E48 _ _ hch4
        refine ⟨fun σ H' => Ex H8 H' ∧ σ = [some (.ref sa), some (.ref p), some (.int (0 + (turn : Int))), some (.ref c), some (.ref sl), some (.ref L), some (.ref GL), some (.int cost), z8, z9, some (.ref c2), x11, x12, x13, x14, none], ?_, ?_⟩
        · refine ⟨_, rfl, _, rfl, _, rfl, _, _, rfl, .inl (SqL.of hch8), fun cl ncl => ?_⟩
          have E9 : Ex H8 (upd H8 cl (.lst (ch.map V.int))) := Ex.new ncl
          have h9 : upd H8 cl (.lst (ch.map V.int)) cl = some (.lst (ch.map V.int)) := upd_same
          generalize upd H8 cl (.lst (ch.map V.int)) = H9 at *
          refine ⟨c, sl, cl, d, S, ch, it, gt, rt, ot, ga, ra, oa, rfl, hc8.te (.of E9), hS8.ex E9, h9, few, by omega, hgn, fun _ _ _ _ _ c' gt' ga' H10 E10 nc' hc' => ?_, fun z => absurd ⟨hG.cnt, hcj⟩ z, fun _ _ z => absurd ⟨hG.cst, hIdx⟩ z, fun _ _ _ _ z => absurd hG.rng z⟩
          have e810 := E9.trans E10
          refine ⟨_, rfl, _, _, circD { d with gates := withD d.gates ((pickD S ch).map (·.2)) }, rfl, rep_circ hc', rep_circ (hdue.te (.of e810)), ok_circD hcd, _, rfl, iteF ⟨_, rfl, _, rfl, sl, L, S, ch, rfl, hS8.ex e810, e810 _ _ hch8, few, hcj, hG.cst, hIdx, fun H11 E11 => ⟨_, rfl, _, _, .int cost, rfl, ?_, .int _, trivial, _, rfl, iteF ⟨e810.trans E11, rfl⟩⟩⟩⟩
          rw [hco2]; exact .int _
        · rintro σ H9 ⟨E9, rfl⟩
          have E49 := E48.trans E9
          have hc9 := hc8.te (.of E9)
          have hgt9 := hc9.gates.1
          -- is there a pin at each gate
          have htx := W.tx (by decide)
          refine tif_by (tt := tAndV _ _) (fun z H' => Ex H9 H' ∧ ∃ b : Bool, z = .bl b ∧ (b = true → d.gates ≠ [] ∧ ∀ g ∈ d.gates, g.pins ≠ [])) (fun Q' k => ?_) ?_
          · refine ⟨_, rfl, _, _, _, _, rfl, rfl, SqT.of hc9.top, atI_nat (j := 1) rfl, Nat.zero_le _, fun e ne => ⟨.tuple (d.gates.map gateFP), .tuple [], .tup (SqT.of (Ex.new ne _ _ hc9.gts)) (dpAll_all2 (fun _ _ z => dp_gateF (z.te (.of (Ex.new ne)))) hc9.gates), .tup (SqT.of upd_same) .nil, shaped_gates htx.gates, by decide +kernel, ?_⟩⟩
            have E10 : Ex H9 (upd H9 e (.tup [])) := Ex.new ne
            generalize upd H9 e (.tup []) = H10 at *
            rw [eqv_empty]
            refine ⟨_, rfl, ?_⟩
            cases hnil : d.gates.isEmpty with
            | true => exact iteF (k _ _ ⟨E10, false, rfl, fun h => nomatch h⟩)
            | false =>
              refine iteT ?_
              have hc10 := hc9.te (.of E10)
              refine ⟨_, rfl, _, _, _, _, rfl, rfl, SqT.of hc10.top, atI_nat (j := 1) rfl, gt, rfl, ⟨_, SqT.of hc10.gts⟩, fun LL nLL => wk_tup (K := K) (a := gt) (xs := ga.map V.ref) (fun j H' => Ex H10 H' ∧ H' LL = some (.lst (((d.gates.take j).map fun g : GateD => !g.pins.isEmpty).map V.bl))) ⟨Ex.new nLL, upd_same⟩ (fun j H' _ z => SqT.of (z.1 _ _ hc10.gts)) ?_ ?_⟩
              · rintro j y H11 hy ⟨E11, hLL⟩
                obtain ⟨b, hb, rfl⟩ := refs_get hy
                obtain ⟨g, hgj, t, pt, rgt, rga, a1, a2, a3, a4, a5⟩ := hc10.gates.at_ hb
                have hj : j < d.gates.length := (List.getElem?_eq_some_iff.mp hgj).1
                refine ⟨rfl, tYes_in ?_⟩
                simp only [wipe, _root_.L2.start, List.map_cons, List.map_nil, List.length_cons, List.length_nil, Nat.reduceAdd, Nat.reduceSub, List.replicate_succ, List.replicate_zero, List.cons_append, List.nil_append, List.set_cons_zero, List.set_cons_succ]
                refine ⟨_, rfl, _, _, _, _, rfl, rfl, SqT.of (E11 _ _ a1), atI_nat (j := 2) rfl, Nat.zero_le _, fun e2 ne2 => ⟨strsP g.pins, .tuple [], dp_strsT (Ex.new ne2 _ _ (E11 _ _ a3)), .tup (SqT.of upd_same) .nil, shaped_strsP (htx.gates g (List.mem_of_getElem? hgj)).2, by decide +kernel, ?_⟩⟩
                have E12 : Ex H11 (upd H11 e2 (.tup [])) := Ex.new ne2
                generalize upd H11 e2 (.tup []) = H12 at *
                unfold strsP
                rw [eqv_empty]
                refine ⟨_, E12 _ _ hLL, sz_lt (by rw [List.length_map, List.length_map, List.length_take]; omega), (E11.trans E12).mut nLL, ?_⟩
                rw [upd_same, take_snoc1 hgj, List.map_append, List.map_append]; rfl
              · rintro H11 ⟨E11, hLL⟩
                rw [List.length_map, hgt9, List.take_length] at hLL
                refine ⟨LL, _, rfl, SqL.of hLL, k _ _ ⟨E10.trans E11, _, rfl, fun h => ⟨fun z => ?_, fun g hg z => ?_⟩⟩⟩
                · rw [z] at hnil; cases hnil
                · have := List.all_eq_true.mp h (!g.pins.isEmpty) (List.mem_map.mpr ⟨g, hg, rfl⟩)
                  rw [z] at this; cases this
          rintro _ H10 ⟨E10, b, rfl, hb⟩
          have E410 := E49.trans E10
          have X10 : Px p a H0 H10 := X14.more E410
          refine ⟨_, rfl, _, rfl, ?_⟩
          cases b with
          | false => exact iteF ⟨X10, _, _, _, _, _, _, _, _, _, _, _, _, _, rfl⟩
          | true =>
            obtain ⟨hgne, hpne⟩ := hb rfl
            have hSpos : 0 < S.length := by
              rw [hSl]
              exact Nat.pos_of_ne_zero fun z => hgne (List.length_eq_zero_iff.mp z)
            refine iteT ⟨_, rfl, p, a, 3, rfl, by decide, by decide, X10.pool, fun fi H11 hfi X11 _ => ⟨_, rfl, p, a, 3, rfl, by decide, by decide, X11.pool, fun se H12 hse X12 _ => ?_⟩⟩
            have X1012 := X11.trans X12
            have X012 := X10.trans X1012
            have hc12 := (hc9.te (.of E10)).te (TEx.px X1012)
            have hLp : hid p H4 L = some (.lst (ch.map V.int)) := hch
            have hS10 : SizesAt (hid p H12) sl S := SizesAt.ex ((exHid E410).trans X1012.ex) ⟨ls4, hsl4, hls4⟩
            have hch12 : hid p H12 L = some (.lst (ch.map V.int)) := ((exHid E410).trans X1012.ex) _ _ hch
            -- the greater and the less kind
            obtain ⟨M, m, hM, hm, hmM, hM2⟩ : ∃ M m : Nat, (if (se : Int) > (fi : Int) then (se : Int) else (fi : Int)) = (M : Int) ∧ (if (se : Int) < (fi : Int) then (se : Int) else (fi : Int)) = (m : Int) ∧ m ≤ M ∧ M ≤ 2 := by
              rcases Nat.lt_trichotomy fi se with h | h | h
              · exact ⟨se, fi, by rw [if_pos (by omega)], by rw [if_neg (by omega)], by omega, by omega⟩
              · subst h
                exact ⟨fi, fi, by rw [if_neg (by omega)], by rw [if_neg (by omega)], by omega, by omega⟩
              · exact ⟨fi, se, by rw [if_neg (by omega)], by rw [if_pos (by omega)], by omega, by omega⟩
            refine ⟨_, rfl, _, rfl, _, rfl, _, rfl, _, rfl, _, _, rfl, ?_⟩
            rw [hM]
            refine ⟨p, a, sl, L, S, ch, M, rfl, hM2, X012.pool, hS10, hch12, ⟨by have := hSB.1; omega, fun rows hr => ⟨by have := (hSB.2 rows hr).1; omega, fun s hs => by have := (hSB.2 rows hr).2 s hs; omega⟩⟩, by omega, hSpos, fun _ => by omega, fun r1 sl1 cl1 S1 ch1 H13 X13 hr1 hS1 hc1 F1 => ?_⟩
            obtain ⟨B1, C1⟩ := fault_B F1 (N := 15) hSB (by omega) (by decide)
            have X013 := X012.trans X13
            have hl1 : 0 < S1.length ∧ (1 ≤ m → S1.length ≤ ch1.length) := by
              cases F1 with
              | same => exact ⟨hSpos, fun _ => by omega⟩
              | c0 => exact ⟨by rw [List.length_append]; omega, fun h => by omega⟩
              | c1 => exact ⟨by rw [List.length_set]; omega, fun h => by omega⟩
              | c2 => exact ⟨by rw [List.length_set]; omega, fun h => by omega⟩
              | c3 => exact ⟨hSpos, fun h => by omega⟩
              | ix => exact ⟨hSpos, fun h => by rw [List.length_set]; omega⟩
              | ng => exact ⟨by rw [List.length_set]; omega, fun h => by rw [List.length_set]; omega⟩
              | rg => exact ⟨by rw [List.length_set]; omega, fun h => by rw [List.length_set]; omega⟩
            refine ⟨_, rfl, _, rfl, _, _, _, _, rfl, rfl, SqL.of (hid_get hr1), atI_nat (j := 0) rfl, _, rfl, _, _, _, _, rfl, rfl, SqL.of (hid_get hr1), atI_nat (j := 1) rfl, _, rfl, _, rfl, _, _, rfl, ?_⟩
            rw [hm]
            refine ⟨p, a, sl1, cl1, S1, ch1, m, rfl, by omega, X013.pool, hS1, hc1, ⟨by have := B1.1; omega, fun rows hr => ⟨by have := (B1.2 rows hr).1; omega, fun s hs => by have := (B1.2 rows hr).2 s hs; omega⟩⟩, by omega, hl1.1, hl1.2, fun r2 sl2 cl2 S2 ch2 H14 X14' hr2 hS2 hc2' F2 => ?_⟩
            obtain ⟨B2, C2⟩ := fault_B F2 (N := 16) B1 C1 (by decide)
            have X014 := X013.trans X14'
            have hc14 := hc12.te (TEx.px (X13.trans X14'))
            have verdict : (m = 0 ∧ ¬ (Cnt0 d.gates S2 ∧ ch2.length = S2.length)) ∨ (m = 1 ∧ Cnt0 d.gates S2 ∧ ch2.length = S2.length ∧ ¬ (Cst0 S2 ∧ Idx S2 ch2)) ∨ (m = 2 ∧ Cnt0 d.gates S2 ∧ ch2.length = S2.length ∧ Cst0 S2 ∧ Idx S2 ch2 ∧ ¬ Rng S2) := by
              have first : (M = 0 ∧ B0 d.gates S1 ch1) ∨ (M = 1 ∧ Cnt0 d.gates S1 ∧ ch1.length = S1.length) ∨ (M = 2 ∧ Cnt0 d.gates S1 ∧ ch1.length = S1.length ∧ Cst0 S1 ∧ Idx S1 ch1) := by
                obtain rfl | rfl | rfl : M = 0 ∨ M = 1 ∨ M = 2 := by omega
                · exact .inl ⟨rfl, fault0 F1 (.inl ⟨hG.cnt, hcj⟩)⟩
                · obtain ⟨a1, a2, _⟩ := fault1 F1 hG.cnt hcj
                  exact .inr (.inl ⟨rfl, a1, a2⟩)
                · obtain ⟨a1, a2, a3, a4, _⟩ := fault2 F1 hG.cnt hcj hG.cst hIdx hpne
                  exact .inr (.inr ⟨rfl, a1, a2, a3, a4⟩)
              have hcc : 1 ≤ M → Cnt0 d.gates S1 ∧ ch1.length = S1.length := fun h => by
                rcases first with ⟨z, _⟩ | ⟨_, a1, a2⟩ | ⟨_, a1, a2, _⟩
                · omega
                · exact ⟨a1, a2⟩
                · exact ⟨a1, a2⟩
              obtain rfl | rfl | rfl : m = 0 ∨ m = 1 ∨ m = 2 := by omega
              · refine .inl ⟨rfl, B0_bad (fault0 F2 ?_)⟩
                rcases first with ⟨_, z⟩ | ⟨z, _⟩ | ⟨z, _⟩
                · exact .inr z
                · exact .inl (hcc (by omega))
                · exact .inl (hcc (by omega))
              · obtain ⟨a1, a2⟩ := hcc hmM
                exact .inr (.inl ⟨rfl, fault1 F2 a1 a2⟩)
              · rcases first with ⟨z, _⟩ | ⟨z, _⟩ | ⟨_, a1, a2, a3, a4⟩
                · omega
                · omega
                · exact .inr (.inr ⟨rfl, fault2 F2 a1 a2 a3 a4 hpne⟩)
            have fin : ∀ (z : Nat) (H15 : Hp), z = m → Ex H14 H15 → Px p a H0 H15 := fun z H15 _ E15 => X014.more E15
            refine ⟨_, rfl, _, rfl, _, _, _, _, rfl, rfl, SqL.of (hid_get hr2), atI_nat (j := 0) rfl, _, rfl, _, _, _, _, rfl, rfl, SqL.of (hid_get hr2), atI_nat (j := 1) rfl, c, sl2, cl2, d, S2, ch2, it, gt, rt, ot, ga, ra, oa, rfl, hc14, hS2.ex hid_ex, hid_get hc2', szB_few B2 (by decide), by omega, hgn, fun h1 h2 h3 h4 h5 => ?_, fun z H15 E15 => ?_, fun h1 h2 z H15 E15 => ?_, fun h1 h2 h3 h4 z H15 E15 => ?_⟩
            · rcases verdict with ⟨_, z⟩ | ⟨_, _, _, z⟩ | ⟨_, _, _, _, _, z⟩
              · exact z ⟨h1, h2⟩
              · exact z ⟨h3, h4⟩
              · exact z h5
            · obtain ⟨rfl, _⟩ : m = 0 ∧ True := by
                rcases verdict with ⟨y, _⟩ | ⟨_, a1, a2, _⟩ | ⟨_, a1, a2, _⟩
                · exact ⟨y, trivial⟩
                · exact absurd ⟨a1, a2⟩ z
                · exact absurd ⟨a1, a2⟩ z
              refine ⟨_, rfl, _, rfl, _, _, rfl, ?_⟩
              rw [hm]
              exact ⟨rfl, _, rfl, it0 (by decide) ⟨X014.more E15, _, _, _, _, _, _, _, _, _, _, _, _, _, rfl⟩⟩
            · obtain ⟨rfl, _⟩ : m = 1 ∧ True := by
                rcases verdict with ⟨_, y⟩ | ⟨y, _⟩ | ⟨_, a1, a2, a3, a4, _⟩
                · exact absurd ⟨h1, h2⟩ y
                · exact ⟨y, trivial⟩
                · exact absurd ⟨a3, a4⟩ z
              refine ⟨_, rfl, _, rfl, _, _, rfl, ?_⟩
              rw [hm]
              exact ⟨rfl, _, rfl, it0 (by decide) ⟨X014.more E15, _, _, _, _, _, _, _, _, _, _, _, _, _, rfl⟩⟩
            · obtain ⟨rfl, _⟩ : m = 2 ∧ True := by
                rcases verdict with ⟨_, y⟩ | ⟨_, _, _, y⟩ | ⟨y, _⟩
                · exact absurd ⟨h1, h2⟩ y
                · exact absurd ⟨h3, h4⟩ y
                · exact ⟨y, trivial⟩
              refine ⟨_, rfl, _, rfl, _, _, rfl, ?_⟩
              rw [hm]
              exact ⟨rfl, _, rfl, it0 (by decide) ⟨X014.more E15, _, _, _, _, _, _, _, _, _, _, _, _, _, rfl⟩⟩
    · rintro σ H1 ⟨X1, x2, x3, x4, x5, x6, x7, x8, x9, x10, x11, x12, x13, x14, rfl⟩
      refine ⟨Nat.zero_le _, fun l1 n1 => ⟨Nat.zero_le _, fun l2 n2 => ⟨l1, l2, [], [], rfl, ⟨[], Ex.new n2 _ _ upd_same, .nil⟩, upd_same, ⟨Nat.zero_le _, fun _ h => nomatch h⟩, rfl, (fun _ h => nomatch h), (fun _ _ _ h => nomatch h), fun H' E' => ⟨_, _, .int 0, rfl, .int _, .int _, trivial, q _⟩⟩⟩⟩
end
end G
namespace G
open PySem PySem.Spec PyProof.Rows L2
/-- the defs and the built-in names as the top has left them -/
structure All (K : PySem.W.Frag) (mg : Str → Option Value) : Prop where
  d_check_pin_range : Dfd K mg "check_pin_range" s_check_pin_range ["pair"]
  d_with_ranges : Dfd K mg "with_ranges" s_with_ranges ["circuit", "rows"]
  d_sized : Dfd K mg "sized" s_sized ["circuit", "sizes", "choice"]
  d_total_cost : Dfd K mg "total_cost" s_total_cost ["sizes", "choice"]
  d_check_counts : Dfd K mg "_check_counts" s_check_counts ["circuit", "sizes"]
  d_check_costs : Dfd K mg "_check_costs" s_check_costs ["sizes"]
  d_check_ranges : Dfd K mg "_check_ranges" s_check_ranges ["sizes"]
  d_law_pool : Dfd K mg "_law_pool" s_law_pool ["script"]
  d_law_spread : Dfd K mg "_law_spread" s_law_spread ["cell"]
  d_law_draw : Dfd K mg "_law_draw" s_law_draw ["pool", "many"]
  d_law_same : Dfd K mg "_law_same" s_law_same ["actual", "due"]
  d_law_bits : Dfd K mg "_law_bits" s_law_bits ["index", "many"]
  d_law_table : Dfd K mg "_law_table" s_law_table ["pool", "many"]
  d_law_register : Dfd K mg "_law_register" s_law_register ["pool", "name", "net"]
  d_law_shuffled : Dfd K mg "_law_shuffled" s_law_shuffled ["pool", "rows"]
  d_law_circuit : Dfd K mg "_law_circuit" s_law_circuit ["pool", "most"]
  d_law_sizes : Dfd K mg "_law_sizes" s_law_sizes ["pool", "circuit"]
  d_law_told : Dfd K mg "_law_told" s_law_told ["circuit", "sizes", "choice"]
  d_law_fault : Dfd K mg "_law_fault" s_law_fault ["pool", "sizes", "choice", "kind"]
  z_tuple : mg "tuple" = none
  z_zip : mg "zip" = none
  z_len : mg "len" = none
  z_sum : mg "sum" = none
  z_any : mg "any" = none
  z_int : mg "int" = none
  z_list : mg "list" = none
  z_range : mg "range" = none
  z_isinstance : mg "isinstance" = none
  z_bool : mg "bool" = none
  z_str : mg "str" = none
  z_all : mg "all" = none
  z_max : mg "max" = none
  z_min : mg "min" = none
  z_ValueError : mg "ValueError" = none
  c_LEAST_SPREAD : ∃ t, mg "LEAST_SPREAD" = some (.int 2 t)
  i_WrongCount : ∃ C : Addr, ExcI K mg "WrongCount" C ∧ IsK K mg C "WrongCount" true ∧ IsK K mg C "BadArgument" false ∧ IsK K mg C "BadRange" false ∧ CatchK K mg C "SignoffError"
  i_BadArgument : ∃ C : Addr, ExcI K mg "BadArgument" C ∧ IsK K mg C "WrongCount" false ∧ IsK K mg C "BadArgument" true ∧ IsK K mg C "BadRange" false ∧ CatchK K mg C "SignoffError"
  i_BadRange : ∃ C : Addr, ExcI K mg "BadRange" C ∧ IsK K mg C "WrongCount" false ∧ IsK K mg C "BadArgument" false ∧ IsK K mg C "BadRange" true ∧ CatchK K mg C "SignoffError"
end G
namespace G
open PySem PySem.Spec PyProof.Rows L2
theorem glue {P : Program} {w : World} {K : PySem.W.Frag} {mg : Str → Option Value} {base : Heap} (A : All K mg) {f : Addr} {fd : FuncData} (F : Fun K "law" "law" s_law f fd) : FnOk P w K mg base CX0 7 f fd ["script"] (spLaw K) := by
  have TL : TxtL mg := ⟨A.z_int, A.z_len, A.z_list, A.z_range⟩
  have TS : TxtS mg := ⟨A.z_isinstance, A.z_tuple, A.z_list, A.z_len, A.z_range, A.z_bool, A.z_int, A.z_str⟩
  have TA : TxtA mg := ⟨A.z_zip, A.z_tuple⟩
  have TZ : TxtZ mg := ⟨A.z_len, A.z_any, A.z_zip, A.z_sum⟩
  obtain ⟨Wc, UW, w1, w2, w3, w4⟩ := A.i_WrongCount
  obtain ⟨Bc, UB, b1, b2, b3, b4⟩ := A.i_BadArgument
  obtain ⟨R, UR, r1, r2, r3, r4⟩ := A.i_BadRange
  obtain ⟨S, gS, hS⟩ := id w4
  have tW : Tri K Wc Wc Bc R S true false false := ⟨UW.isc, w1.at_ UW.u.gC, w2.at_ UB.u.gC, w3.at_ UR.u.gC, hS⟩
  have tB : Tri K Bc Wc Bc R S false true false := ⟨UB.isc, b1.at_ UW.u.gC, b2.at_ UB.u.gC, b3.at_ UR.u.gC, b4.at_ gS⟩
  have tR : Tri K R Wc Bc R S false false true := ⟨UR.isc, r1.at_ UW.u.gC, r2.at_ UB.u.gC, r3.at_ UR.u.gC, r4.at_ gS⟩
  have hd := drawX (P := P) (w := w) (base := base) (ok_law_draw A.d_law_draw TL (ok_law_spread A.d_law_spread TL))
  have hb := ok_law_bits (P := P) (w := w) (base := base) A.d_law_bits TS
  have hc := ok_check_costs (P := P) (w := w) (base := base) A.d_check_costs UB.u TZ
  have hsz := ok_sized (P := P) (w := w) (base := base) A.d_sized TZ UW.u UB.u (ok_check_counts A.d_check_counts UW.u TZ) hc (ok_check_ranges A.d_check_ranges (ok_check_pin_range A.d_check_pin_range UR.u A.c_LEAST_SPREAD)) (ok_with_ranges A.d_with_ranges TA)
  exact fn_law F TS ⟨A.z_all, A.z_max, A.z_min⟩ (ok_law_pool A.d_law_pool TL) hd (ok_law_circuit A.d_law_circuit TS hd (ok_law_table A.d_law_table TS hd hb) (ok_law_register A.d_law_register hd) (ok_law_shuffled A.d_law_shuffled TS hd)) (ok_law_sizes A.d_law_sizes TS hd)
    hsz (ok_total_cost A.d_total_cost TZ hc) (ok_law_same A.d_law_same TS 6) (ok_law_fault A.d_law_fault TS hd) (ok_law_told A.d_law_told TS UW.u.gC UB.u.gC UR.u.gC gS tW tB tR hsz)
end G
namespace G
open PySem PySem.Spec PyProof.Rows L2
theorem all_mk {l : PySem.W.OpenLaw} {w : World} {K : PySem.W.Frag} {h : Heap} {mg : Str → Option Value} {fa f0 f1 f2 f3 f4 f5 f6 f7 f8 f9 f10 f11 f12 f13 f14 f15 f16 f17 f18 f19 : Addr} (X : K.In h) (G : h.Ns mainGlobals mg) (hfa : mg "law" = some (.ref fa))
    {od0 an0 od1 an1 od2 an2 od3 an3 od4 an4 od5 an5 od6 an6 od7 an7 od8 an8 od9 an9 od10 an10 od11 an11 od12 an12 od13 an13 od14 an14 od15 an15 od16 an16 od17 an17 od18 an18 od19 an19 : Option Addr} {sl0 sl1 sl2 sl3 sl4 sl5 sl6 sl7 sl8 sl9 sl10 sl11 sl12 sl13 sl14 sl15 sl16 sl17 sl18 sl19 : Array (Option Value)} {oc0 kv0 dc0 pm0 cd0 ct0 oc1 kv1 dc1 pm1 cd1 ct1 oc2 kv2 dc2 pm2 cd2 ct2 oc3 kv3 dc3 pm3 cd3 ct3 oc4 kv4 dc4 pm4 cd4 ct4 oc5 kv5 dc5 pm5 cd5 ct5 oc6 kv6 dc6 pm6 cd6 ct6 oc7 kv7 dc7 pm7 cd7 ct7 oc8 kv8 dc8 pm8 cd8 ct8 oc9 kv9 dc9 pm9 cd9 ct9 oc10 kv10 dc10 pm10 cd10 ct10 oc11 kv11 dc11 pm11 cd11 ct11 oc12 kv12 dc12 pm12 cd12 ct12 oc13 kv13 dc13 pm13 cd13 ct13 oc14 kv14 dc14 pm14 cd14 ct14 oc15 kv15 dc15 pm15 cd15 ct15 oc16 kv16 dc16 pm16 cd16 ct16 oc17 kv17 dc17 pm17 cd17 ct17 oc18 kv18 dc18 pm18 cd18 ct18 oc19 kv19 dc19 pm19 cd19 ct19 : Value}
    (a0 : PySem.W.nsIn K mainGlobals "check_pin_range" = some (some (.ref f0))) (l0 : K.lookup f0 = some ⟨oc0, od0, .func (PySem.W.fnOf "check_pin_range" "check_pin_range" (defArgs s_check_pin_range) (defBody s_check_pin_range) (defScope s_check_pin_range) .none kv0 dc0 pm0 an0 cd0 ct0), sl0⟩) (c0 : PySem.W.codeIn K cd0 "check_pin_range" = true) (k0 : PySem.W.keepIn K (.ref f0) = true)
    (a1 : PySem.W.nsIn K mainGlobals "with_ranges" = some (some (.ref f1))) (l1 : K.lookup f1 = some ⟨oc1, od1, .func (PySem.W.fnOf "with_ranges" "with_ranges" (defArgs s_with_ranges) (defBody s_with_ranges) (defScope s_with_ranges) .none kv1 dc1 pm1 an1 cd1 ct1), sl1⟩) (c1 : PySem.W.codeIn K cd1 "with_ranges" = true) (k1 : PySem.W.keepIn K (.ref f1) = true)
    (a2 : PySem.W.nsIn K mainGlobals "sized" = some (some (.ref f2))) (l2 : K.lookup f2 = some ⟨oc2, od2, .func (PySem.W.fnOf "sized" "sized" (defArgs s_sized) (defBody s_sized) (defScope s_sized) .none kv2 dc2 pm2 an2 cd2 ct2), sl2⟩) (c2 : PySem.W.codeIn K cd2 "sized" = true) (k2 : PySem.W.keepIn K (.ref f2) = true)
    (a3 : PySem.W.nsIn K mainGlobals "total_cost" = some (some (.ref f3))) (l3 : K.lookup f3 = some ⟨oc3, od3, .func (PySem.W.fnOf "total_cost" "total_cost" (defArgs s_total_cost) (defBody s_total_cost) (defScope s_total_cost) .none kv3 dc3 pm3 an3 cd3 ct3), sl3⟩) (c3 : PySem.W.codeIn K cd3 "total_cost" = true) (k3 : PySem.W.keepIn K (.ref f3) = true)
    (a4 : PySem.W.nsIn K mainGlobals "_check_counts" = some (some (.ref f4))) (l4 : K.lookup f4 = some ⟨oc4, od4, .func (PySem.W.fnOf "_check_counts" "_check_counts" (defArgs s_check_counts) (defBody s_check_counts) (defScope s_check_counts) .none kv4 dc4 pm4 an4 cd4 ct4), sl4⟩) (c4 : PySem.W.codeIn K cd4 "_check_counts" = true) (k4 : PySem.W.keepIn K (.ref f4) = true)
    (a5 : PySem.W.nsIn K mainGlobals "_check_costs" = some (some (.ref f5))) (l5 : K.lookup f5 = some ⟨oc5, od5, .func (PySem.W.fnOf "_check_costs" "_check_costs" (defArgs s_check_costs) (defBody s_check_costs) (defScope s_check_costs) .none kv5 dc5 pm5 an5 cd5 ct5), sl5⟩) (c5 : PySem.W.codeIn K cd5 "_check_costs" = true) (k5 : PySem.W.keepIn K (.ref f5) = true)
    (a6 : PySem.W.nsIn K mainGlobals "_check_ranges" = some (some (.ref f6))) (l6 : K.lookup f6 = some ⟨oc6, od6, .func (PySem.W.fnOf "_check_ranges" "_check_ranges" (defArgs s_check_ranges) (defBody s_check_ranges) (defScope s_check_ranges) .none kv6 dc6 pm6 an6 cd6 ct6), sl6⟩) (c6 : PySem.W.codeIn K cd6 "_check_ranges" = true) (k6 : PySem.W.keepIn K (.ref f6) = true)
    (a7 : PySem.W.nsIn K mainGlobals "_law_pool" = some (some (.ref f7))) (l7 : K.lookup f7 = some ⟨oc7, od7, .func (PySem.W.fnOf "_law_pool" "_law_pool" (defArgs s_law_pool) (defBody s_law_pool) (defScope s_law_pool) .none kv7 dc7 pm7 an7 cd7 ct7), sl7⟩) (c7 : PySem.W.codeIn K cd7 "_law_pool" = true) (k7 : PySem.W.keepIn K (.ref f7) = true)
    (a8 : PySem.W.nsIn K mainGlobals "_law_spread" = some (some (.ref f8))) (l8 : K.lookup f8 = some ⟨oc8, od8, .func (PySem.W.fnOf "_law_spread" "_law_spread" (defArgs s_law_spread) (defBody s_law_spread) (defScope s_law_spread) .none kv8 dc8 pm8 an8 cd8 ct8), sl8⟩) (c8 : PySem.W.codeIn K cd8 "_law_spread" = true) (k8 : PySem.W.keepIn K (.ref f8) = true)
    (a9 : PySem.W.nsIn K mainGlobals "_law_draw" = some (some (.ref f9))) (l9 : K.lookup f9 = some ⟨oc9, od9, .func (PySem.W.fnOf "_law_draw" "_law_draw" (defArgs s_law_draw) (defBody s_law_draw) (defScope s_law_draw) .none kv9 dc9 pm9 an9 cd9 ct9), sl9⟩) (c9 : PySem.W.codeIn K cd9 "_law_draw" = true) (k9 : PySem.W.keepIn K (.ref f9) = true)
    (a10 : PySem.W.nsIn K mainGlobals "_law_same" = some (some (.ref f10))) (l10 : K.lookup f10 = some ⟨oc10, od10, .func (PySem.W.fnOf "_law_same" "_law_same" (defArgs s_law_same) (defBody s_law_same) (defScope s_law_same) .none kv10 dc10 pm10 an10 cd10 ct10), sl10⟩) (c10 : PySem.W.codeIn K cd10 "_law_same" = true) (k10 : PySem.W.keepIn K (.ref f10) = true)
    (a11 : PySem.W.nsIn K mainGlobals "_law_bits" = some (some (.ref f11))) (l11 : K.lookup f11 = some ⟨oc11, od11, .func (PySem.W.fnOf "_law_bits" "_law_bits" (defArgs s_law_bits) (defBody s_law_bits) (defScope s_law_bits) .none kv11 dc11 pm11 an11 cd11 ct11), sl11⟩) (c11 : PySem.W.codeIn K cd11 "_law_bits" = true) (k11 : PySem.W.keepIn K (.ref f11) = true)
    (a12 : PySem.W.nsIn K mainGlobals "_law_table" = some (some (.ref f12))) (l12 : K.lookup f12 = some ⟨oc12, od12, .func (PySem.W.fnOf "_law_table" "_law_table" (defArgs s_law_table) (defBody s_law_table) (defScope s_law_table) .none kv12 dc12 pm12 an12 cd12 ct12), sl12⟩) (c12 : PySem.W.codeIn K cd12 "_law_table" = true) (k12 : PySem.W.keepIn K (.ref f12) = true)
    (a13 : PySem.W.nsIn K mainGlobals "_law_register" = some (some (.ref f13))) (l13 : K.lookup f13 = some ⟨oc13, od13, .func (PySem.W.fnOf "_law_register" "_law_register" (defArgs s_law_register) (defBody s_law_register) (defScope s_law_register) .none kv13 dc13 pm13 an13 cd13 ct13), sl13⟩) (c13 : PySem.W.codeIn K cd13 "_law_register" = true) (k13 : PySem.W.keepIn K (.ref f13) = true)
    (a14 : PySem.W.nsIn K mainGlobals "_law_shuffled" = some (some (.ref f14))) (l14 : K.lookup f14 = some ⟨oc14, od14, .func (PySem.W.fnOf "_law_shuffled" "_law_shuffled" (defArgs s_law_shuffled) (defBody s_law_shuffled) (defScope s_law_shuffled) .none kv14 dc14 pm14 an14 cd14 ct14), sl14⟩) (c14 : PySem.W.codeIn K cd14 "_law_shuffled" = true) (k14 : PySem.W.keepIn K (.ref f14) = true)
    (a15 : PySem.W.nsIn K mainGlobals "_law_circuit" = some (some (.ref f15))) (l15 : K.lookup f15 = some ⟨oc15, od15, .func (PySem.W.fnOf "_law_circuit" "_law_circuit" (defArgs s_law_circuit) (defBody s_law_circuit) (defScope s_law_circuit) .none kv15 dc15 pm15 an15 cd15 ct15), sl15⟩) (c15 : PySem.W.codeIn K cd15 "_law_circuit" = true) (k15 : PySem.W.keepIn K (.ref f15) = true)
    (a16 : PySem.W.nsIn K mainGlobals "_law_sizes" = some (some (.ref f16))) (l16 : K.lookup f16 = some ⟨oc16, od16, .func (PySem.W.fnOf "_law_sizes" "_law_sizes" (defArgs s_law_sizes) (defBody s_law_sizes) (defScope s_law_sizes) .none kv16 dc16 pm16 an16 cd16 ct16), sl16⟩) (c16 : PySem.W.codeIn K cd16 "_law_sizes" = true) (k16 : PySem.W.keepIn K (.ref f16) = true)
    (a17 : PySem.W.nsIn K mainGlobals "_law_told" = some (some (.ref f17))) (l17 : K.lookup f17 = some ⟨oc17, od17, .func (PySem.W.fnOf "_law_told" "_law_told" (defArgs s_law_told) (defBody s_law_told) (defScope s_law_told) .none kv17 dc17 pm17 an17 cd17 ct17), sl17⟩) (c17 : PySem.W.codeIn K cd17 "_law_told" = true) (k17 : PySem.W.keepIn K (.ref f17) = true)
    (a18 : PySem.W.nsIn K mainGlobals "_law_fault" = some (some (.ref f18))) (l18 : K.lookup f18 = some ⟨oc18, od18, .func (PySem.W.fnOf "_law_fault" "_law_fault" (defArgs s_law_fault) (defBody s_law_fault) (defScope s_law_fault) .none kv18 dc18 pm18 an18 cd18 ct18), sl18⟩) (c18 : PySem.W.codeIn K cd18 "_law_fault" = true) (k18 : PySem.W.keepIn K (.ref f18) = true)
    (a19 : PySem.W.nsIn K mainGlobals "law" = some (some (.ref f19))) (l19 : K.lookup f19 = some ⟨oc19, od19, .func (PySem.W.fnOf "law" "law" (defArgs s_law) (defBody s_law) (defScope s_law) .none kv19 dc19 pm19 an19 cd19 ct19), sl19⟩) (c19 : PySem.W.codeIn K cd19 "law" = true) (k19 : PySem.W.keepIn K (.ref f19) = true)
    {ct0 : Tok} (g0 : PySem.W.nsIn K mainGlobals "LEAST_SPREAD" = some (some (.int 2 ct0)))
    {iC0 iD0_0 iD0_1 iD0_2 iD0_3 : Addr} (w0_0 : PySem.W.nsIn K mainGlobals "WrongCount" = some (some (.ref iC0))) (w0_1 : PySem.W.excIn K iC0 [.type "ValueError", .type "Exception", .type "BaseException", .type "object"] "ValueError.__new__" = true) (w0_2 : PySem.W.keepIn K (.ref iC0) = true) (w0_3 : PySem.W.subIn K (.ref iC0) (.type "BaseException") = some true) (w0_4 : PySem.W.typeIn K (.ref iC0) = some (.type "type")) (w0_5 : PySem.W.hasDictIn K iC0 = true) (w0_6 : PySem.W.subIn K (.ref iC0) (.ref iC0) = some true) (w0_7 : PySem.W.findIn K (.ref iC0) "__getattribute__" = some (some (.builtin "BaseException.__getattribute__"))) (w0_8 : PySem.W.findIn K (.ref iC0) "__getattr__" = some none) (w0_9 : PySem.W.findIn K (.ref iC0) "__class__" = some (some (.builtin "object.__class__"))) (w0_10 : PySem.W.specialIn K (.builtin "object.__class__") "__get__" = some (some (.builtin "getset_descriptor.__get__"))) (w0_11 : PySem.W.takesIn K (.builtin "object.__class__") = some true) (w0_12 : PySem.W.mroIn K iC0 (.type "object") = some true) (w0_13 : PySem.W.nsIn K mainGlobals "WrongCount" = some (some (.ref iD0_0))) (w0_14 : PySem.W.kitOne K (.ref iC0) (.ref iD0_0) = some true) (w0_15 : PySem.W.nsIn K mainGlobals "BadArgument" = some (some (.ref iD0_1))) (w0_16 : PySem.W.kitOne K (.ref iC0) (.ref iD0_1) = some false) (w0_17 : PySem.W.nsIn K mainGlobals "BadRange" = some (some (.ref iD0_2))) (w0_18 : PySem.W.kitOne K (.ref iC0) (.ref iD0_2) = some false) (w0_19 : PySem.W.nsIn K mainGlobals "SignoffError" = some (some (.ref iD0_3))) (w0_20 : PySem.W.subIn K (.ref iD0_3) (.type "BaseException") = some true) (w0_21 : PySem.W.hasDictIn K iD0_3 = true) (w0_22 : PySem.W.typeIn K (.ref iD0_3) = some (.type "type")) (w0_23 : PySem.W.subIn K (.ref iC0) (.ref iD0_3) = some true)
    {iC1 iD1_0 iD1_1 iD1_2 iD1_3 : Addr} (w1_0 : PySem.W.nsIn K mainGlobals "BadArgument" = some (some (.ref iC1))) (w1_1 : PySem.W.excIn K iC1 [.type "ValueError", .type "Exception", .type "BaseException", .type "object"] "ValueError.__new__" = true) (w1_2 : PySem.W.keepIn K (.ref iC1) = true) (w1_3 : PySem.W.subIn K (.ref iC1) (.type "BaseException") = some true) (w1_4 : PySem.W.typeIn K (.ref iC1) = some (.type "type")) (w1_5 : PySem.W.hasDictIn K iC1 = true) (w1_6 : PySem.W.subIn K (.ref iC1) (.ref iC1) = some true) (w1_7 : PySem.W.findIn K (.ref iC1) "__getattribute__" = some (some (.builtin "BaseException.__getattribute__"))) (w1_8 : PySem.W.findIn K (.ref iC1) "__getattr__" = some none) (w1_9 : PySem.W.findIn K (.ref iC1) "__class__" = some (some (.builtin "object.__class__"))) (w1_10 : PySem.W.specialIn K (.builtin "object.__class__") "__get__" = some (some (.builtin "getset_descriptor.__get__"))) (w1_11 : PySem.W.takesIn K (.builtin "object.__class__") = some true) (w1_12 : PySem.W.mroIn K iC1 (.type "object") = some true) (w1_13 : PySem.W.nsIn K mainGlobals "WrongCount" = some (some (.ref iD1_0))) (w1_14 : PySem.W.kitOne K (.ref iC1) (.ref iD1_0) = some false) (w1_15 : PySem.W.nsIn K mainGlobals "BadArgument" = some (some (.ref iD1_1))) (w1_16 : PySem.W.kitOne K (.ref iC1) (.ref iD1_1) = some true) (w1_17 : PySem.W.nsIn K mainGlobals "BadRange" = some (some (.ref iD1_2))) (w1_18 : PySem.W.kitOne K (.ref iC1) (.ref iD1_2) = some false) (w1_19 : PySem.W.nsIn K mainGlobals "SignoffError" = some (some (.ref iD1_3))) (w1_20 : PySem.W.subIn K (.ref iD1_3) (.type "BaseException") = some true) (w1_21 : PySem.W.hasDictIn K iD1_3 = true) (w1_22 : PySem.W.typeIn K (.ref iD1_3) = some (.type "type")) (w1_23 : PySem.W.subIn K (.ref iC1) (.ref iD1_3) = some true)
    {iC2 iD2_0 iD2_1 iD2_2 iD2_3 : Addr} (w2_0 : PySem.W.nsIn K mainGlobals "BadRange" = some (some (.ref iC2))) (w2_1 : PySem.W.excIn K iC2 [.type "ValueError", .type "Exception", .type "BaseException", .type "object"] "ValueError.__new__" = true) (w2_2 : PySem.W.keepIn K (.ref iC2) = true) (w2_3 : PySem.W.subIn K (.ref iC2) (.type "BaseException") = some true) (w2_4 : PySem.W.typeIn K (.ref iC2) = some (.type "type")) (w2_5 : PySem.W.hasDictIn K iC2 = true) (w2_6 : PySem.W.subIn K (.ref iC2) (.ref iC2) = some true) (w2_7 : PySem.W.findIn K (.ref iC2) "__getattribute__" = some (some (.builtin "BaseException.__getattribute__"))) (w2_8 : PySem.W.findIn K (.ref iC2) "__getattr__" = some none) (w2_9 : PySem.W.findIn K (.ref iC2) "__class__" = some (some (.builtin "object.__class__"))) (w2_10 : PySem.W.specialIn K (.builtin "object.__class__") "__get__" = some (some (.builtin "getset_descriptor.__get__"))) (w2_11 : PySem.W.takesIn K (.builtin "object.__class__") = some true) (w2_12 : PySem.W.mroIn K iC2 (.type "object") = some true) (w2_13 : PySem.W.nsIn K mainGlobals "WrongCount" = some (some (.ref iD2_0))) (w2_14 : PySem.W.kitOne K (.ref iC2) (.ref iD2_0) = some false) (w2_15 : PySem.W.nsIn K mainGlobals "BadArgument" = some (some (.ref iD2_1))) (w2_16 : PySem.W.kitOne K (.ref iC2) (.ref iD2_1) = some false) (w2_17 : PySem.W.nsIn K mainGlobals "BadRange" = some (some (.ref iD2_2))) (w2_18 : PySem.W.kitOne K (.ref iC2) (.ref iD2_2) = some true) (w2_19 : PySem.W.nsIn K mainGlobals "SignoffError" = some (some (.ref iD2_3))) (w2_20 : PySem.W.subIn K (.ref iD2_3) (.type "BaseException") = some true) (w2_21 : PySem.W.hasDictIn K iD2_3 = true) (w2_22 : PySem.W.typeIn K (.ref iD2_3) = some (.type "type")) (w2_23 : PySem.W.subIn K (.ref iC2) (.ref iD2_3) = some true)
    (z0 : PySem.W.nsIn K mainGlobals "tuple" = some none) (z1 : PySem.W.nsIn K mainGlobals "zip" = some none) (z2 : PySem.W.nsIn K mainGlobals "len" = some none) (z3 : PySem.W.nsIn K mainGlobals "sum" = some none) (z4 : PySem.W.nsIn K mainGlobals "any" = some none) (z5 : PySem.W.nsIn K mainGlobals "int" = some none) (z6 : PySem.W.nsIn K mainGlobals "list" = some none) (z7 : PySem.W.nsIn K mainGlobals "range" = some none) (z8 : PySem.W.nsIn K mainGlobals "isinstance" = some none) (z9 : PySem.W.nsIn K mainGlobals "bool" = some none) (z10 : PySem.W.nsIn K mainGlobals "str" = some none) (z11 : PySem.W.nsIn K mainGlobals "all" = some none) (z12 : PySem.W.nsIn K mainGlobals "max" = some none) (z13 : PySem.W.nsIn K mainGlobals "min" = some none) (z14 : PySem.W.nsIn K mainGlobals "ValueError" = some none) :
    ∃ fd : FuncData, (∀ (s : Shared) (v : Value), BindsTo s fd ⟨[v], []⟩ [("script", v)]) ∧ ∀ base : Heap, K.In base → base.Ns mainGlobals mg → FnOk l.prog w K mg base CX0 7 fa fd ["script"] (spLaw K) := by
  have e := hfa.symm.trans (PySem.W.mg_of X G a19)
  cases e
  have F0 := fun_mk (st := s_check_pin_range) l0 c0 k0
  have F1 := fun_mk (st := s_with_ranges) l1 c1 k1
  have F2 := fun_mk (st := s_sized) l2 c2 k2
  have F3 := fun_mk (st := s_total_cost) l3 c3 k3
  have F4 := fun_mk (st := s_check_counts) l4 c4 k4
  have F5 := fun_mk (st := s_check_costs) l5 c5 k5
  have F6 := fun_mk (st := s_check_ranges) l6 c6 k6
  have F7 := fun_mk (st := s_law_pool) l7 c7 k7
  have F8 := fun_mk (st := s_law_spread) l8 c8 k8
  have F9 := fun_mk (st := s_law_draw) l9 c9 k9
  have F10 := fun_mk (st := s_law_same) l10 c10 k10
  have F11 := fun_mk (st := s_law_bits) l11 c11 k11
  have F12 := fun_mk (st := s_law_table) l12 c12 k12
  have F13 := fun_mk (st := s_law_register) l13 c13 k13
  have F14 := fun_mk (st := s_law_shuffled) l14 c14 k14
  have F15 := fun_mk (st := s_law_circuit) l15 c15 k15
  have F16 := fun_mk (st := s_law_sizes) l16 c16 k16
  have F17 := fun_mk (st := s_law_told) l17 c17 k17
  have F18 := fun_mk (st := s_law_fault) l18 c18 k18
  have F19 := fun_mk (st := s_law) l19 c19 k19
  have A : All K mg := ⟨⟨f0, _, F0, PySem.W.mg_of X G a0, F0.binds (ps := ["pair"]) fun _ _ _ _ _ _ us hl => match us, hl with | [_], _ => rfl⟩,
    ⟨f1, _, F1, PySem.W.mg_of X G a1, F1.binds (ps := ["circuit", "rows"]) fun _ _ _ _ _ _ us hl => match us, hl with | [_, _], _ => rfl⟩,
    ⟨f2, _, F2, PySem.W.mg_of X G a2, F2.binds (ps := ["circuit", "sizes", "choice"]) fun _ _ _ _ _ _ us hl => match us, hl with | [_, _, _], _ => rfl⟩,
    ⟨f3, _, F3, PySem.W.mg_of X G a3, F3.binds (ps := ["sizes", "choice"]) fun _ _ _ _ _ _ us hl => match us, hl with | [_, _], _ => rfl⟩,
    ⟨f4, _, F4, PySem.W.mg_of X G a4, F4.binds (ps := ["circuit", "sizes"]) fun _ _ _ _ _ _ us hl => match us, hl with | [_, _], _ => rfl⟩,
    ⟨f5, _, F5, PySem.W.mg_of X G a5, F5.binds (ps := ["sizes"]) fun _ _ _ _ _ _ us hl => match us, hl with | [_], _ => rfl⟩,
    ⟨f6, _, F6, PySem.W.mg_of X G a6, F6.binds (ps := ["sizes"]) fun _ _ _ _ _ _ us hl => match us, hl with | [_], _ => rfl⟩,
    ⟨f7, _, F7, PySem.W.mg_of X G a7, F7.binds (ps := ["script"]) fun _ _ _ _ _ _ us hl => match us, hl with | [_], _ => rfl⟩,
    ⟨f8, _, F8, PySem.W.mg_of X G a8, F8.binds (ps := ["cell"]) fun _ _ _ _ _ _ us hl => match us, hl with | [_], _ => rfl⟩,
    ⟨f9, _, F9, PySem.W.mg_of X G a9, F9.binds (ps := ["pool", "many"]) fun _ _ _ _ _ _ us hl => match us, hl with | [_, _], _ => rfl⟩,
    ⟨f10, _, F10, PySem.W.mg_of X G a10, F10.binds (ps := ["actual", "due"]) fun _ _ _ _ _ _ us hl => match us, hl with | [_, _], _ => rfl⟩,
    ⟨f11, _, F11, PySem.W.mg_of X G a11, F11.binds (ps := ["index", "many"]) fun _ _ _ _ _ _ us hl => match us, hl with | [_, _], _ => rfl⟩,
    ⟨f12, _, F12, PySem.W.mg_of X G a12, F12.binds (ps := ["pool", "many"]) fun _ _ _ _ _ _ us hl => match us, hl with | [_, _], _ => rfl⟩,
    ⟨f13, _, F13, PySem.W.mg_of X G a13, F13.binds (ps := ["pool", "name", "net"]) fun _ _ _ _ _ _ us hl => match us, hl with | [_, _, _], _ => rfl⟩,
    ⟨f14, _, F14, PySem.W.mg_of X G a14, F14.binds (ps := ["pool", "rows"]) fun _ _ _ _ _ _ us hl => match us, hl with | [_, _], _ => rfl⟩,
    ⟨f15, _, F15, PySem.W.mg_of X G a15, F15.binds (ps := ["pool", "most"]) fun _ _ _ _ _ _ us hl => match us, hl with | [_, _], _ => rfl⟩,
    ⟨f16, _, F16, PySem.W.mg_of X G a16, F16.binds (ps := ["pool", "circuit"]) fun _ _ _ _ _ _ us hl => match us, hl with | [_, _], _ => rfl⟩,
    ⟨f17, _, F17, PySem.W.mg_of X G a17, F17.binds (ps := ["circuit", "sizes", "choice"]) fun _ _ _ _ _ _ us hl => match us, hl with | [_, _, _], _ => rfl⟩,
    ⟨f18, _, F18, PySem.W.mg_of X G a18, F18.binds (ps := ["pool", "sizes", "choice", "kind"]) fun _ _ _ _ _ _ us hl => match us, hl with | [_, _, _, _], _ => rfl⟩,
    PySem.W.mg_none_of X G z0,
    PySem.W.mg_none_of X G z1,
    PySem.W.mg_none_of X G z2,
    PySem.W.mg_none_of X G z3,
    PySem.W.mg_none_of X G z4,
    PySem.W.mg_none_of X G z5,
    PySem.W.mg_none_of X G z6,
    PySem.W.mg_none_of X G z7,
    PySem.W.mg_none_of X G z8,
    PySem.W.mg_none_of X G z9,
    PySem.W.mg_none_of X G z10,
    PySem.W.mg_none_of X G z11,
    PySem.W.mg_none_of X G z12,
    PySem.W.mg_none_of X G z13,
    PySem.W.mg_none_of X G z14,
    ⟨_, PySem.W.mg_of X G g0⟩,
    ⟨iC0, ⟨⟨PySem.W.mg_of X G w0_0, w0_1, w0_2, w0_3, w0_4⟩, w0_5, w0_6, ⟨w0_7, w0_8, w0_3, w0_5, w0_9, w0_10, w0_11, w0_12⟩⟩, ⟨iD0_0, PySem.W.mg_of X G w0_13, w0_14⟩, ⟨iD0_1, PySem.W.mg_of X G w0_15, w0_16⟩, ⟨iD0_2, PySem.W.mg_of X G w0_17, w0_18⟩, ⟨iD0_3, PySem.W.mg_of X G w0_19, PySem.W.exm_ref w0_20 w0_21 w0_22 w0_23⟩⟩,
    ⟨iC1, ⟨⟨PySem.W.mg_of X G w1_0, w1_1, w1_2, w1_3, w1_4⟩, w1_5, w1_6, ⟨w1_7, w1_8, w1_3, w1_5, w1_9, w1_10, w1_11, w1_12⟩⟩, ⟨iD1_0, PySem.W.mg_of X G w1_13, w1_14⟩, ⟨iD1_1, PySem.W.mg_of X G w1_15, w1_16⟩, ⟨iD1_2, PySem.W.mg_of X G w1_17, w1_18⟩, ⟨iD1_3, PySem.W.mg_of X G w1_19, PySem.W.exm_ref w1_20 w1_21 w1_22 w1_23⟩⟩,
    ⟨iC2, ⟨⟨PySem.W.mg_of X G w2_0, w2_1, w2_2, w2_3, w2_4⟩, w2_5, w2_6, ⟨w2_7, w2_8, w2_3, w2_5, w2_9, w2_10, w2_11, w2_12⟩⟩, ⟨iD2_0, PySem.W.mg_of X G w2_13, w2_14⟩, ⟨iD2_1, PySem.W.mg_of X G w2_15, w2_16⟩, ⟨iD2_2, PySem.W.mg_of X G w2_17, w2_18⟩, ⟨iD2_3, PySem.W.mg_of X G w2_19, PySem.W.exm_ref w2_20 w2_21 w2_22 w2_23⟩⟩⟩
  exact ⟨_, fun s v => .of_eq rfl, fun base _ _ => glue A F19⟩
end G
open PySem PySem.W PyProof.Rows
set_option maxRecDepth 100000 in
set_option maxHeartbeats 0 in
theorem PySem.Challenge.cw_signoff_k81_sizes_put_in_holds : PySem.Challenge.rw_signoff_k81_sizes_put_in.Holds := by
  w_on; o_law; k_head; (case hw => w_witness2)
  k_fill
  refine L2.walk_of (l := PySem.Challenge.rw_signoff_k81_sizes_put_in) (n := 63) (k := 7) (x := "script") (CX := fun _ => L2.CX0) (sp := fun w => G.spLaw _) rfl (by decide) rfl ⟨rfl, by decide, by decide⟩ (fun w h Y => PySem.W.kIn_of Y) ?F (fun _ _ a ns hl _ hS => ⟨a, ns, rfl, hS, hl, fun _ => rfl⟩) (fun _ _ _ _ _ h => h)
  case F =>
    intro w mg fa h KX GN hmg
    refine' G.all_mk KX GN hmg ?a0 ?l0 ?c0 ?k0 ?a1 ?l1 ?c1 ?k1 ?a2 ?l2 ?c2 ?k2 ?a3 ?l3 ?c3 ?k3 ?a4 ?l4 ?c4 ?k4 ?a5 ?l5 ?c5 ?k5 ?a6 ?l6 ?c6 ?k6 ?a7 ?l7 ?c7 ?k7 ?a8 ?l8 ?c8 ?k8 ?a9 ?l9 ?c9 ?k9 ?a10 ?l10 ?c10 ?k10 ?a11 ?l11 ?c11 ?k11 ?a12 ?l12 ?c12 ?k12 ?a13 ?l13 ?c13 ?k13 ?a14 ?l14 ?c14 ?k14 ?a15 ?l15 ?c15 ?k15 ?a16 ?l16 ?c16 ?k16 ?a17 ?l17 ?c17 ?k17 ?a18 ?l18 ?c18 ?k18 ?a19 ?l19 ?c19 ?k19 ?cg0 ?xw0_0 ?xw0_1 ?xw0_2 ?xw0_3 ?xw0_4 ?xw0_5 ?xw0_6 ?xw0_7 ?xw0_8 ?xw0_9 ?xw0_10 ?xw0_11 ?xw0_12 ?xw0_13 ?xw0_14 ?xw0_15 ?xw0_16 ?xw0_17 ?xw0_18 ?xw0_19 ?xw0_20 ?xw0_21 ?xw0_22 ?xw0_23 ?xw1_0 ?xw1_1 ?xw1_2 ?xw1_3 ?xw1_4 ?xw1_5 ?xw1_6 ?xw1_7 ?xw1_8 ?xw1_9 ?xw1_10 ?xw1_11 ?xw1_12 ?xw1_13 ?xw1_14 ?xw1_15 ?xw1_16 ?xw1_17 ?xw1_18 ?xw1_19 ?xw1_20 ?xw1_21 ?xw1_22 ?xw1_23 ?xw2_0 ?xw2_1 ?xw2_2 ?xw2_3 ?xw2_4 ?xw2_5 ?xw2_6 ?xw2_7 ?xw2_8 ?xw2_9 ?xw2_10 ?xw2_11 ?xw2_12 ?xw2_13 ?xw2_14 ?xw2_15 ?xw2_16 ?xw2_17 ?xw2_18 ?xw2_19 ?xw2_20 ?xw2_21 ?xw2_22 ?xw2_23 ?z0 ?z1 ?z2 ?z3 ?z4 ?z5 ?z6 ?z7 ?z8 ?z9 ?z10 ?z11 ?z12 ?z13 ?z14
    (case a0 => k_is)
    (case l0 => k_is)
    (case c0 => k_is)
    (case k0 => k_is)
    (case a1 => k_is)
    (case l1 => k_is)
    (case c1 => k_is)
    (case k1 => k_is)
    (case a2 => k_is)
    (case l2 => k_is)
    (case c2 => k_is)
    (case k2 => k_is)
    (case a3 => k_is)
    (case l3 => k_is)
    (case c3 => k_is)
    (case k3 => k_is)
    (case a4 => k_is)
    (case l4 => k_is)
    (case c4 => k_is)
    (case k4 => k_is)
    (case a5 => k_is)
    (case l5 => k_is)
    (case c5 => k_is)
    (case k5 => k_is)
    (case a6 => k_is)
    (case l6 => k_is)
    (case c6 => k_is)
    (case k6 => k_is)
    (case a7 => k_is)
    (case l7 => k_is)
    (case c7 => k_is)
    (case k7 => k_is)
    (case a8 => k_is)
    (case l8 => k_is)
    (case c8 => k_is)
    (case k8 => k_is)
    (case a9 => k_is)
    (case l9 => k_is)
    (case c9 => k_is)
    (case k9 => k_is)
    (case a10 => k_is)
    (case l10 => k_is)
    (case c10 => k_is)
    (case k10 => k_is)
    (case a11 => k_is)
    (case l11 => k_is)
    (case c11 => k_is)
    (case k11 => k_is)
    (case a12 => k_is)
    (case l12 => k_is)
    (case c12 => k_is)
    (case k12 => k_is)
    (case a13 => k_is)
    (case l13 => k_is)
    (case c13 => k_is)
    (case k13 => k_is)
    (case a14 => k_is)
    (case l14 => k_is)
    (case c14 => k_is)
    (case k14 => k_is)
    (case a15 => k_is)
    (case l15 => k_is)
    (case c15 => k_is)
    (case k15 => k_is)
    (case a16 => k_is)
    (case l16 => k_is)
    (case c16 => k_is)
    (case k16 => k_is)
    (case a17 => k_is)
    (case l17 => k_is)
    (case c17 => k_is)
    (case k17 => k_is)
    (case a18 => k_is)
    (case l18 => k_is)
    (case c18 => k_is)
    (case k18 => k_is)
    (case a19 => k_is)
    (case l19 => k_is)
    (case c19 => k_is)
    (case k19 => k_is)
    (case cg0 => k_is)
    (case xw0_0 => first | k_exc | k_is | rfl)
    (case xw0_1 => first | k_exc | k_is | rfl)
    (case xw0_2 => first | k_exc | k_is | rfl)
    (case xw0_3 => first | k_exc | k_is | rfl)
    (case xw0_4 => first | k_exc | k_is | rfl)
    (case xw0_5 => first | k_exc | k_is | rfl)
    (case xw0_6 => first | k_exc | k_is | rfl)
    (case xw0_7 => first | k_exc | k_is | rfl)
    (case xw0_8 => first | k_exc | k_is | rfl)
    (case xw0_9 => first | k_exc | k_is | rfl)
    (case xw0_10 => first | k_exc | k_is | rfl)
    (case xw0_11 => first | k_exc | k_is | rfl)
    (case xw0_12 => first | k_exc | k_is | rfl)
    (case xw0_13 => first | k_exc | k_is | rfl)
    (case xw0_14 => first | k_exc | k_is | rfl)
    (case xw0_15 => first | k_exc | k_is | rfl)
    (case xw0_16 => first | k_exc | k_is | rfl)
    (case xw0_17 => first | k_exc | k_is | rfl)
    (case xw0_18 => first | k_exc | k_is | rfl)
    (case xw0_19 => first | k_exc | k_is | rfl)
    (case xw0_20 => first | k_exc | k_is | rfl)
    (case xw0_21 => first | k_exc | k_is | rfl)
    (case xw0_22 => first | k_exc | k_is | rfl)
    (case xw0_23 => first | k_exc | k_is | rfl)
    (case xw1_0 => first | k_exc | k_is | rfl)
    (case xw1_1 => first | k_exc | k_is | rfl)
    (case xw1_2 => first | k_exc | k_is | rfl)
    (case xw1_3 => first | k_exc | k_is | rfl)
    (case xw1_4 => first | k_exc | k_is | rfl)
    (case xw1_5 => first | k_exc | k_is | rfl)
    (case xw1_6 => first | k_exc | k_is | rfl)
    (case xw1_7 => first | k_exc | k_is | rfl)
    (case xw1_8 => first | k_exc | k_is | rfl)
    (case xw1_9 => first | k_exc | k_is | rfl)
    (case xw1_10 => first | k_exc | k_is | rfl)
    (case xw1_11 => first | k_exc | k_is | rfl)
    (case xw1_12 => first | k_exc | k_is | rfl)
    (case xw1_13 => first | k_exc | k_is | rfl)
    (case xw1_14 => first | k_exc | k_is | rfl)
    (case xw1_15 => first | k_exc | k_is | rfl)
    (case xw1_16 => first | k_exc | k_is | rfl)
    (case xw1_17 => first | k_exc | k_is | rfl)
    (case xw1_18 => first | k_exc | k_is | rfl)
    (case xw1_19 => first | k_exc | k_is | rfl)
    (case xw1_20 => first | k_exc | k_is | rfl)
    (case xw1_21 => first | k_exc | k_is | rfl)
    (case xw1_22 => first | k_exc | k_is | rfl)
    (case xw1_23 => first | k_exc | k_is | rfl)
    (case xw2_0 => first | k_exc | k_is | rfl)
    (case xw2_1 => first | k_exc | k_is | rfl)
    (case xw2_2 => first | k_exc | k_is | rfl)
    (case xw2_3 => first | k_exc | k_is | rfl)
    (case xw2_4 => first | k_exc | k_is | rfl)
    (case xw2_5 => first | k_exc | k_is | rfl)
    (case xw2_6 => first | k_exc | k_is | rfl)
    (case xw2_7 => first | k_exc | k_is | rfl)
    (case xw2_8 => first | k_exc | k_is | rfl)
    (case xw2_9 => first | k_exc | k_is | rfl)
    (case xw2_10 => first | k_exc | k_is | rfl)
    (case xw2_11 => first | k_exc | k_is | rfl)
    (case xw2_12 => first | k_exc | k_is | rfl)
    (case xw2_13 => first | k_exc | k_is | rfl)
    (case xw2_14 => first | k_exc | k_is | rfl)
    (case xw2_15 => first | k_exc | k_is | rfl)
    (case xw2_16 => first | k_exc | k_is | rfl)
    (case xw2_17 => first | k_exc | k_is | rfl)
    (case xw2_18 => first | k_exc | k_is | rfl)
    (case xw2_19 => first | k_exc | k_is | rfl)
    (case xw2_20 => first | k_exc | k_is | rfl)
    (case xw2_21 => first | k_exc | k_is | rfl)
    (case xw2_22 => first | k_exc | k_is | rfl)
    (case xw2_23 => first | k_exc | k_is | rfl)
    (case z0 => k_is)
    (case z1 => k_is)
    (case z2 => k_is)
    (case z3 => k_is)
    (case z4 => k_is)
    (case z5 => k_is)
    (case z6 => k_is)
    (case z7 => k_is)
    (case z8 => k_is)
    (case z9 => k_is)
    (case z10 => k_is)
    (case z11 => k_is)
    (case z12 => k_is)
    (case z13 => k_is)
    (case z14 => k_is)
#print axioms PySem.Challenge.cw_signoff_k81_sizes_put_in_holds
