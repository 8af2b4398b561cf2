import PyProof.Rows.All
import Wide.All
import OpenK.AllK
import Wide.FinOn
import HandS.ForMost
import HandS.Evl
import HandS.Wide
import HandS.WideBits
import HandS.Flow
import HandS.IsInst
import HandS.TupAny
import HandS.Walk
import HandS.Zip
import HandS.Steps
import KE.GoesMore
import KE.GoesEnum
import KE.KEqSeq
import HandS.ForExc
import HandS.ExcIs
import HandS.Property
import HandS.Style
import HandS.Small
import PySem.Challenge.RW_signoff_k37_windows
set_option Elab.async false
set_option linter.all false
set_option maxRecDepth 100000
set_option maxHeartbeats 4000000
set_option Elab.async false
set_option linter.all false
set_option maxRecDepth 100000
set_option maxHeartbeats 4000000
namespace G
open PySem PySem.Spec PyProof.Rows L2 Evl
/-! ## defs by name -/
def Dfd (K : PySem.W.Frag) (mg : Str → Option Value) (x : Str) (st : Stmt) (ps : List Str) : Prop := ∃ (f : Addr) (fd : FuncData), Fun K x x st f fd ∧ mg x = some (.ref f) ∧ Binds K fd ps []
def Has (P : Program) (w : World) (K : PySem.W.Frag) (mg : Str → Option Value) (base : Heap) (k : Nat) (x : Str) (ps : List Str) (sp : Sp) : Prop :=
  ∃ (f : Addr) (fd : FuncData), FnOk P w K mg base CX0 k f fd ps sp ∧ mg x = some (.ref f) ∧ PySem.W.keepIn K (.ref f) = true ∧ Binds K fd ps []
section
variable {P : Program} {w : World} {K : PySem.W.Frag} {mg : Str → Option Value} {base : Heap}
theorem Dfd.has {x : Str} {st : Stmt} {ps : List Str} {k : Nat} {sp : Sp} (d : Dfd K mg x st ps) (h : ∀ f fd, Fun K x x st f fd → FnOk P w K mg base CX0 k f fd ps sp) : Has P w K mg base k x ps sp := by
  obtain ⟨f, fd, F, g, b⟩ := d
  exact ⟨f, fd, h f fd F, g, F.kp, b⟩
theorem Has.mono {x : Str} {ps : List Str} {j k : Nat} {sp : Sp} (h : Has P w K mg base j x ps sp) (l : j ≤ k) : Has P w K mg base k x ps sp := by
  obtain ⟨f, fd, F, g⟩ := h
  exact ⟨f, fd, F.mono l, g⟩
theorem Has.imp {x : Str} {ps : List Str} {k : Nat} {sp sp' : Sp} (h : Has P w K mg base k x ps sp) (i : ∀ vs H Q E, sp' vs H Q E → sp vs H Q E) : Has P w K mg base k x ps sp' := by
  obtain ⟨f, fd, F, g⟩ := h
  exact ⟨f, fd, F.imp i, g⟩
end
/-! ## heaps -/
theorem sq_ex {K : PySem.W.Frag} {H H' : Hp} {a : Addr} {xs : List V} (e : Ex H H') (h : SqL K H a xs) : SqL K H' a xs := ex_l e h
/-- the heap without what stands at p -/
def hid (p : Addr) (H : Hp) : Hp := fun b => if b = p then none else H b
theorem hid_self {p : Addr} {H : Hp} : hid p H p = none := by unfold hid; rw [if_pos rfl]
theorem hid_ne {p b : Addr} {H : Hp} (h : b ≠ p) : hid p H b = H b := by unfold hid; rw [if_neg h]
theorem hid_get {p b : Addr} {H : Hp} {o : HO} (h : hid p H b = some o) : H b = some o := by
  by_cases e : b = p
  · subst e; rw [hid_self] at h; cases h
  · rw [hid_ne e] at h; exact h
theorem hid_neq {p b : Addr} {H : Hp} {o : HO} (h : hid p H b = some o) : b ≠ p := by
  intro e; subst e; rw [hid_self] at h; cases h
theorem hid_ex {p : Addr} {H : Hp} : Ex (hid p H) H := fun _ _ h => hid_get h
theorem hid_upd {p : Addr} {H : Hp} {o : HO} : hid p (upd H p o) = hid p H := by
  funext b
  by_cases e : b = p
  · subst e; rw [hid_self, hid_self]
  · rw [hid_ne e, hid_ne e, upd_ne e]
theorem hid_upd_ne {p q : Addr} {H : Hp} {o : HO} (h : q ≠ p) : hid p (upd H q o) = upd (hid p H) q o := by
  funext b
  by_cases e2 : b = q
  · subst e2; rw [hid_ne h, upd_same, upd_same]
  · rw [upd_ne e2]
    by_cases e : b = p
    · subst e; rw [hid_self, hid_self]
    · rw [hid_ne e, hid_ne e, upd_ne e2]
theorem hid_none {p b : Addr} {H : Hp} (h : H b = none) : hid p H b = none := by
  unfold hid; split
  · rfl
  · exact h
/-! ## the pool of draws: the list at p, the script's copy at a -/
def PoolOk (p a : Addr) (H : Hp) : Prop := ∃ (ns : List Int) (i : Nat) (c k s : Int), H p = some (.lst [.ref a, .int i, .int c, .int k, .int s]) ∧ hid p H a = some (.lst (ns.map V.int)) ∧ ns.length ≤ 1000
/-- from H to H' all but the pool is kept, and the pool is a pool -/
structure Px (p a : Addr) (H H' : Hp) : Prop where
  was : PoolOk p a H
  pool : PoolOk p a H'
  ex : Ex (hid p H) (hid p H')
section
variable {p a : Addr} {H H1 H2 H' : Hp}
theorem Px.refl (h : PoolOk p a H) : Px p a H H := ⟨h, h, Ex.refl _⟩
theorem Px.trans (x : Px p a H H1) (y : Px p a H1 H2) : Px p a H H2 := ⟨x.was, y.pool, x.ex.trans y.ex⟩
theorem PoolOk.ne {b : Addr} (h : PoolOk p a H) (n : H b = none) : b ≠ p := by
  obtain ⟨_, _, _, _, _, e, _⟩ := h
  exact (ne_of_none e n).symm
theorem PoolOk.ne2 {b : Addr} (h : PoolOk p a H) (n : H b = none) : a ≠ b := by
  obtain ⟨_, _, _, _, _, _, e, _⟩ := h
  exact ne_of_none (hid_get e) n
theorem PoolOk.kept (h : PoolOk p a H) (e : Ex H H') : PoolOk p a H' := by
  obtain ⟨ns, i, c, k, s, h1, h2, h3⟩ := h
  exact ⟨ns, i, c, k, s, e _ _ h1, by rw [hid_ne (hid_neq h2)]; exact e _ _ (hid_get h2), h3⟩
theorem Px.ofEx (h : PoolOk p a H) (e : Ex H H') : Px p a H H' := ⟨h, h.kept e, fun b o hb => by rw [hid_ne (hid_neq hb)]; exact e _ _ (hid_get hb)⟩
theorem Px.more (x : Px p a H H1) (e : Ex H1 H2) : Px p a H H2 := x.trans (Px.ofEx x.pool e)
theorem Px.draw {o : HO} (w : PoolOk p a H) (h : PoolOk p a (upd H p o)) : Px p a H (upd H p o) := ⟨w, h, by rw [hid_upd]; exact Ex.refl _⟩
theorem Px.new (x : Px p a H H1) {l : Addr} {o : HO} (n : H1 l = none) : Px p a H (upd H1 l o) := x.more (Ex.new n)
/-- what H has is kept -/
theorem Px.get (x : Px p a H H1) {b : Addr} {o : HO} (h : hid p H b = some o) : hid p H1 b = some o := x.ex _ _ h
theorem Px.at_ (x : Px p a H H1) {b : Addr} {o : HO} (h : hid p H b = some o) : H1 b = some o := hid_get (x.ex _ _ h)
theorem Px.free (x : Px p a H H1) {b : Addr} (n : H1 b = none) : H b = none := by
  cases e : H b with
  | none => rfl
  | some o =>
    have hb : b ≠ p := x.pool.ne n
    have := x.ex b o (by rw [hid_ne hb]; exact e)
    rw [hid_get this] at n; cases n
/-- an object that H does not have may change -/
theorem Px.mut (x : Px p a H H1) {l : Addr} {o : HO} (n : H l = none) : Px p a H (upd H1 l o) := by
  have hl : l ≠ p := x.was.ne n
  have ha : a ≠ l := x.was.ne2 n
  refine ⟨x.was, ?_, ?_⟩
  · obtain ⟨ns, i, c, k, s, h1, h2, h3⟩ := x.pool
    exact ⟨ns, i, c, k, s, by rw [upd_ne hl.symm]; exact h1, by rw [hid_upd_ne hl, upd_ne ha]; exact h2, h3⟩
  · rw [hid_upd_ne hl]; exact Ex.mut x.ex (hid_none n)
/-- a fresh object stands apart from the pool -/
theorem Px.seen (x : Px p a H H1) {l : Addr} {o : HO} (n : H l = none) (e : H1 l = some o) : hid p H1 l = some o := by
  rw [hid_ne (x.was.ne n)]; exact e
end
end G
namespace G
open PySem PySem.Spec PyProof.Rows L2 Evl
/-! ## comprehensions whose elements are plain values -/
theorem given_all {n : Nat} {v : Nat → V} : given n (fun _ => true) v = (List.range n).map v := by
  unfold given
  rw [List.filter_eq_self.mpr (fun _ _ => rfl)]
section
variable {lo : Int} {n j : Nat} {tt : TT} {te : TE} {vs : List Nat} {σ : L2.St} {H1 : Hp} {D : Addr} {Qd : Hp → Prop} {K : PySem.W.Frag} {a : Addr} {xs : List V}
theorem lc_turn {f : Nat → Bool} {v : Nat → V} {i : Nat} {H : Hp} {σ2 : L2.St} (e : H = upd H1 D (.lst (given i f v))) (hi : i < 100000) (ht : Ans tt σ2 H (f i)) (he : f i = true → Val te σ2 H (v i)) :
    tt σ2 H fun b H3 => if b = true then te σ2 H3 fun y H4 => ∃ acc, H4 D = some (.lst acc) ∧ acc.length < sizeLine ∧ (upd H4 D (.lst (acc ++ [y]))) = upd H1 D (.lst (given (i + 1) f v)) else H3 = upd H1 D (.lst (given (i + 1) f v)) := by
  refine ht _ ?_
  subst e
  cases hf : f i with
  | true =>
    refine iteT (he hf _ ⟨_, upd_same, sz_lt (by have := given_len i f v; omega), ?_⟩)
    rw [given_yes hf, upd_upd]
  | false =>
    refine iteF ?_
    rw [given_no hf]
theorem lcR (f : Nat → Bool) (v : Nat → V) (hn : n ≤ 100000) (hw : ∀ x, wipe ((wipe σ vs).set j (some x)) vs = wipe σ vs)
    (ht : ∀ (i : Nat) (H : Hp), i < n → H = upd H1 D (.lst (given i f v)) → Ans tt ((wipe σ vs).set j (some (.int (lo + i)))) H (f i))
    (he : ∀ (i : Nat) (H : Hp), i < n → H = upd H1 D (.lst (given i f v)) → f i = true → Val te ((wipe σ vs).set j (some (.int (lo + i)))) H (v i)) (q : Qd (upd H1 D (.lst (given n f v)))) :
    ∃ W : Nat → Nat → Hp → Prop, (∃ m, W 0 m (upd H1 D (.lst []))) ∧ ∀ i m H, W i m H →
      ((Itr lo n).stop i H ∧ Qd H) ∨ ((Itr lo n).go i H ∧ ∃ Nx : Hp → Prop, (∀ H', Nx H' → ∃ m', m' < m ∧ W (i + 1) m' H') ∧ ∀ x H', (Itr lo n).yld i H x H' → gName j x (wipe σ vs) H' fun σ2 H2 => wipe σ2 vs = wipe σ vs ∧ tt σ2 H2 fun b H3 =>
        if b = true then te σ2 H3 fun y H4 => ∃ acc, H4 D = some (.lst acc) ∧ acc.length < sizeLine ∧ Nx (upd H4 D (.lst (acc ++ [y]))) else Nx H3) :=
  lc_range (fun i H => H = upd H1 D (.lst (given i f v))) rfl (fun i H hi e => ⟨hw _, lc_turn e (by omega) (ht i H hi e) (he i H hi e)⟩) (fun H e => by rw [e]; exact q)
theorem lcRv (v : Nat → V) (hn : n ≤ 100000) (hw : ∀ x, wipe ((wipe σ vs).set j (some x)) vs = wipe σ vs)
    (he : ∀ (i : Nat) (H : Hp), i < n → H = upd H1 D (.lst (given i (fun _ => true) v)) → Val te ((wipe σ vs).set j (some (.int (lo + i)))) H (v i)) (q : Qd (upd H1 D (.lst ((List.range n).map v)))) :
    ∃ W : Nat → Nat → Hp → Prop, (∃ m, W 0 m (upd H1 D (.lst []))) ∧ ∀ i m H, W i m H →
      ((Itr lo n).stop i H ∧ Qd H) ∨ ((Itr lo n).go i H ∧ ∃ Nx : Hp → Prop, (∀ H', Nx H' → ∃ m', m' < m ∧ W (i + 1) m' H') ∧ ∀ x H', (Itr lo n).yld i H x H' → gName j x (wipe σ vs) H' fun σ2 H2 => wipe σ2 vs = wipe σ vs ∧ tYes σ2 H2 fun b H3 =>
        if b = true then te σ2 H3 fun y H4 => ∃ acc, H4 D = some (.lst acc) ∧ acc.length < sizeLine ∧ Nx (upd H4 D (.lst (acc ++ [y]))) else Nx H3) :=
  lcR (fun _ => true) v hn hw (fun _ _ _ _ => fun _ q => q) (fun i H hi e _ => he i H hi e) (by rw [given_all]; exact q)
theorem lcL (f : Nat → Bool) (v : Nat → V) (hx : SqL K H1 a xs) (hD : H1 D = none) (hn : xs.length ≤ 100000) (hw : ∀ x, wipe ((wipe σ vs).set j (some x)) vs = wipe σ vs)
    (ht : ∀ (i : Nat) (x : V) (H : Hp), xs[i]? = some x → H = upd H1 D (.lst (given i f v)) → Ans tt ((wipe σ vs).set j (some x)) H (f i))
    (he : ∀ (i : Nat) (x : V) (H : Hp), xs[i]? = some x → H = upd H1 D (.lst (given i f v)) → f i = true → Val te ((wipe σ vs).set j (some x)) H (v i)) (q : Qd (upd H1 D (.lst (given xs.length f v)))) :
    ∃ W : Nat → Nat → Hp → Prop, (∃ m, W 0 m (upd H1 D (.lst []))) ∧ ∀ i m H, W i m H →
      ((Itl K a).stop i H ∧ Qd H) ∨ ((Itl K a).go i H ∧ ∃ Nx : Hp → Prop, (∀ H', Nx H' → ∃ m', m' < m ∧ W (i + 1) m' H') ∧ ∀ x H', (Itl K a).yld i H x H' → gName j x (wipe σ vs) H' fun σ2 H2 => wipe σ2 vs = wipe σ vs ∧ tt σ2 H2 fun b H3 =>
        if b = true then te σ2 H3 fun y H4 => ∃ acc, H4 D = some (.lst acc) ∧ acc.length < sizeLine ∧ Nx (upd H4 D (.lst (acc ++ [y]))) else Nx H3) :=
  lc_list (fun i H => H = upd H1 D (.lst (given i f v))) rfl (fun i H hi e => by rw [e]; exact ex_l (Ex.new hD) hx) (fun i x H hi e => ⟨hw _, lc_turn e (by have := (List.getElem?_eq_some_iff.mp hi).1; omega) (ht i x H hi e) (he i x H hi e)⟩) (fun H e => by rw [e]; exact q)
theorem lcT (f : Nat → Bool) (v : Nat → V) (hx : SqT K H1 a xs) (hD : H1 D = none) (hn : xs.length ≤ 100000) (hw : ∀ x, wipe ((wipe σ vs).set j (some x)) vs = wipe σ vs)
    (ht : ∀ (i : Nat) (x : V) (H : Hp), xs[i]? = some x → H = upd H1 D (.lst (given i f v)) → Ans tt ((wipe σ vs).set j (some x)) H (f i))
    (he : ∀ (i : Nat) (x : V) (H : Hp), xs[i]? = some x → H = upd H1 D (.lst (given i f v)) → f i = true → Val te ((wipe σ vs).set j (some x)) H (v i)) (q : Qd (upd H1 D (.lst (given xs.length f v)))) :
    ∃ W : Nat → Nat → Hp → Prop, (∃ m, W 0 m (upd H1 D (.lst []))) ∧ ∀ i m H, W i m H →
      ((Itt K a).stop i H ∧ Qd H) ∨ ((Itt K a).go i H ∧ ∃ Nx : Hp → Prop, (∀ H', Nx H' → ∃ m', m' < m ∧ W (i + 1) m' H') ∧ ∀ x H', (Itt K a).yld i H x H' → gName j x (wipe σ vs) H' fun σ2 H2 => wipe σ2 vs = wipe σ vs ∧ tt σ2 H2 fun b H3 =>
        if b = true then te σ2 H3 fun y H4 => ∃ acc, H4 D = some (.lst acc) ∧ acc.length < sizeLine ∧ Nx (upd H4 D (.lst (acc ++ [y]))) else Nx H3) :=
  lc_tup (fun i H => H = upd H1 D (.lst (given i f v))) rfl (fun i H hi e => by rw [e]; exact ex_t (Ex.new hD) hx) (fun i x H hi e => ⟨hw _, lc_turn e (by have := (List.getElem?_eq_some_iff.mp hi).1; omega) (ht i x H hi e) (he i x H hi e)⟩) (fun H e => by rw [e]; exact q)
theorem lcLm (g : V → V) (hx : SqL K H1 a xs) (hD : H1 D = none) (hn : xs.length ≤ 100000) (hw : ∀ x, wipe ((wipe σ vs).set j (some x)) vs = wipe σ vs)
    (he : ∀ (i : Nat) (x : V) (H : Hp), xs[i]? = some x → H = upd H1 D (.lst ((xs.take i).map g)) → Val te ((wipe σ vs).set j (some x)) H (g x)) (q : Qd (upd H1 D (.lst (xs.map g)))) :
    ∃ W : Nat → Nat → Hp → Prop, (∃ m, W 0 m (upd H1 D (.lst []))) ∧ ∀ i m H, W i m H →
      ((Itl K a).stop i H ∧ Qd H) ∨ ((Itl K a).go i H ∧ ∃ Nx : Hp → Prop, (∀ H', Nx H' → ∃ m', m' < m ∧ W (i + 1) m' H') ∧ ∀ x H', (Itl K a).yld i H x H' → gName j x (wipe σ vs) H' fun σ2 H2 => wipe σ2 vs = wipe σ vs ∧ tYes σ2 H2 fun b H3 =>
        if b = true then te σ2 H3 fun y H4 => ∃ acc, H4 D = some (.lst acc) ∧ acc.length < sizeLine ∧ Nx (upd H4 D (.lst (acc ++ [y]))) else Nx H3) :=
  lc_list (fun i H => H = upd H1 D (.lst ((xs.take i).map g))) (by rw [List.take_zero]; rfl) (fun i H hi e => by rw [e]; exact ex_l (Ex.new hD) hx)
    (fun i x H hi e => ⟨hw _, by
      refine iteT (B := H = upd H1 D (.lst ((xs.take (i + 1)).map g))) ?_
      refine he i x H hi e _ ?_
      subst e
      refine ⟨_, upd_same, sz_lt ?_, ?_⟩
      · rw [List.length_map, List.length_take]; have := (List.getElem?_eq_some_iff.mp hi).1; omega
      · rw [upd_upd, List.take_add_one, hi, List.map_append]; rfl⟩) (fun H e => by rw [e, List.take_length]; exact q)
theorem lcTm (g : V → V) (hx : SqT K H1 a xs) (hD : H1 D = none) (hn : xs.length ≤ 100000) (hw : ∀ x, wipe ((wipe σ vs).set j (some x)) vs = wipe σ vs)
    (he : ∀ (i : Nat) (x : V) (H : Hp), xs[i]? = some x → H = upd H1 D (.lst ((xs.take i).map g)) → Val te ((wipe σ vs).set j (some x)) H (g x)) (q : Qd (upd H1 D (.lst (xs.map g)))) :
    ∃ W : Nat → Nat → Hp → Prop, (∃ m, W 0 m (upd H1 D (.lst []))) ∧ ∀ i m H, W i m H →
      ((Itt K a).stop i H ∧ Qd H) ∨ ((Itt K a).go i H ∧ ∃ Nx : Hp → Prop, (∀ H', Nx H' → ∃ m', m' < m ∧ W (i + 1) m' H') ∧ ∀ x H', (Itt K a).yld i H x H' → gName j x (wipe σ vs) H' fun σ2 H2 => wipe σ2 vs = wipe σ vs ∧ tYes σ2 H2 fun b H3 =>
        if b = true then te σ2 H3 fun y H4 => ∃ acc, H4 D = some (.lst acc) ∧ acc.length < sizeLine ∧ Nx (upd H4 D (.lst (acc ++ [y]))) else Nx H3) :=
  lc_tup (fun i H => H = upd H1 D (.lst ((xs.take i).map g))) (by rw [List.take_zero]; rfl) (fun i H hi e => by rw [e]; exact ex_t (Ex.new hD) hx)
    (fun i x H hi e => ⟨hw _, by
      refine iteT (B := H = upd H1 D (.lst ((xs.take (i + 1)).map g))) ?_
      refine he i x H hi e _ ?_
      subst e
      refine ⟨_, upd_same, sz_lt ?_, ?_⟩
      · rw [List.length_map, List.length_take]; have := (List.getElem?_eq_some_iff.mp hi).1; omega
      · rw [upd_upd, List.take_add_one, hi, List.map_append]; rfl⟩) (fun H e => by rw [e, List.take_length]; exact q)
end
end G
namespace G
open PySem PySem.Spec PyProof.Rows L2 Evl
/-! ## rules within a comprehension's block: the written part by its letter -/
section
variable {X : Cx} {K : PySem.W.Frag}
theorem kIxT (h : X.K = K) : IxR X (rIxT K) := by subst h; exact ix_tup
theorem kIxL (h : X.K = K) : IxR X (rIxL K) := by subst h; exact ix_list
theorem kIx (h : X.K = K) : IxR X (rIx K) := by subst h; exact ix_seq
theorem kIn (h : X.K = K) : OpR X (compareOp .In) (rIn K false) := by subst h; exact op_in_seq
theorem kNotIn (h : X.K = K) : OpR X (compareOp .NotIn) (rIn K true) := by subst h; exact op_notIn_seq
theorem kLen (h : X.K = K) : CallR X (.builtin "len") (rLenS K) := by subst h; exact call_len_seq
theorem gStr {x s : Str} {t : Tok} {pos : Pos} (hg : Gl X x) (h : X.mg x = some (.str s t)) (hd : (x == ("__debug__" : Str)) = false := by decide) : PE X (.Name x pos) (tC (.str s)) := pe_glob (v := .str s) hg h ⟨t, rfl⟩ hd
theorem gInt {x : Str} {i : Int} {t : Tok} {pos : Pos} (hg : Gl X x) (h : X.mg x = some (.int i t)) (hd : (x == ("__debug__" : Str)) = false := by decide) : PE X (.Name x pos) (tC (.int i)) := pe_glob (v := .int i) hg h ⟨t, rfl⟩ hd
theorem gRef {x : Str} {a : Addr} {pos : Pos} (hg : Gl X x) (h : X.mg x = some (.ref a)) (hd : (x == ("__debug__" : Str)) = false := by decide) : PE X (.Name x pos) (tC (.ref a)) := pe_glob (v := .ref a) hg h rfl hd
theorem kSlL (h : X.K = K) : SlR X (rSlL K) := by subst h; exact sl_list
theorem kCatA (h : X.K = K) : OpR X (binaryOp .Add) (rCatA K) := by subst h; exact op_catA
theorem kAny (h : X.K = K) (hc : X.calm = true) : CallR X (.builtin "any") (rAny K) := by subst h; exact cr_any hc
theorem kAll (h : X.K = K) (hc : X.calm = true) : CallR X (.builtin "all") (rAll K) := by subst h; exact cr_all hc
theorem kLtT (h : X.K = K) (hu : X.A.units < cLine) : OpR X (compareOp .Lt) (rLtT K) := by subst h; exact op_ltT hu
theorem kPiT {e tg : Expr} {te : TE} (h : X.K = K) (he : PE X e te) : PI X tg e (iTup K te) := by subst h; exact pi_tup he
theorem kPiL {e tg : Expr} {te : TE} (h : X.K = K) (he : PE X e te) : PI X tg e (iList K te) := by subst h; exact pi_list he
theorem kSlA (h : X.K = K) : SlR X (rSlA K) := by subst h; exact sl_tupA
end
end G
namespace G
open PySem PySem.Spec PyProof.Rows L2 Evl
theorem dpAll_map {α : Type} {K : PySem.W.Frag} {H : Hp} {f : α → V} {g : α → PyData} (h : ∀ x, Dp K H (f x) (g x)) : ∀ l : List α, DpAll K H (l.map f) (l.map g)
  | [] => .nil
  | x :: r => .cons (h x) (dpAll_map h r)
theorem dp_ints {K : PySem.W.Frag} {H : Hp} {a : Addr} {ns : List Int} (h : SqL K H a (ns.map V.int)) : Dp K H (.ref a) (.list (ns.map PyData.int)) := .lst h (dpAll_map (fun i => .int i) ns)
theorem dp_nil {K : PySem.W.Frag} {H : Hp} {a : Addr} (h : SqL K H a []) : Dp K H (.ref a) (.list []) := .lst h .nil
theorem eqv_nil (l : List PyData) : PyData.eqv (.list l) (.list []) = l.isEmpty := by cases l <;> rfl
theorem shaped_nil : SeqAt.shaped (.list []) = true := by decide +kernel
end G
/-! enumerate over a tuple -/
namespace PySem
section
variable {prog : Program} {w : World} {A : Around} {E : Value → Shared → Prop} {s : Shared}
theorem G_tupOf {h : Heap} {a : Addr} {xs : Array Value} (p : PyProof.Rows.IsTup h a xs) : h.IsTuple a xs := p
set_option maxHeartbeats 2000000 in
theorem G_enumNew {v : Value} {o : Obj} {Hh : Heap → Prop} (B : Begins v o Hh) :
    Meets (Builtin.«enumerate.__new__» ⟨[.type "enumerate", v], []⟩) (fun _ R s => Hh s.heap ∧
      R (.ok (.ret (.ref (s.heap.push o).objs.size))) { s with heap := (s.heap.push o).push { cls := .type "enumerate", data := .fields #[.none, .bool false, .ref s.heap.objs.size, rawInt 0, .none, .none] } }) :=
  .of_wp fun pr wo ar rr sh hh => by
    obtain ⟨hp, gg, dd, tk, os⟩ := sh; obtain ⟨h1, h2⟩ := hh
    have sub0 := sub_enumerate
    have qq : ∀ {A' : Around} {E : Value → Shared → Prop} {Q : Value → Shared → Prop}, Q (.ref hp.objs.size) ⟨hp.push o, gg, dd, tk, os⟩ → wpAny (model pr wo) A' (pyIter v) Q E ⟨hp, gg, dd, tk, os⟩ :=
      fun z => B.iter pr wo _ _ ⟨hp, gg, dd, tk, os⟩ _ h1 z
    wp_walk using qq
    refine wpAny_stack_any fun _ => wpAny_pure ?_
    split
    · rename_i cc _ _ _ _ _
      cases (cc == Value.type "enumerate") <;> (wp_walk using qq; exact ⟨_, rfl, h2⟩)
    · wp_walk using qq
      exact ⟨_, rfl, h2⟩
theorem G_enumCall {v : Value} {o : Obj} {Hh : Heap → Prop} {Q : Value → Shared → Prop} (B : Begins v o Hh) (h1 : Hh s.heap)
    (k : ∀ h', IsEnum h' (s.heap.objs.size + 1) s.heap.objs.size 0 .none → h'.get? s.heap.objs.size = some o → (∀ b u, s.heap.get? b = some u → h'.get? b = some u) → Q (.ref (s.heap.objs.size + 1)) { s with heap := h' }) :
    wpAny (model prog w) A (call (.type "enumerate") [v]) Q E s := by
  refine callType_new F.called_enumerate (by decide) (F.typeCall_enumerate_1 _) (F.newCall_enumerate_1 _) (fun y => F.args_object_init_2 y _) F.entry_enumerate_new (G_enumNew B) ⟨h1, ?_⟩
  have hz : (s.heap.push o).objs.size = s.heap.objs.size + 1 := Heap.size_push ..
  show _ ∧ _
  rw [hz]
  have he : IsEnum ((s.heap.push o).push { cls := .type "enumerate", data := .fields #[.none, .bool false, .ref s.heap.objs.size, rawInt 0, .none, .none] }) (s.heap.objs.size + 1) s.heap.objs.size 0 .none := by
    have hs := Heap.get?_push_size (s.heap.push o) (o := { cls := .type "enumerate", data := .fields #[.none, .bool false, .ref s.heap.objs.size, rawInt 0, .none, .none] }) rfl
    rw [hz] at hs; exact hs
  exact ⟨⟨_, he, rfl⟩, k _ he (Heap.get?_push_of_some _ (Heap.get?_push_size _ B.free)) fun b u x => Heap.get?_push_of_some _ (Heap.get?_push_of_some _ x)⟩
end
end PySem
namespace G
open PySem PySem.Spec PyProof.Rows L2 Evl
/-- the tuple at a at each turn, each item in a new pair -/
def IteT (K : PySem.W.Frag) (a : Addr) : It :=
  ⟨fun i H => ∃ (xs : List V) (x : V), SqT K H a xs ∧ xs[i]? = some x,
   fun i H v H' => ∃ T x, v = .ref T ∧ H T = none ∧ H' = upd H T (.tup [.int (i : Nat), x]) ∧ ∀ xs, SqT K H a xs → xs[i]? = some x,
   fun i H => ∃ xs : List V, SqT K H a xs ∧ xs.length = i⟩
theorem turn_enumT {P : Program} {w : World} {K : PySem.W.Frag} {elts : List Expr} {kk : Nat} {tpos : Pos} (a e it : Addr) :
    Turn P w K (.Tuple elts kk tpos) (IteT K a) [e, it] e (fun i h => (∃ old, IsEnum h e it ((i : Nat) : Int) old) ∧ h.IsTupleIter it a i ∧ e ≠ it ∧ a ≠ it ∧ a ≠ e) where
  mem := by simp
  obj := fun i h st b hb => by
    obtain ⟨⟨old, he⟩, ⟨o, ho, hc, hd⟩, _⟩ := st
    have hb' : b = e ∨ b = it := by simpa using hb
    rcases hb' with z | z
    · rw [z]; exact ⟨_, he, fun v q => nomatch q⟩
    · rw [z]; exact ⟨o, ho, fun v q => by rw [hd] at q; cases q⟩
  keep := fun i h h' st k => by
    obtain ⟨⟨old, he⟩, hi, hne⟩ := st
    exact ⟨⟨old, k e (by simp) _ he⟩, hi.at fun o q => k it (by simp) o q, hne⟩
  item := by
    intro X hP hw hK hc i pins s σ H E I hf st hg
    subst hP hw hK
    obtain ⟨⟨old, he⟩, hit, hne, hai, hae⟩ := st
    obtain ⟨xs, x, hq, hx⟩ := hg
    obtain ⟨its, rv, p, hz⟩ := I.tuple hq
    obtain ⟨u, hu, ru⟩ := rv.get hx
    have hel : e < s.heap.objs.size := Heap.lt_size he
    have hil : it < s.heap.objs.size := by obtain ⟨_, q, _⟩ := hit; exact Heap.lt_size q
    have hh : X.A.handled = none := I.ok.hd hc
    refine wpAny_pyNext_enum_itemD (Draws.tuple (A := X.A.in1) hh it a hai its.toArray) he ⟨hit, p⟩ ?_ hne ?_ fun y h' tk hy ho hst hT hsz hk => ?_
    · have := (List.getElem?_eq_some_iff.mp hu).1
      simpa using this
    · intro hm
      have hm' : e = it ∨ e = a := by simpa using hm
      rcases hm' with z | z
      · exact hne z
      · exact hae z.symm
    · have ey : y = u := by
        have hy' : its[i]? = some y := by simpa using hy
        exact Option.some.inj (hy'.symm.trans hu)
      subst ey
      refine ⟨_, rfl, wpAny_letOwnedTupleGo_enum (s := { s with heap := h', toks := tk + 1 }) ho fun h'' he' sb => ?_⟩
      have hT2 : h''.get? s.heap.objs.size = some { cls := .type "tuple", data := .seq #[.int i tk, y] } := (sb.2 _ (Nat.ne_of_gt hel)).trans hT
      have new : ObjOk X.prog X.w (upd H s.heap.objs.size (.tup [.int (i : Nat), x])) h'' s.heap.objs.size (.tup [.int (i : Nat), x]) :=
        ⟨by show 2 ≤ sizeLine; decide, [.int i tk, y], .cons ⟨_, rfl⟩ (.cons ru .nil), ⟨_, hT2, rfl, _, rfl⟩⟩
      have I1 : Inv X pins σ (upd H s.heap.objs.size (.tup [.int (i : Nat), x])) { s with heap := h'', toks := tk + 1 } :=
        I.turnedNew (ch := [e, it]) (fun b ob hb q => (sb.2 b (fun z => hb (by simp [z]))).trans (hk b ob (fun z => hb (by simp [z])) (fun z => hb (by simp [z])) q)) hf (Nat.le_refl _) new
      refine ⟨.ref s.heap.objs.size, _, I1, rfl, ⟨_, x, rfl, I.hok.fresh (Nat.le_refl _), rfl, fun ys hy => by rw [I.tuple_inj hy hq]; exact hx⟩, ⟨⟨y, ?_⟩, hst.1.at fun o q => (sb.2 it (Ne.symm hne)).trans q, hne, hai, hae⟩, fun b hb => ?_⟩
      · have e1 : ((i + 1 : Nat) : Int) = (i : Int) + 1 := by omega
        rw [e1]; exact he'
      · have hb' : b < s.heap.objs.size := by
          have hb2 : b = e ∨ b = it := by simpa using hb
          rcases hb2 with z | z
          · rw [z]; exact hel
          · rw [z]; exact hil
        rw [upd_ne (Nat.ne_of_lt hb')]
        exact (hf b hb).1
  done := by
    intro X hP hw hK hc i pins s σ H E I hf st hg
    subst hP hw hK
    obtain ⟨⟨old, he⟩, hit, hne, hai, hae⟩ := st
    obtain ⟨xs, hq, hx⟩ := hg
    obtain ⟨its, rv, p, hz⟩ := I.tuple hq
    obtain ⟨f0, f1, f2, f3, f4, f5⟩ := hf it (by simp)
    have hl := rv.length
    have hh : X.A.handled = none := I.ok.hd hc
    have ei : its.toArray.size = i := by rw [List.size_toArray, ← hl]; exact hx
    have st2 : s.heap.IsTupleIter it a its.toArray.size ∧ s.heap.IsTuple a its.toArray := by rw [ei]; exact ⟨hit, p⟩
    exact wpAny_pyNext_enum_endD (Draws.tuple (A := X.A.in1) hh it a hai its.toArray) he st2 fun h' eb => ⟨rfl, I.turned (t' := s.toks) (fun b o hb q => eb b o hb q) f0 f1 f3 f4 f5⟩
  self := fun A i s Q E st h => by
    obtain ⟨⟨_, he⟩, _⟩ := st
    exact wpAny_pyIter_enum he h
def iEnumT (K : PySem.W.Frag) (ta : TA) : TI := fun σ H R => ta σ H fun vs H1 => ∃ a xs, vs = [.ref a] ∧ SqT K H1 a xs ∧ R (IteT K a) H1
theorem pi_enumT {X : Cx} {e : Expr} {ta : TA} {p pos tpos : Pos} {elts : List Expr} {kk : Nat} (hg : Gl X "enumerate") (hm : X.mg "enumerate" = none) (ha : PA X [e] ta) (hs : starEach [e] X.env = [(false, eval e X.env)] := by rfl) :
    PI X (.Tuple elts kk tpos) (.Call (.Name "enumerate" p) [e] [] pos) (iEnumT X.K ta) := by
  refine ⟨fun pins s σ H R I h => Call_ (ld_blt I hg hm boot_enumerate (PyProof.Rows.callWith_type1 (thn (ha.run pos pins s σ H _ I h) fun us s1 ⟨vs, H1, I1, r1, q1⟩ => ?_) hs rfl))⟩
  obtain ⟨a, xs, rfl, hq, q⟩ := q1
  cases r1 with
  | cons r rr =>
    cases rr
    cases r
    obtain ⟨its, rv, p', hz⟩ := I1.tuple hq
    have hal : a < s1.heap.objs.size := by obtain ⟨o, ho, _⟩ := p'; exact Heap.lt_size ho
    refine G_enumCall (begins_tuple a its.toArray) p' fun h' he hit hk => wpAny_pyIter_enum he ?_
    have I2 : Inv X pins σ H1 { s1 with heap := h' } := I1.kept (t' := s1.toks) hk
    refine ⟨s1.heap.objs.size + 1, [s1.heap.objs.size + 1, s1.heap.objs.size], _, _, H1, rfl, I2, turn_enumT a (s1.heap.objs.size + 1) s1.heap.objs.size,
      ⟨⟨.none, he⟩, ⟨_, hit, rfl, rfl⟩, Nat.succ_ne_self _, Nat.ne_of_lt hal, Nat.ne_of_lt (Nat.lt_succ_of_lt hal)⟩, fun b hb => ?_, q⟩
    have hb' : b = s1.heap.objs.size + 1 ∨ b = s1.heap.objs.size := by simpa using hb
    have hle : s1.heap.objs.size ≤ b := by
      rcases hb' with z | z
      · rw [z]; exact Nat.le_add_right _ _
      · rw [z]; exact Nat.le_refl _
    exact I1.fpOk hle (I1.hok.fresh hle)
theorem walk_enumT {K : PySem.W.Frag} {a : Addr} {xs : List V} : Walk (IteT K a) xs.length (fun H => SqT K H a xs) (YPair (fun i => some (.int (i : Nat))) (fun i => xs[i]?)) := by
  refine ⟨fun i _ hi q => ⟨xs, xs[i], q, by simp [hi]⟩, fun _ q => ⟨xs, q, rfl⟩, fun i H v H' _ q y => ?_⟩
  obtain ⟨T, x, h1, h2, h3, h4⟩ := y
  exact ⟨T, .int (i : Nat), x, h1, h2, h3, rfl, h4 xs q⟩
theorem kPiEnumT {X : Cx} {K : PySem.W.Frag} {e : Expr} {ta : TA} {p pos tpos : Pos} {elts : List Expr} {kk : Nat} (h : X.K = K) (hg : Gl X "enumerate") (hm : X.mg "enumerate" = none) (ha : PA X [e] ta) (hs : starEach [e] X.env = [(false, eval e X.env)] := by rfl) :
    PI X (.Tuple elts kk tpos) (.Call (.Name "enumerate" p) [e] [] pos) (iEnumT K ta) := by subst h; exact pi_enumT hg hm ha hs
end G
/-! t[a::2], t a tuple -/
namespace HT
open PySem PySem.Spec PyProof.Rows L2
section
variable {prog : Program} {w : World} {A : Around} {E : Value → Shared → Prop} {s : Shared}
theorem g_applied {sl : Addr} {vl vu vs : Value} {lo hi : Option Int} {st : Int} {n : Nat} {Q : Int × Int × Nat → Shared → Prop} (hs : s.heap.IsSliceOf sl vl vu vs) (pl : IsPart vl lo) (pu : IsPart vu hi) (ps : IsPart vs (some st)) (h0 : st ≠ 0)
    (h : Q ((Builtin.Slice.sliceAdjust lo hi st (n : Int)).1, st, Builtin.Slice.slicePlaces (Builtin.Slice.sliceAdjust lo hi st (n : Int)).1 (Builtin.Slice.sliceAdjust lo hi st (n : Int)).2 st) s) :
    wpAny (model prog w) A (Builtin.Slice.sliceApplied (.ref sl) (pure (n : Int))) Q E s := by
  obtain ⟨ob, hob, _, hd⟩ := id hs
  unfold Builtin.Slice.sliceApplied Builtin.Slice.sliceFields
  refine wpAny_bind (wpAny_bind (wpAny_field hob hd (x := vl) rfl (wpAny_bind (wpAny_field hob hd (x := vu) rfl (wpAny_bind (wpAny_field hob hd (x := vs) rfl (wpAny_pure ?_)))))))
  refine wpAny_bind (slicePart_ ps ?_)
  show wpAny _ _ (if (st == 0) = true then _ else _) _ _ s
  rw [if_neg (by intro q; exact h0 (eq_of_beq q))]
  exact wpAny_bind (slicePart_ pl (wpAny_bind (slicePart_ pu (wpAny_bind (wpAny_pure (wpAny_pure h))))))
def stepped (xs : List Value) (lo st : Int) (n : Nat) : List Value := (List.range n).filterMap fun (k : Nat) => xs.toArray[(lo + (k : Int) * st).toNat]?
theorem g_getStep {t sl : Addr} {its : List Value} {vl vu vs : Value} {lo hi : Option Int} {st : Int} {Q : Value → Shared → Prop} (ht : IsTup s.heap t its.toArray) (hs : s.heap.IsSliceOf sl vl vu vs) (pl : IsPart vl lo) (pu : IsPart vu hi) (ps : IsPart vs (some st)) (h0 : st ≠ 0) (h1 : st ≠ 1)
    (hz : (stepped its (Builtin.Slice.sliceAdjust lo hi st (its.toArray.size : Int)).1 st (Builtin.Slice.slicePlaces (Builtin.Slice.sliceAdjust lo hi st (its.toArray.size : Int)).1 (Builtin.Slice.sliceAdjust lo hi st (its.toArray.size : Int)).2 st)).length ≤ sizeLine)
    (h : Q (.ref s.heap.objs.size) { s with heap := s.heap.push { cls := .type "tuple", data := .seq (stepped its (Builtin.Slice.sliceAdjust lo hi st (its.toArray.size : Int)).1 st (Builtin.Slice.slicePlaces (Builtin.Slice.sliceAdjust lo hi st (its.toArray.size : Int)).1 (Builtin.Slice.sliceAdjust lo hi st (its.toArray.size : Int)).2 st)).toArray } }) :
    wpAny (model prog w) A (getItem (.ref t) (.ref sl)) Q E s := by
  have ok : sizeOk (.seq (stepped its (Builtin.Slice.sliceAdjust lo hi st (its.toArray.size : Int)).1 st (Builtin.Slice.slicePlaces (Builtin.Slice.sliceAdjust lo hi st (its.toArray.size : Int)).1 (Builtin.Slice.sliceAdjust lo hi st (its.toArray.size : Int)).2 st)).toArray) := by
    show (stepped its _ st _).toArray.size ≤ sizeLine
    rw [List.size_toArray]; exact hz
  obtain ⟨ob, hob, hc, hd⟩ := id hs
  have hTs : s.TypeIs (.ref sl) "slice" := ⟨ob, hob, hc⟩
  unfold getItem
  try with_reducible refine wpAny_holding ?_
  first | refine wpAny_bind (wpAny_pure ?_) | skip
  refine wpAny_bind (wpAny_sequenceKey ht.typeIs (by decide) ?_)
  refine wpAny_bind (wpAny_callSpecial?_slot (name := Str.ofString "__getitem__") ht.typeIs slot_tuple_getitem (wpAny_call_entry slot_tuple_getitem ht.typeIs entry_tuple_getitem ?_ (args_tuple_getitem _ _)))
  show wpAny _ _ (Builtin.Tuple.tupleItemsOf (.ref t) >>= _) _ _ s
  refine wpAny_bind (tupleItemsOf_ ht (wpAny_bind (wpAny_typeOf hTs ?_)))
  rw [if_pos (by decide)]
  refine wpAny_bind (g_applied hs pl pu ps h0 ?_)
  generalize (Builtin.Slice.sliceAdjust lo hi st (its.toArray.size : Int)).1 = l0 at *
  generalize Builtin.Slice.slicePlaces l0 (Builtin.Slice.sliceAdjust lo hi st (its.toArray.size : Int)).2 st = n0 at *
  have hno : ¬ ((l0 == 0 && st == 1 && n0 == its.toArray.size) = true) := by
    intro q
    rw [Bool.and_eq_true, Bool.and_eq_true] at q
    exact h1 (eq_of_beq q.1.2)
  show wpAny _ _ (if (l0 == 0 && st == 1 && n0 == its.toArray.size) = true then _ else _) _ _ s
  rw [if_neg hno]
  first
    | exact wpAny_bind (m := Builtin.Tuple.tupleExact _) (wpAny_newObj_type (wpAny_pure ⟨_, rfl, wpAny_pure h⟩) ok)
    | exact wpAny_bind (m := Builtin.Tuple.tupleExact _) (wpAny_newObj_type (wpAny_bind (wpAny_pure (wpAny_pure ⟨_, rfl, wpAny_pure h⟩))) ok)
    | exact wpAny_bind (wpAny_bind (m := Builtin.Tuple.tupleExact _) (wpAny_newObj_type (wpAny_pure (wpAny_pure ⟨_, rfl, wpAny_pure h⟩)) ok))
    | exact wpAny_bind (wpAny_bind (m := Builtin.Tuple.tupleExact _) (wpAny_newObj_type (wpAny_pure ⟨_, rfl, wpAny_pure h⟩) ok))
end
end HT
namespace G
open PySem PySem.Spec PyProof.Rows L2 Evl
/-- every second item from a on -/
def halfL {α : Type} (a : Nat) (xs : List α) : List α := (List.range ((xs.length - a + 1) / 2)).filterMap fun k => xs[a + 2 * k]?
theorem halfL_len {α : Type} (a : Nat) (xs : List α) : (halfL a xs).length ≤ xs.length + 1 := by
  unfold halfL
  refine Nat.le_trans (List.length_filterMap_le _ _) ?_
  rw [List.length_range]; omega
theorem vals_filterMap {f : Nat → Option V} {g : Nat → Option Value} : ∀ {l : List Nat}, (∀ k, k ∈ l → RelO (f k) (g k)) → Vals (l.filterMap f) (l.filterMap g)
  | [], _ => .nil
  | k :: r, h => by
    have hk := h k (List.mem_cons_self ..)
    have ih := vals_filterMap (l := r) fun j hj => h j (List.mem_cons_of_mem _ hj)
    rw [List.filterMap_cons, List.filterMap_cons]
    cases e : f k with
    | none =>
      cases e2 : g k with
      | none => exact ih
      | some u => rw [e, e2] at hk; exact hk.elim
    | some v =>
      cases e2 : g k with
      | none => rw [e, e2] at hk; exact hk.elim
      | some u => rw [e, e2] at hk; exact .cons hk ih
def tHalf (K : PySem.W.Frag) (a : Nat) (te : TE) : TE := fun σ H Q => te σ H fun x H1 => ∃ t xs, x = .ref t ∧ SqT K H1 t xs ∧ xs.length ≤ 100000 ∧ ∀ p, H1 p = none → Q (.ref p) (upd H1 p (.tup (halfL a xs)))
theorem half_places {a n : Nat} (h : a ≤ 1) : (Builtin.Slice.sliceAdjust (some (a : Int)) none 2 (n : Int)).1 = ((min a n : Nat) : Int) ∧
    Builtin.Slice.slicePlaces (Builtin.Slice.sliceAdjust (some (a : Int)) none 2 (n : Int)).1 (Builtin.Slice.sliceAdjust (some (a : Int)) none 2 (n : Int)).2 2 = (n - a + 1) / 2 := by
  have h2 : ¬ ((2 : Int) < 0) := by omega
  have h3 : (2 : Int) > 0 := by omega
  have ha : ¬ ((a : Int) < 0) := by omega
  have e : Builtin.Slice.sliceAdjust (some (a : Int)) none 2 (n : Int) = (((min a n : Nat) : Int), (n : Int)) := by
    unfold Builtin.Slice.sliceAdjust
    simp only [h2, if_false, ha]
    refine Prod.ext ?_ rfl
    show min (a : Int) (n : Int) = ((min a n : Nat) : Int)
    omega
  rw [e]
  refine ⟨rfl, ?_⟩
  show Builtin.Slice.slicePlaces ((min a n : Nat) : Int) (n : Int) 2 = (n - a + 1) / 2
  unfold Builtin.Slice.slicePlaces
  simp only [h3, if_true]
  split <;> omega
section
variable {X : Cx}
theorem pe_half {e : Expr} {te : TE} {a : Nat} {k1 k2 : Nat} {p1 p2 p3 pos : Pos} (ha : a ≤ 1) (he : PE X e te) : PE X (.Subscript e (.Slice (some (.Constant (.int (a : Int)) k1 p1)) none (some (.Constant (.int 2) k2 p2)) p3) pos) (tHalf X.K a te) := by
  refine ⟨fun pins s σ H Q I h => Subscript_ (thn (he.run pins s σ H _ I h) fun v s1 ⟨x, H1, I1, r1, q1⟩ => ?_)⟩
  obtain ⟨t, xs, rfl, hx, hlen, q⟩ := q1
  cases r1
  have hlo : PO X (some (.Constant (.int (a : Int)) k1 p1)) (tPart (tC (.int (a : Int)))) := po_some pe_int
  have hst : PO X (some (.Constant (.int 2) k2 p2)) (tPart (tC (.int 2))) := po_some pe_int
  refine wpAny_Slice (thn (hlo.run pins s1 σ H1 (fun o H2 => o = some (a : Int) ∧ H2 = H1) I1 ⟨_, rfl, rfl, rfl⟩) fun vl s2 ⟨l, H2, I2, pl, el, e2⟩ => ?_)
  subst el e2
  refine thn (po_none.run pins s2 σ H2 (fun o H3 => o = none ∧ H3 = H2) I2 ⟨rfl, rfl⟩) fun vu s3 ⟨u, H3, I3, pu, eu, e3⟩ => ?_
  subst eu e3
  refine thn (hst.run pins s3 σ H3 (fun o H4 => o = some 2 ∧ H4 = H3) I3 ⟨_, rfl, rfl, rfl⟩) fun vs s4 ⟨o, H4, I4, ps, eo, e4⟩ => ?_
  subst eo e4
  have I5 : Inv X pins σ H4 { s4 with heap := s4.heap.push { cls := .type "slice", data := .fields #[vl, vu, vs] } } := I4.kept (t' := s4.toks) fun b ob q => Heap.get?_push_of_some _ q
  obtain ⟨its, r, ht, hz⟩ := I5.tuple hx
  have hl : its.toArray.size = xs.length := by rw [List.size_toArray]; exact r.length.symm
  obtain ⟨hp1, hp2⟩ := half_places (n := xs.length) ha
  have hrel : Vals (halfL a xs) (HT.stepped its ((min a xs.length : Nat) : Int) 2 ((xs.length - a + 1) / 2)) := by
    unfold halfL HT.stepped
    refine vals_filterMap fun k hk => ?_
    have hk' := List.mem_range.mp hk
    have hi : a + 2 * k < xs.length := by omega
    have en : (((min a xs.length : Nat) : Int) + (k : Int) * 2).toNat = a + 2 * k := by omega
    rw [en, List.getElem?_eq_getElem hi]
    obtain ⟨u, hu, ru⟩ := r.get (List.getElem?_eq_getElem hi)
    rw [List.getElem?_toArray, hu]
    exact ru
  have hsz : (halfL a xs).length ≤ sizeLine := sz_of (by
    unfold halfL
    refine Nat.le_trans (List.length_filterMap_le _ _) ?_
    rw [List.length_range]
    omega)
  show wpAny (model X.prog X.w) X.A (subscriptTail e (.Slice (some (.Constant (.int (a : Int)) k1 p1)) none (some (.Constant (.int 2) k2 p2)) p3) (.ref t) (.ref s4.heap.objs.size)) (EP X pins σ Q) X.xe { s4 with heap := s4.heap.push { cls := .type "slice", data := .fields #[vl, vu, vs] } }
  refine tail_any (ops := [.ref t, .ref s4.heap.objs.size]) ht.typeIs PyProof.Rows.slot_tuple_getitem.lookup ?_ (by with_unfolding_all rfl)
  refine HT.g_getStep ht (Heap.IsSliceOf.new _ vl vu vs) pl pu ps (by decide) (by decide) ?_ ?_
  · rw [hl, hp2, hp1, ← hrel.length]; exact hsz
  · rw [hl, hp2, hp1]
    refine ⟨.ref _, _, I5.laid (t' := s4.toks) (o := .tup (halfL a xs)) (fun b ob q => Heap.get?_push_of_some _ q) (Nat.le_refl _) ?_, rfl, q _ (I5.hok.fresh (Nat.le_refl _))⟩
    exact ⟨hsz, _, hrel, ⟨_, Heap.get?_push_size _ rfl, rfl, _, rfl⟩⟩
end
end G
namespace G
open PySem PySem.Spec PyProof.Rows L2 Evl
/-! ## two lists side by side -/
def All2 {α β : Type} (R : α → β → Prop) (as : List α) (bs : List β) : Prop := as.length = bs.length ∧ ∀ (i : Nat) (a : α) (b : β), as[i]? = some a → bs[i]? = some b → R a b
theorem All2.nil {α β : Type} {R : α → β → Prop} : All2 R [] [] := ⟨rfl, fun _ _ _ h => nomatch h⟩
theorem All2.imp {α β : Type} {R S : α → β → Prop} {as : List α} {bs : List β} (h : All2 R as bs) (f : ∀ a b, R a b → S a b) : All2 S as bs := ⟨h.1, fun i a b h1 h2 => f _ _ (h.2 i a b h1 h2)⟩
theorem All2.snoc {α β : Type} {R : α → β → Prop} {as : List α} {bs : List β} {a : α} {b : β} (h : All2 R as bs) (r : R a b) : All2 R (as ++ [a]) (bs ++ [b]) := by
  refine ⟨by rw [List.length_append, List.length_append, h.1]; rfl, fun i x y h1 h2 => ?_⟩
  by_cases hi : i < as.length
  · rw [List.getElem?_append_left hi] at h1
    rw [List.getElem?_append_left (h.1 ▸ hi)] at h2
    exact h.2 i x y h1 h2
  · rw [List.getElem?_append_right (by omega)] at h1
    rw [List.getElem?_append_right (by rw [← h.1]; omega), ← h.1] at h2
    cases e : i - as.length with
    | zero =>
      rw [e] at h1 h2
      cases h1; cases h2; exact r
    | succ n => rw [e] at h1; exact nomatch h1
theorem All2.at_ {α β : Type} {R : α → β → Prop} {as : List α} {bs : List β} (h : All2 R as bs) {i : Nat} {a : α} (e : as[i]? = some a) : ∃ b, bs[i]? = some b ∧ R a b := by
  have hi : i < bs.length := by rw [← h.1]; exact (List.getElem?_eq_some_iff.mp e).1
  exact ⟨bs[i], List.getElem?_eq_getElem hi, h.2 i a _ e (List.getElem?_eq_getElem hi)⟩
theorem All2.of {α β : Type} {R : α → β → Prop} {as : List α} {bs : List β} (h : All2 R as bs) {i : Nat} {b : β} (e : bs[i]? = some b) : ∃ a, as[i]? = some a ∧ R a b := by
  have hi : i < as.length := by rw [h.1]; exact (List.getElem?_eq_some_iff.mp e).1
  exact ⟨as[i], List.getElem?_eq_getElem hi, h.2 i _ b (List.getElem?_eq_getElem hi) e⟩
theorem All2.cons {α β : Type} {R : α → β → Prop} {as : List α} {bs : List β} {a : α} {b : β} (r : R a b) (h : All2 R as bs) : All2 R (a :: as) (b :: bs) := by
  refine ⟨by rw [List.length_cons, List.length_cons, h.1], fun i x y h1 h2 => ?_⟩
  cases i with
  | zero => cases h1; cases h2; exact r
  | succ i => exact h.2 i x y h1 h2
theorem take_snoc1 {α : Type} {l : List α} {j : Nat} {x : α} (h : l[j]? = some x) : l.take (j + 1) = l.take j ++ [x] := by rw [List.take_add_one, h]; rfl
theorem refs_get {as : List Addr} {k : Nat} {x : V} (hx : (as.map V.ref)[k]? = some x) : ∃ a, as[k]? = some a ∧ x = .ref a := by
  rw [List.getElem?_map] at hx
  cases e : as[k]? with
  | none => rw [e] at hx; cases hx
  | some a => rw [e] at hx; cases hx; exact ⟨a, rfl, rfl⟩
/-! ## walks: any body -/
theorem wk_list {K : PySem.W.Frag} {a : Addr} {xs : List V} {body : (Hp → Prop) → V → Hp → Prop} {H0 : Hp} {Qd : Hp → Prop} (Pv : Nat → Hp → Prop) (h0 : Pv 0 H0) (hl : ∀ i H, i ≤ xs.length → Pv i H → SqL K H a xs)
    (hs : ∀ i x H, xs[i]? = some x → Pv i H → body (Pv (i + 1)) x H) (hd : ∀ H, Pv xs.length H → Qd H) :
    ∃ W : Nat → Nat → Hp → Prop, (∃ m, W 0 m H0) ∧ ∀ i m H, W i m H → ((Itl K a).stop i H ∧ Qd H) ∨ ((Itl K a).go i H ∧ ∃ Nx : Hp → Prop, (∀ H', Nx H' → ∃ m', m' < m ∧ W (i + 1) m' H') ∧ ∀ x H', (Itl K a).yld i H x H' → body Nx x H') := by
  refine ⟨fun i m H => m = xs.length - i ∧ i ≤ xs.length ∧ Pv i H, ⟨xs.length, by simp, Nat.zero_le _, h0⟩, ?_⟩
  rintro i m H ⟨rfl, hi, p⟩
  have q := hl i H hi p
  rcases Nat.lt_or_ge i xs.length with lt | ge
  · have e : xs[i]? = some xs[i] := List.getElem?_eq_getElem lt
    refine .inr ⟨⟨xs, xs[i], q, e⟩, Pv (i + 1), fun H' p' => ⟨xs.length - (i + 1), by omega, rfl, lt, p'⟩, fun x H' y => ?_⟩
    obtain ⟨rfl, y⟩ := y
    exact hs i x _ (y xs q) p
  · have e : i = xs.length := by omega
    subst e
    exact .inl ⟨⟨xs, q, Nat.le_refl _⟩, hd H p⟩
theorem wk_tup {K : PySem.W.Frag} {a : Addr} {xs : List V} {body : (Hp → Prop) → V → Hp → Prop} {H0 : Hp} {Qd : Hp → Prop} (Pv : Nat → Hp → Prop) (h0 : Pv 0 H0) (hl : ∀ i H, i ≤ xs.length → Pv i H → SqT K H a xs)
    (hs : ∀ i x H, xs[i]? = some x → Pv i H → body (Pv (i + 1)) x H) (hd : ∀ H, Pv xs.length H → Qd H) :
    ∃ W : Nat → Nat → Hp → Prop, (∃ m, W 0 m H0) ∧ ∀ i m H, W i m H → ((Itt K a).stop i H ∧ Qd H) ∨ ((Itt K a).go i H ∧ ∃ Nx : Hp → Prop, (∀ H', Nx H' → ∃ m', m' < m ∧ W (i + 1) m' H') ∧ ∀ x H', (Itt K a).yld i H x H' → body Nx x H') := by
  refine ⟨fun i m H => m = xs.length - i ∧ i ≤ xs.length ∧ Pv i H, ⟨xs.length, by simp, Nat.zero_le _, h0⟩, ?_⟩
  rintro i m H ⟨rfl, hi, p⟩
  have q := hl i H hi p
  rcases Nat.lt_or_ge i xs.length with lt | ge
  · have e : xs[i]? = some xs[i] := List.getElem?_eq_getElem lt
    refine .inr ⟨⟨xs, xs[i], q, e⟩, Pv (i + 1), fun H' p' => ⟨xs.length - (i + 1), by omega, rfl, lt, p'⟩, fun x H' y => ?_⟩
    obtain ⟨rfl, y⟩ := y
    exact hs i x _ (y xs q) p
  · have e : i = xs.length := by omega
    subst e
    exact .inl ⟨⟨xs, q, Nat.le_refl _⟩, hd H p⟩
theorem wk_it {J : It} {n : Nat} {Gd : Hp → Prop} {Y : Nat → Hp → V → Hp → Prop} (w : Walk J n Gd Y) {body : (Hp → Prop) → V → Hp → Prop} {H0 : Hp} {Qd : Hp → Prop} (Pv : Nat → Hp → Prop) (h0 : Pv 0 H0) (hG : ∀ i H, i ≤ n → Pv i H → Gd H)
    (hs : ∀ i x H H', i < n → Pv i H → Y i H x H' → body (Pv (i + 1)) x H') (hd : ∀ H, Pv n H → Qd H) :
    ∃ W : Nat → Nat → Hp → Prop, (∃ m, W 0 m H0) ∧ ∀ i m H, W i m H → (J.stop i H ∧ Qd H) ∨ (J.go i H ∧ ∃ Nx : Hp → Prop, (∀ H', Nx H' → ∃ m', m' < m ∧ W (i + 1) m' H') ∧ ∀ x H', J.yld i H x H' → body Nx x H') := by
  refine ⟨fun i m H => m = n - i ∧ i ≤ n ∧ Pv i H, ⟨n, by simp, Nat.zero_le _, h0⟩, ?_⟩
  rintro i m H ⟨rfl, hi, p⟩
  rcases Nat.lt_or_ge i n with lt | ge
  · exact .inr ⟨w.goes i H lt (hG i H hi p), Pv (i + 1), fun H' p' => ⟨n - (i + 1), by omega, rfl, lt, p'⟩, fun x H' y => hs i x H H' lt p (w.yields i H x H' lt (hG i H hi p) y)⟩
  · have e : i = n := by omega
    subst e
    exact .inl ⟨w.stops H (hG i H hi p), hd H p⟩
/-! ## tuples joined and cut, whatever object that is -/
theorem cat_tup {K : PySem.W.Frag} {H : Hp} {a b : Addr} {xs ys : List V} {Q : VK} (ha : H a = some (.tup xs)) (hb : H b = some (.tup ys)) (hl : xs.length + ys.length ≤ sizeLine) (q : ∀ c H', Ex H H' → H' c = some (.tup (xs ++ ys)) → Q (.ref c) H') : rCatA K (.ref a) (.ref b) H Q := by
  refine ⟨a, b, xs, ys, rfl, rfl, SqT.of ha, SqT.of hb, hl, fun e => ?_, fun _ e => ?_, fun _ _ p np => ?_⟩
  · subst e; exact q b H (Ex.refl _) hb
  · subst e; exact q a H (Ex.refl _) (by rw [List.append_nil]; exact ha)
  · exact q p _ (Ex.new np) upd_same
theorem cut_tup {K : PySem.W.Frag} {H : Hp} {a : Addr} {xs : List V} {lo hi : Option Int} {Q : VK} (ha : H a = some (.tup xs)) (q : ∀ c H', Ex H H' → H' c = some (.tup (cutV xs lo hi)) → Q (.ref c) H') : rSlA K (.ref a) lo hi H Q := by
  refine ⟨a, xs, rfl, SqT.of ha, fun e => ?_, fun _ p np => q p _ (Ex.new np) upd_same⟩
  refine q a H (Ex.refl _) ?_
  rw [ha]
  unfold cutV
  rw [e.1, e.2, List.drop_zero, Nat.sub_zero, List.take_length]
theorem cutV_head {xs : List V} {k : Nat} (h : k ≤ xs.length) : cutV xs none (some (k : Int)) = xs.take k := by
  unfold cutV
  rw [HT.sIx_none, HT.sIx_nat, List.drop_zero, Nat.sub_zero, Nat.min_eq_left h]
theorem cutV_tail {xs : List V} {k : Nat} (h : k ≤ xs.length) : cutV xs (some (k : Int)) none = xs.drop k := by
  unfold cutV
  rw [HT.sIx_none, HT.sIx_nat, Nat.min_eq_left h, List.take_of_length_le]
  rw [List.length_drop]; exact Nat.le_refl _
end G
namespace G
open PySem PySem.Spec PyProof.Rows L2 Evl
theorem tYes_in {σ : L2.St} {H : Hp} {A B : Hp → Prop} (h : A H) : tYes σ H (fun b H3 => if b = true then A H3 else B H3) := by
  show if true = true then A H else B H
  exact iteT h
def tabV (bs : List Bool) : HO := .tup (bs.map V.bl)
theorem inV_ints {k : Int} {l : List Int} : inV (.int k) (l.map V.int) = l.contains k := by
  unfold inV
  rw [List.any_map, List.contains_eq_any_beq]
  congr 1
  funext y
  show (y == k) = (k == y)
  rw [Bool.eq_iff_iff]; simp; exact eq_comm
theorem inV_bls {k : Bool} {l : List Bool} : inV (.bl k) (l.map V.bl) = l.contains k := by
  unfold inV
  rw [List.any_map, List.contains_eq_any_beq]
  congr 1
  funext y
  show (y == k) = (k == y)
  cases y <;> cases k <;> rfl
theorem flat_map {α : Type} {f : α → V} (h : ∀ x, flatV (f x) = true) (l : List α) : (l.map f).all flatV = true := by
  rw [List.all_map]
  exact List.all_eq_true.mpr fun x _ => h x
end G
namespace G
open PySem PySem.Spec PyProof.Rows L2
def topS (i : Nat) : Stmt := PySem.Challenge.pw_signoff_k37_windows.main.body.getD i (.Pass ⟨0, 0, 0, 0⟩)
abbrev s_wall : Stmt := topS 0
abbrev s_is_ascending : Stmt := topS 2
abbrev s_count_until : Stmt := topS 3
abbrev s_look_up : Stmt := topS 8
abbrev s_Waveform_init : Stmt := inClass (topS 13) 0
abbrev s_Waveform_start : Stmt := inClass (topS 13) 1
abbrev s_Waveform_changes : Stmt := inClass (topS 13) 2
abbrev s_Waveform_value_at : Stmt := inClass (topS 13) 3
abbrev s_Waveform_shows : Stmt := inClass (topS 13) 4
abbrev s_Waveform_is_steady : Stmt := inClass (topS 13) 5
abbrev s_Waveform_shifted : Stmt := inClass (topS 13) 6
abbrev s_Waveform_invert : Stmt := inClass (topS 13) 7
abbrev s_Waveform_and : Stmt := inClass (topS 13) 8
abbrev s_Waveform_or : Stmt := inClass (topS 13) 9
abbrev s_Waveform_xor : Stmt := inClass (topS 13) 10
abbrev s_Waveform_same_as : Stmt := inClass (topS 13) 11
abbrev s_Waveform_of_bits : Stmt := inClass (topS 13) 12
abbrev s_Waveform_combined : Stmt := inClass (topS 13) 13
abbrev s_in_window : Stmt := topS 14
abbrev s_holds : Stmt := topS 15
abbrev s_law_same : Stmt := topS 17
abbrev s_law_pool : Stmt := topS 18
abbrev s_law_spread : Stmt := topS 19
abbrev s_law_draw : Stmt := topS 20
abbrev s_law_changes : Stmt := topS 21
abbrev s_law_wave_value : Stmt := topS 22
abbrev s_law : Stmt := topS 23
end G
namespace G
open PySem PySem.Spec PyProof.Rows L2 Evl
structure TxtL (mg : Str → Option Value) : Prop where
  int : mg "int" = none
  len : mg "len" = none
  list : mg "list" = none
  range : mg "range" = none
section
variable {P : Program} {w : World} {K : PySem.W.Frag} {mg : Str → Option Value} {base : Heap}
def spSpread : Sp := fun vs H Q _ => ∃ (c : Int), vs = [.int c] ∧ ∀ v : Int, Q (.int v) H
theorem sc_law_spread : FnScope ["cell", "mixed", "total", "k"] ["cell"] (defScope s_law_spread) := ⟨rfl, rfl, rfl, by decide +kernel, rfl, by decide +kernel, by decide +kernel⟩
theorem ok_law_spread (D : Dfd K mg "_law_spread" s_law_spread ["cell"]) (T : TxtL mg) : Has P w K mg base 1 "_law_spread" ["cell"] spSpread := by
  refine D.has fun f fd F => F.ok sc_law_spread (fun vs H Q E h => ?_) (fun cdv A outer s H vs Q E hr h => ?_)
  · obtain ⟨c, rfl, _⟩ := h
    rfl
  · obtain ⟨c, rfl, q⟩ := h
    refine ⟨_, (pss_cons (ps_set (i := 1) sc_law_spread.nd rfl (.inl rfl) (pe_op op_mod (pe_callTy call_int1 (by rfl) T.int (by decide +kernel) (pa_cons (pv 0) pa_nil)) pe_int))
      (pss_cons (ps_set (i := 2) sc_law_spread.nd rfl (.inl rfl) pe_int)
      (pss_cons (ps_for PassesOwn.never rfl (pi_range1 rfl T.range (pa_cons pe_int pa_nil)) (pg_name (i := 3) sc_law_spread.nd rfl (.inl rfl))
        (pss_cons (ps_set (i := 1) sc_law_spread.nd rfl (.inl rfl) (pe_op op_mod (pe_callTy call_int1 (by rfl) T.int (by decide +kernel) (pa_cons (pe_op op_add (pe_op op_add (pe_op op_mul (pv 1) pe_int) pe_int) (pv 3)) pa_nil)) pe_int))
        (pss_one (ps_set (i := 2) sc_law_spread.nd rfl (.inl rfl) (pe_op op_add (pe_op op_mul (pv 2) pe_int) (pv 1))))))
      (pss_one (ps_ret (pv 2)))))), ?_⟩
    refine ⟨_, rfl, .inl ⟨_, rfl, _, _, rfl, rfl, (by show (0 : Int) < 2147483647; decide), 4, rfl, by decide, by decide, for_range (n := 4) (fun _ σ H' => H' = H ∧ ∃ (x y : Int) (z : Option V), σ = [some (.int c), some (.int x), some (.int y), z]) ⟨rfl, _, _, _, rfl⟩ ?_ ?_⟩⟩
    · rintro i σ H' hi ⟨rfl, x, y, z, rfl⟩
      refine ⟨_, rfl, _, _, rfl, rfl, .inr ⟨by decide, by decide⟩, _, _, rfl, rfl, _, rfl, _, _, rfl, rfl, .inl ⟨_, rfl, _, _, rfl, rfl, (by show (0 : Int) < 2147483647; decide), _, rfl, _, _, rfl, rfl, .inr ⟨by decide, by decide⟩, _, rfl, _, _, rfl, rfl, rfl, _, _, _, rfl⟩⟩
    · rintro σ H' ⟨rfl, x, y, z, rfl⟩
      exact ⟨_, rfl, q y⟩
/-- a draw below n -/
def spDraw : Sp := fun vs H Q _ => ∃ (p a : Addr) (n : Int), vs = [.ref p, .int n] ∧ 0 < n ∧ n.natAbs.log2 < 9000 ∧ PoolOk p a H ∧ ∀ (v : Int) (o : HO), 0 ≤ v → v < n → PoolOk p a (upd H p o) → Q (.int v) (upd H p o)
theorem sc_law_draw : FnScope ["pool", "many", "cell", "mixed", "value"] ["pool", "many"] (defScope s_law_draw) := ⟨rfl, rfl, rfl, by decide +kernel, rfl, by decide +kernel, by decide +kernel⟩
theorem ok_law_draw (D : Dfd K mg "_law_draw" s_law_draw ["pool", "many"]) (T : TxtL mg) (C : Has P w K mg base 1 "_law_spread" ["cell"] spSpread) : Has P w K mg base 2 "_law_draw" ["pool", "many"] spDraw := by
  obtain ⟨f_law_spread, d_law_spread, G_law_spread, g_law_spread, k_law_spread, b_law_spread⟩ := C
  refine D.has fun f fd F => F.ok sc_law_draw (fun vs H Q E h => ?_) (fun cdv A outer s H vs Q E hr h => ?_)
  · obtain ⟨p, a, n, rfl, _⟩ := h
    rfl
  · obtain ⟨p, a, n, rfl, n0, n9, hp, q⟩ := h
    refine ⟨_, (pss_cut (ps_if (PW.pt (pw_and (pt_cmpR op_le (pe_ix ix_list (pv 0) pe_int (fun _ _ => rfl)) pe_int (nomark _)) (pw_and1 (pt_cmpR op_lt (pe_ix ix_list (pv 0) pe_int (fun _ _ => rfl)) (pe_callB call_len_seq (by rfl) T.len (by decide +kernel) (pa_cons (pe_ix ix_list (pv 0) pe_int (fun _ _ => rfl)) pa_nil)) (nomark _)))))
      (pss_cons (ps_set (i := 2) sc_law_draw.nd rfl (.inl rfl) (pe_ix ix_list (pe_ix ix_list (pv 0) pe_int (fun _ _ => rfl)) (pe_ix ix_list (pv 0) pe_int (fun _ _ => rfl)) (fun _ _ => rfl)))
      (pss_cons (ps_asg (pe_op op_add (pe_ix ix_list (pv 0) pe_int (fun _ _ => rfl)) pe_int) (pg_sub (pv 0) pe_int set_list))
      (pss_cons (ps_asg (pv 2) (pg_sub (pv 0) pe_int set_list))
      (pss_one (ps_if (pt_cmpR op_lt (pv 2) pe_int (nomark _))
        (pss_one (ps_asg (pe_call G_law_spread hr (by rfl) g_law_spread k_law_spread b_law_spread .nil pass0 (pa_cons (pv 2) pa_nil)) (pg_sub (pv 0) pe_int set_list)))
        pss_nil)))))
      pss_nil)
    (pss_cons (ps_asg (pe_op op_add (pe_ix ix_list (pv 0) pe_int (fun _ _ => rfl)) pe_int) (pg_sub (pv 0) pe_int set_list))
    (pss_cons (ps_if (pt_cmpR op_le (pe_ix ix_list (pv 0) pe_int (fun _ _ => rfl)) pe_int (nomark _))
      (pss_cons (ps_set (i := 3) sc_law_draw.nd rfl (.inl rfl) (pe_op op_mod (pe_callTy call_int1 (by rfl) T.int (by decide +kernel) (pa_cons (pe_op op_add (pe_op op_add (pe_op op_mul (pe_ix ix_list (pv 0) pe_int (fun _ _ => rfl)) pe_int) (pe_op op_mul (pe_ix ix_list (pv 0) pe_int (fun _ _ => rfl)) pe_int)) pe_int) pa_nil)) pe_int))
      (pss_cons (ps_set (i := 3) sc_law_draw.nd rfl (.inl rfl) (pe_op op_mod (pe_callTy call_int1 (by rfl) T.int (by decide +kernel) (pa_cons (pe_op op_add (pe_op op_mul (pv 3) pe_int) (pe_ix ix_list (pv 0) pe_int (fun _ _ => rfl))) pa_nil)) pe_int))
      (pss_one (ps_ret (pe_op op_mod (pe_op op_fdiv (pv 3) pe_int) (pv 1))))))
      pss_nil)
    (pss_cons (ps_set (i := 4) sc_law_draw.nd rfl (.inl rfl) (pe_op op_mod (pe_callTy call_int1 (by rfl) T.int (by decide +kernel) (pa_cons (pe_ix ix_list (pv 0) pe_int (fun _ _ => rfl)) pa_nil)) (pv 1)))
    (pss_cons (ps_asg (pe_op op_fdivW (pe_ix ix_list (pv 0) pe_int (fun _ _ => rfl)) (pv 1)) (pg_sub (pv 0) pe_int set_list))
    (pss_one (ps_ret (pv 4)))))))), ?_⟩
    obtain ⟨ns, i, c, k, s5, hl, ha, hn⟩ := hp
    have hap : a ≠ p := hid_neq ha
    have haH := hid_get ha
    -- the pool as it stands after writes
    have pk : ∀ (i' : Nat) (c' k' s' : Int), PoolOk p a (upd H p (.lst [.ref a, .int i', .int c', .int k', .int s'])) := fun i' c' k' s' =>
      ⟨ns, i', c', k', s', upd_same, by rw [hid_upd]; exact ha, hn⟩
    refine ⟨fun σ H' => ∃ (i' : Nat) (c' k' s' : Int) (o1 : Option V), σ = [some (.ref p), some (.int n), o1, none, none] ∧ H' p = some (.lst [.ref a, .int i', .int c', .int k', .int s']) ∧ (∀ o, upd H' p o = upd H p o), ?_, ?_⟩
    · refine ⟨_, rfl, _, _, _, _, rfl, rfl, SqL.of hl, atI_nat (j := 2) rfl, _, _, rfl, rfl, _, rfl, ite2 (fun e1 => ?_) (fun e1 => ?_)⟩
      · refine ⟨_, rfl, _, _, _, _, rfl, rfl, SqL.of hl, atI_nat (j := 1) rfl, _, rfl, _, _, _, _, rfl, rfl, SqL.of hl, atI_nat (j := 0) rfl, _, _, rfl, .inl (SqL.of haH), _, _, rfl, rfl, _, rfl, ite2 (fun e2 => ?_) (fun e2 => ?_)⟩
        · have hi : i < (ns.map V.int).length := by have := of_decide_eq_true e2; omega
          have hi' : i < ns.length := by rw [List.length_map] at hi; exact hi
          have gi : (ns.map V.int)[i]? = some (.int ns[i]) := by rw [List.getElem?_map, List.getElem?_eq_getElem hi']; rfl
          refine ⟨_, rfl, _, _, _, _, rfl, rfl, SqL.of hl, atI_nat (j := 0) rfl, _, rfl, _, _, _, _, rfl, rfl, SqL.of hl, atI_nat (j := 1) rfl, _, _, _, _, rfl, rfl, SqL.of haH, atI_nat gi, ?_⟩
          refine ⟨_, rfl, _, _, _, _, rfl, rfl, SqL.of hl, atI_nat (j := 1) rfl, _, _, rfl, rfl, _, rfl, _, _, _, 1, rfl, rfl, hl, rfl, ?_⟩
          refine ⟨_, rfl, _, rfl, _, _, _, 2, rfl, rfl, upd_same, rfl, ?_⟩
          refine ⟨_, rfl, _, _, rfl, rfl, _, rfl, ite2 (fun e3 => ?_) (fun e3 => ?_)⟩
          · refine ⟨_, rfl, _, rfl, fun v => ⟨_, rfl, _, _, _, 2, rfl, rfl, upd_same, rfl, ?_⟩⟩
            exact ⟨i + 1, v, k, s5, _, rfl, upd_same, fun o => by rw [upd_upd, upd_upd, upd_upd]⟩
          · exact ⟨i + 1, ns[i], k, s5, _, rfl, upd_same, fun o => by rw [upd_upd, upd_upd]⟩
        · exact ⟨i, c, k, s5, _, rfl, hl, fun _ => rfl⟩
      · exact iteF ⟨i, c, k, s5, _, rfl, hl, fun _ => rfl⟩
    · rintro σ H' ⟨i, c, k, s5, o1, rfl, hl', hu⟩
      refine ⟨_, rfl, _, _, _, _, rfl, rfl, SqL.of hl', atI_nat (j := 3) rfl, _, _, rfl, rfl, _, rfl, _, _, _, 3, rfl, rfl, hl', rfl, ?_⟩
      refine ⟨_, rfl, _, _, _, _, rfl, rfl, SqL.of upd_same, atI_nat (j := 2) rfl, _, _, rfl, rfl, _, rfl, ite2 (fun e1 => ?_) (fun e1 => ?_)⟩
      · refine ⟨_, rfl, _, _, _, _, rfl, rfl, SqL.of upd_same, atI_nat (j := 4) rfl, _, _, rfl, rfl, .inr ⟨by decide, by decide⟩, _, rfl, _, _, _, _, rfl, rfl, SqL.of upd_same, atI_nat (j := 3) rfl, _, _, rfl, rfl, .inr ⟨by decide, by decide⟩, _, _, rfl, rfl, _, _, rfl, rfl, .inl ⟨_, rfl, _, _, rfl, rfl, (by show (0 : Int) < 2147483647; decide), ?_⟩⟩
        refine ⟨_, rfl, _, _, rfl, rfl, .inr ⟨by decide, by decide⟩, _, rfl, _, _, _, _, rfl, rfl, SqL.of upd_same, atI_nat (j := 3) rfl, _, _, rfl, rfl, .inl ⟨_, rfl, _, _, rfl, rfl, (by show (0 : Int) < 2147483629; decide), ?_⟩⟩
        refine ⟨_, rfl, _, _, rfl, rfl, ⟨by decide, by decide⟩, _, rfl, _, _, rfl, rfl, n0, ?_⟩
        show Q _ _
        rw [hu]
        exact q _ _ (Int.emod_nonneg _ (by omega)) (Int.emod_lt_of_pos _ n0) (pk i c (k + 1) s5)
      · refine ⟨_, rfl, _, _, _, _, rfl, rfl, SqL.of upd_same, atI_nat (j := 2) rfl, .inl ⟨_, rfl, _, rfl, _, _, rfl, rfl, n0, ?_⟩⟩
        refine ⟨_, rfl, _, _, _, _, rfl, rfl, SqL.of upd_same, atI_nat (j := 2) rfl, _, rfl, _, _, rfl, rfl, ⟨n0, n9⟩, _, rfl, _, _, _, 2, rfl, rfl, upd_same, rfl, _, rfl, ?_⟩
        show Q _ _
        rw [upd_upd, hu]
        exact q _ _ (Int.emod_nonneg _ (by omega)) (Int.emod_lt_of_pos _ n0) (pk i (c / n) (k + 1) s5)
/-- the same, the heap behind it a letter -/
def spDrawX : Sp := fun vs H Q _ => ∃ (p a : Addr) (n : Int), vs = [.ref p, .int n] ∧ 0 < n ∧ n ≤ 2 ^ 70 ∧ PoolOk p a H ∧ ∀ (v : Nat) (H' : Hp), (v : Int) < n → Px p a H H' → (∀ b, b ≠ p → H' b = H b) → Q (.int v) H'
theorem log2_small {n : Int} (h0 : 0 < n) (h : n ≤ 2 ^ 70) : n.natAbs.log2 < 9000 := by
  have h1 : n.natAbs < 2 ^ 71 := by omega
  have := PySem.Flt.log2_lt_of (by decide : 0 < 71) h1
  omega
theorem drawX (C : Has P w K mg base 2 "_law_draw" ["pool", "many"] spDraw) : Has P w K mg base 2 "_law_draw" ["pool", "many"] spDrawX :=
  C.imp fun vs H Q E h => by
    obtain ⟨p, a, n, rfl, h0, h1, hp, q⟩ := h
    refine ⟨p, a, n, rfl, h0, log2_small h0 h1, hp, fun v o v0 v1 hq => ?_⟩
    have e : v = ((v.toNat : Nat) : Int) := by omega
    rw [e]
    exact q v.toNat _ (by omega) (Px.draw hp hq) fun b hb => upd_ne hb
end
end G
namespace G
open PySem PySem.Spec PyProof.Rows L2 Evl
section
variable {P : Program} {w : World} {K : PySem.W.Frag} {mg : Str → Option Value} {base : Heap}
theorem cutV_mem {xs : List V} {lo hi : Option Int} {i : Nat} {x : V} (h : (cutV xs lo hi)[i]? = some x) : x ∈ xs := by
  unfold cutV at h
  exact List.mem_of_mem_drop (List.mem_of_mem_take (List.mem_of_getElem? h))
theorem int_of {ns : List Int} {x : V} (h : x ∈ ns.map V.int) : ∃ z, x = .int z := by
  obtain ⟨z, _, e⟩ := List.mem_map.mp h
  exact ⟨z, e.symm⟩
def spPool (K : PySem.W.Frag) : Sp := fun vs H Q _ => ∃ (s : Addr) (ns : List Int), vs = [.ref s] ∧ SqL K H s (ns.map V.int) ∧ ns.length ≤ 1000 ∧ ∀ (p a : Addr) (H' : Hp), PoolOk p a H' → Ex H H' → H p = none → Q (.ref p) H'
theorem sc_law_pool : FnScope ["script", "salt", "cell"] ["script"] (defScope s_law_pool) := ⟨rfl, rfl, rfl, by decide +kernel, rfl, by decide +kernel, by decide +kernel⟩
theorem ok_law_pool (D : Dfd K mg "_law_pool" s_law_pool ["script"]) (T : TxtL mg) : Has P w K mg base 1 "_law_pool" ["script"] (spPool K) := by
  refine D.has fun f fd F => F.ok sc_law_pool (fun vs H Q E h => ?_) (fun cdv A outer s H vs Q E hr h => ?_)
  · obtain ⟨c, _, rfl, _⟩ := h
    rfl
  · obtain ⟨sa, ns, rfl, hs, hn, q⟩ := h
    refine ⟨_, (pss_cons (ps_set (i := 1) sc_law_pool.nd rfl (.inl rfl) pe_int)
      (pss_cons (ps_for PassesOwn.never rfl (pi_list (pe_slice sl_list (pv 0) po_none (po_some pe_int))) (pg_name (i := 2) sc_law_pool.nd rfl (.inl rfl))
        (pss_one (ps_set (i := 1) sc_law_pool.nd rfl (.inl rfl) (pe_op op_mod (pe_callTy call_int1 (by rfl) T.int (by decide +kernel) (pa_cons (pe_op op_add (pe_op op_mul (pv 1) pe_int) (pv 2)) pa_nil)) pe_int))))
      (pss_one (ps_ret (pe_lst (pa_cons (pe_callTy call_list_of (by rfl) T.list (by decide +kernel) (pa_cons (pv 0) pa_nil)) (pa_cons pe_int (pa_cons pe_int (pa_cons pe_int (pa_cons (pv 1) pa_nil)))))))))), ?_⟩
    refine ⟨_, rfl, _, rfl, sa, _, rfl, hs, fun c nc => ⟨c, rfl, ⟨_, SqL.of upd_same⟩, for_list (K := K) (a := c) (xs := cutV (ns.map V.int) none (some 63)) (fun _ σ H' => H' = upd H c (.lst (cutV (ns.map V.int) none (some 63))) ∧ ∃ (x : Int) (z : Option V), σ = [some (.ref sa), some (.int x), z]) ⟨rfl, _, _, rfl⟩ ?_ ?_ ?_⟩⟩
    · rintro i σ H' _ ⟨rfl, _⟩
      exact SqL.of upd_same
    · rintro i x σ H' hi ⟨rfl, y, z, rfl⟩
      obtain ⟨m, rfl⟩ := int_of (cutV_mem hi)
      exact ⟨_, rfl, _, _, rfl, rfl, .inr ⟨by decide, by decide⟩, _, rfl, _, _, rfl, rfl, .inl ⟨_, rfl, _, _, rfl, rfl, (by show (0 : Int) < 1000003; decide), rfl, _, _, rfl⟩⟩
    · rintro σ H' ⟨rfl, y, z, rfl⟩
      have e1 : Ex H (upd H c (.lst (cutV (ns.map V.int) none (some 63)))) := Ex.new nc
      refine ⟨_, rfl, _, _, rfl, .inl (ex_l e1 hs), fun l nl => ⟨_, rfl, (by show 5 ≤ sizeLine; decide), fun p np => ?_⟩⟩
      have e2 := e1.trans (Ex.new (o := .lst (ns.map V.int)) nl)
      have npl : l ≠ p := ne_of_none upd_same np
      exact q p l _ ⟨ns, 0, 0, 0, y, upd_same, by rw [hid_ne npl, upd_ne npl]; exact upd_same, hn⟩ (e2.trans (Ex.new np)) (fresh_back e2 np)
end
end G
namespace G
open PySem PySem.Spec PyProof.Rows L2 Evl
/-! ## data -/
inductive D where
  | non | bl (b : Bool) | int (i : Int) | str (s : Str) | tup (l : List D) | lst (l : List D)
def okD : Nat → D → Prop
  | 0, .tup _ => False
  | 0, .lst _ => False
  | n + 1, .tup l => l.length < 2 ^ 61 ∧ ∀ d ∈ l, okD n d
  | n + 1, .lst l => l.length < 2 ^ 61 ∧ ∀ d ∈ l, okD n d
  | _, _ => True
inductive Rep (H : Hp) : V → D → Prop where
  | non : Rep H .non .non
  | bl (b : Bool) : Rep H (.bl b) (.bl b)
  | int (i : Int) : Rep H (.int i) (.int i)
  | str (s : Str) : Rep H (.str s) (.str s)
  | tup {a : Addr} {xs : List V} {ds : List D} (h : H a = some (.tup xs)) (hl : xs.length = ds.length) (hr : ∀ (i : Nat) (x : V) (d : D), xs[i]? = some x → ds[i]? = some d → Rep H x d) : Rep H (.ref a) (.tup ds)
  | lst {a : Addr} {xs : List V} {ds : List D} (h : H a = some (.lst xs)) (hl : xs.length = ds.length) (hr : ∀ (i : Nat) (x : V) (d : D), xs[i]? = some x → ds[i]? = some d → Rep H x d) : Rep H (.ref a) (.lst ds)
theorem Rep.ex {H H' : Hp} (e : Ex H H') {x : V} {d : D} (r : Rep H x d) : Rep H' x d := by
  induction r with
  | non => exact .non
  | bl b => exact .bl b
  | int i => exact .int i
  | str s => exact .str s
  | tup h hl _ ih => exact .tup (e _ _ h) hl ih
  | lst h hl _ ih => exact .lst (e _ _ h) hl ih
theorem okD.mono : ∀ {n m : Nat} {d : D}, n ≤ m → okD n d → okD m d
  | 0, 0, d, _, h => h
  | 0, m + 1, .non, _, _ => trivial
  | 0, m + 1, .bl _, _, _ => trivial
  | 0, m + 1, .int _, _, _ => trivial
  | 0, m + 1, .str _, _, _ => trivial
  | 0, m + 1, .tup _, _, h => h.elim
  | 0, m + 1, .lst _, _, h => h.elim
  | n + 1, m + 1, .non, _, _ => trivial
  | n + 1, m + 1, .bl _, _, _ => trivial
  | n + 1, m + 1, .int _, _, _ => trivial
  | n + 1, m + 1, .str _, _, _ => trivial
  | n + 1, m + 1, .tup l, le, h => ⟨h.1, fun d hd => okD.mono (Nat.le_of_succ_le_succ le) (h.2 d hd)⟩
  | n + 1, m + 1, .lst l, le, h => ⟨h.1, fun d hd => okD.mono (Nat.le_of_succ_le_succ le) (h.2 d hd)⟩
structure TxtS (mg : Str → Option Value) : Prop where
  isinstance : mg "isinstance" = none
  tuple : mg "tuple" = none
  list : mg "list" = none
  len : mg "len" = none
  range : mg "range" = none
  bool : mg "bool" = none
  int : mg "int" = none
  str : mg "str" = none
section
variable {P : Program} {w : World} {K : PySem.W.Frag} {mg : Str → Option Value} {base : Heap}
/-- equal data: the answer is True -/
def spSame : Nat → Sp
  | 0 => fun _ _ _ _ => False
  | n + 1 => fun vs H Q _ => ∃ (x y : V) (d : D), vs = [x, y] ∧ Rep H x d ∧ Rep H y d ∧ okD n d ∧ Q (.bl true) H
theorem sc_law_same : FnScope ["actual", "due", "k"] ["actual", "due"] (defScope s_law_same) := ⟨rfl, rfl, rfl, by decide +kernel, rfl, by decide +kernel, by decide +kernel⟩
theorem fn_law_same {f : Addr} {fd : FuncData} (F : Fun K "_law_same" "_law_same" s_law_same f fd) (g_law_same : mg "_law_same" = some (.ref f)) (b_law_same : Binds K fd ["actual", "due"] []) (T : TxtS mg) : ∀ n, FnOk P w K mg base CX0 n f fd ["actual", "due"] (spSame n)
  | 0 => ⟨fun _ _ _ _ h => h.elim, fun _ _ _ _ _ _ _ _ _ _ _ _ _ h => h.elim⟩
  | n + 1 => by
    have G_law_same := fn_law_same F g_law_same b_law_same T n
    have k_law_same := F.kp
    refine F.ok sc_law_same (fun vs H Q E h => ?_) (fun cdv A outer s H vs Q E hr h => ?_)
    · obtain ⟨x, y, d, rfl, _⟩ := h
      rfl
    · obtain ⟨x, y, d, rfl, rx, ry, hd, q⟩ := h
      refine ⟨_, (pss_cons (ps_if (PW.pt (pw_or (pt_val (pe_callB call_isi (by rfl) T.isinstance (by decide +kernel) (pa_cons (pv 1) (pa_cons (pe_bltn (v := .ty "tuple") (by rfl) T.tuple (by decide +kernel) rfl) pa_nil)))) (pw_or1 (pt_val (pe_callB call_isi (by rfl) T.isinstance (by decide +kernel) (pa_cons (pv 1) (pa_cons (pe_bltn (v := .ty "list") (by rfl) T.list (by decide +kernel) rfl) pa_nil)))))))
      (pss_cons (ps_if (PW.pt (pw_or (pt_cmpR op_ne (pe_callB call_isi (by rfl) T.isinstance (by decide +kernel) (pa_cons (pv 1) (pa_cons (pe_bltn (v := .ty "tuple") (by rfl) T.tuple (by decide +kernel) rfl) pa_nil))) (pe_callB call_isi (by rfl) T.isinstance (by decide +kernel) (pa_cons (pv 0) (pa_cons (pe_bltn (v := .ty "tuple") (by rfl) T.tuple (by decide +kernel) rfl) pa_nil))) (nomark _)) (pw_or1 (pt_cmpR op_ne (pe_callB call_isi (by rfl) T.isinstance (by decide +kernel) (pa_cons (pv 1) (pa_cons (pe_bltn (v := .ty "list") (by rfl) T.list (by decide +kernel) rfl) pa_nil))) (pe_callB call_isi (by rfl) T.isinstance (by decide +kernel) (pa_cons (pv 0) (pa_cons (pe_bltn (v := .ty "list") (by rfl) T.list (by decide +kernel) rfl) pa_nil))) (nomark _)))))
        (pss_one (ps_ret pe_bl))
        pss_nil)
      (pss_cons (ps_if (pt_cmpR op_ne (pe_callB call_len_seq (by rfl) T.len (by decide +kernel) (pa_cons (pv 0) pa_nil)) (pe_callB call_len_seq (by rfl) T.len (by decide +kernel) (pa_cons (pv 1) pa_nil)) (nomark _))
        (pss_one (ps_ret pe_bl))
        pss_nil)
      (pss_cons (ps_for PassesOwn.never rfl (pi_range1 rfl T.range (pa_cons (pe_callB call_len_seq (by rfl) T.len (by decide +kernel) (pa_cons (pv 1) pa_nil)) pa_nil)) (pg_name (i := 2) sc_law_same.nd rfl (.inl rfl))
        (pss_one (ps_if (pt_not (pt_val (pe_call G_law_same hr (by rfl) g_law_same k_law_same b_law_same .nil pass0 (pa_cons (pe_ix ix_seq (pv 0) (pv 2) (fun _ _ => rfl)) (pa_cons (pe_ix ix_seq (pv 1) (pv 2) (fun _ _ => rfl)) pa_nil)))))
          (pss_one (ps_ret pe_bl))
          pss_nil)))
      (pss_one (ps_ret pe_bl)))))
      pss_nil)
    (pss_cons (ps_if (pt_cmpR op_isN (pv 1) pe_non (nomark _))
      (pss_one (ps_ret (pe_cmpR op_isN (pv 0) pe_non (nomark _))))
      pss_nil)
    (pss_cons (ps_if (pt_val (pe_callB call_isi (by rfl) T.isinstance (by decide +kernel) (pa_cons (pv 1) (pa_cons (pe_bltn (v := .ty "bool") (by rfl) T.bool (by decide +kernel) rfl) pa_nil))))
      (pss_one (ps_ret (pe_and (pe_callB call_isi (by rfl) T.isinstance (by decide +kernel) (pa_cons (pv 0) (pa_cons (pe_bltn (v := .ty "bool") (by rfl) T.bool (by decide +kernel) rfl) pa_nil))) (pe_one (pe_cmpR op_eq (pv 0) (pv 1) (nomark _))))))
      pss_nil)
    (pss_cons (ps_if (pt_val (pe_callB call_isi (by rfl) T.isinstance (by decide +kernel) (pa_cons (pv 1) (pa_cons (pe_bltn (v := .ty "int") (by rfl) T.int (by decide +kernel) rfl) pa_nil))))
      (pss_one (ps_ret (pe_and (pe_callB call_isi (by rfl) T.isinstance (by decide +kernel) (pa_cons (pv 0) (pa_cons (pe_bltn (v := .ty "int") (by rfl) T.int (by decide +kernel) rfl) pa_nil))) (pe_and (pe_not (pe_callB call_isi (by rfl) T.isinstance (by decide +kernel) (pa_cons (pv 0) (pa_cons (pe_bltn (v := .ty "bool") (by rfl) T.bool (by decide +kernel) rfl) pa_nil)))) (pe_one (pe_cmpR op_eq (pv 0) (pv 1) (nomark _)))))))
      pss_nil)
    (pss_one (ps_ret (pe_and (pe_callB call_isi (by rfl) T.isinstance (by decide +kernel) (pa_cons (pv 0) (pa_cons (pe_bltn (v := .ty "str") (by rfl) T.str (by decide +kernel) rfl) pa_nil))) (pe_one (pe_cmpR op_eq (pv 0) (pv 1) (nomark _)))))))))), ?_⟩
      cases rx with
      | non =>
        cases ry
        refine ⟨_, rfl, _, _, _, _, _, rfl, .ty "tuple", .base .non, kit_ty (a := "NoneType") (r := false) (by decide +kernel), _, rfl, iteF ⟨_, rfl, _, _, _, _, _, rfl, .ty "list", .base .non, kit_ty (a := "NoneType") (r := false) (by decide +kernel), _, rfl, iteF ⟨_, rfl, rfl, _, rfl, iteT ⟨_, rfl, rfl, ?_⟩⟩⟩⟩
        exact q
      | bl b =>
        cases ry
        refine ⟨_, rfl, _, _, _, _, _, rfl, .ty "tuple", .base (.bl _), kit_ty (a := "bool") (r := false) (by decide +kernel), _, rfl, iteF ⟨_, rfl, _, _, _, _, _, rfl, .ty "list", .base (.bl _), kit_ty (a := "bool") (r := false) (by decide +kernel), _, rfl, iteF ⟨_, rfl, rfl, _, rfl, iteF ⟨_, rfl, _, _, _, _, _, rfl, .ty "bool", .base (.bl _), kit_ty (a := "bool") (r := true) (by decide +kernel), _, rfl, iteT ⟨_, rfl, _, _, _, _, _, rfl, .ty "bool", .base (.bl _), kit_ty (a := "bool") (r := true) (by decide +kernel), _, rfl, iteT ⟨_, rfl, _, rfl, rfl, ?_⟩⟩⟩⟩⟩⟩
        rw [decide_eq_true rfl]
        exact q
      | int b =>
        cases ry
        refine ⟨_, rfl, _, _, _, _, _, rfl, .ty "tuple", .base (.int _), kit_ty (a := "int") (r := false) (by decide +kernel), _, rfl, iteF ⟨_, rfl, _, _, _, _, _, rfl, .ty "list", .base (.int _), kit_ty (a := "int") (r := false) (by decide +kernel), _, rfl, iteF ⟨_, rfl, rfl, _, rfl, iteF ⟨_, rfl, _, _, _, _, _, rfl, .ty "bool", .base (.int _), kit_ty (a := "int") (r := false) (by decide +kernel), _, rfl, iteF ⟨_, rfl, _, _, _, _, _, rfl, .ty "int", .base (.int _), kit_ty (a := "int") (r := true) (by decide +kernel), _, rfl, iteT ⟨_, rfl, _, _, _, _, _, rfl, .ty "int", .base (.int _), kit_ty (a := "int") (r := true) (by decide +kernel), _, rfl, iteT ⟨_, rfl, _, _, _, _, _, rfl, .ty "bool", .base (.int _), kit_ty (a := "int") (r := false) (by decide +kernel), _, rfl, _, rfl, iteT ⟨_, rfl, _, rfl, rfl, ?_⟩⟩⟩⟩⟩⟩⟩⟩
        rw [decide_eq_true rfl]
        exact q
      | str b =>
        cases ry
        refine ⟨_, rfl, _, _, _, _, _, rfl, .ty "tuple", .base (.str _), kit_ty (a := "str") (r := false) (by decide +kernel), _, rfl, iteF ⟨_, rfl, _, _, _, _, _, rfl, .ty "list", .base (.str _), kit_ty (a := "str") (r := false) (by decide +kernel), _, rfl, iteF ⟨_, rfl, rfl, _, rfl, iteF ⟨_, rfl, _, _, _, _, _, rfl, .ty "bool", .base (.str _), kit_ty (a := "str") (r := false) (by decide +kernel), _, rfl, iteF ⟨_, rfl, _, _, _, _, _, rfl, .ty "int", .base (.str _), kit_ty (a := "str") (r := false) (by decide +kernel), _, rfl, iteF ⟨_, rfl, _, _, _, _, _, rfl, .ty "str", .base (.str _), kit_ty (a := "str") (r := true) (by decide +kernel), _, rfl, iteT ⟨_, rfl, _, rfl, rfl, ?_⟩⟩⟩⟩⟩⟩⟩
        rw [decide_eq_true rfl]
        exact q
      | @tup a xs ds hx lx rx =>
        cases ry with
        | @tup b ys _ hy ly ry =>
          cases n with
          | zero => exact hd.elim
          | succ m =>
            obtain ⟨hlen, hall⟩ := hd
            refine ⟨_, rfl, _, _, _, _, _, rfl, .ty "tuple", .base (.tup hy), kit_ty (a := "tuple") (r := true) (by decide +kernel), _, rfl, iteT (iteT ⟨_, rfl, _, _, _, _, _, rfl, .ty "tuple", .base (.tup hy), kit_ty (a := "tuple") (r := true) (by decide +kernel), _, rfl, _, _, _, _, _, rfl, .ty "tuple", .base (.tup hx), kit_ty (a := "tuple") (r := true) (by decide +kernel), rfl, _, rfl, iteF ⟨_, rfl, _, _, _, _, _, rfl, .ty "list", .base (.tup hy), kit_ty (a := "tuple") (r := false) (by decide +kernel), _, rfl, _, _, _, _, _, rfl, .ty "list", .base (.tup hx), kit_ty (a := "tuple") (r := false) (by decide +kernel), rfl, _, rfl, iteF ⟨_, rfl, _, _, rfl, .inr (SqT.of hx), _, rfl, _, _, rfl, .inr (SqT.of hy), rfl, _, rfl, ?_⟩⟩⟩)⟩
            have el : decide (V.int (xs.length : Int) = V.int (ys.length : Int)) = true := decide_eq_true (by rw [lx, ly])
            rw [el]
            refine ⟨_, rfl, _, _, rfl, .inr (SqT.of hy), _, rfl, by omega, by omega, for_range (n := (ys.length : Int).toNat) (fun _ σ H' => H' = H ∧ ∃ z : Option V, σ = [some (.ref a), some (.ref b), z]) ⟨rfl, _, rfl⟩ ?_ ?_⟩
            · rintro i σ H' hi ⟨rfl, z, rfl⟩
              have hi' : i < ds.length := by omega
              have e0 : (0 : Int) + (i : Int) = (i : Int) := Int.zero_add _
              have g1 : xs[i]? = some xs[i] := List.getElem?_eq_getElem (by omega)
              have g2 : ys[i]? = some ys[i] := List.getElem?_eq_getElem (by omega)
              have g3 : ds[i]? = some ds[i] := List.getElem?_eq_getElem hi'
              rw [e0]
              refine ⟨_, rfl, _, rfl, .inr (.inl ⟨_, _, _, _, rfl, rfl, SqT.of hx, atI_nat g1, _, rfl, _, rfl, .inr (.inl ⟨_, _, _, _, rfl, rfl, SqT.of hy, atI_nat g2, ?_⟩)⟩)⟩
              exact ⟨_, _, ds[i], rfl, rx i _ _ g1 g3, ry i _ _ g2 g3, hall _ (List.getElem_mem hi'), _, rfl, rfl, _, rfl⟩
            · rintro σ H' ⟨rfl, z, rfl⟩
              exact q
      | @lst a xs ds hx lx rx =>
        cases ry with
        | @lst b ys _ hy ly ry =>
          cases n with
          | zero => exact hd.elim
          | succ m =>
            obtain ⟨hlen, hall⟩ := hd
            refine ⟨_, rfl, _, _, _, _, _, rfl, .ty "tuple", .base (.lst hy), kit_ty (a := "list") (r := false) (by decide +kernel), _, rfl, iteF ⟨_, rfl, _, _, _, _, _, rfl, .ty "list", .base (.lst hy), kit_ty (a := "list") (r := true) (by decide +kernel), _, rfl, iteT ⟨_, rfl, _, _, _, _, _, rfl, .ty "tuple", .base (.lst hy), kit_ty (a := "list") (r := false) (by decide +kernel), _, rfl, _, _, _, _, _, rfl, .ty "tuple", .base (.lst hx), kit_ty (a := "list") (r := false) (by decide +kernel), rfl, _, rfl, iteF ⟨_, rfl, _, _, _, _, _, rfl, .ty "list", .base (.lst hy), kit_ty (a := "list") (r := true) (by decide +kernel), _, rfl, _, _, _, _, _, rfl, .ty "list", .base (.lst hx), kit_ty (a := "list") (r := true) (by decide +kernel), rfl, _, rfl, iteF ⟨_, rfl, _, _, rfl, .inl (SqL.of hx), _, rfl, _, _, rfl, .inl (SqL.of hy), rfl, _, rfl, ?_⟩⟩⟩⟩⟩
            have el : decide (V.int (xs.length : Int) = V.int (ys.length : Int)) = true := decide_eq_true (by rw [lx, ly])
            rw [el]
            refine ⟨_, rfl, _, _, rfl, .inl (SqL.of hy), _, rfl, by omega, by omega, for_range (n := (ys.length : Int).toNat) (fun _ σ H' => H' = H ∧ ∃ z : Option V, σ = [some (.ref a), some (.ref b), z]) ⟨rfl, _, rfl⟩ ?_ ?_⟩
            · rintro i σ H' hi ⟨rfl, z, rfl⟩
              have hi' : i < ds.length := by omega
              have e0 : (0 : Int) + (i : Int) = (i : Int) := Int.zero_add _
              have g1 : xs[i]? = some xs[i] := List.getElem?_eq_getElem (by omega)
              have g2 : ys[i]? = some ys[i] := List.getElem?_eq_getElem (by omega)
              have g3 : ds[i]? = some ds[i] := List.getElem?_eq_getElem hi'
              rw [e0]
              refine ⟨_, rfl, _, rfl, .inl ⟨_, _, _, _, rfl, rfl, SqL.of hx, atI_nat g1, _, rfl, _, rfl, .inl ⟨_, _, _, _, rfl, rfl, SqL.of hy, atI_nat g2, ?_⟩⟩⟩
              exact ⟨_, _, ds[i], rfl, rx i _ _ g1 g3, ry i _ _ g2 g3, hall _ (List.getElem_mem hi'), _, rfl, rfl, _, rfl⟩
            · rintro σ H' ⟨rfl, z, rfl⟩
              exact q
theorem ok_law_same (D : Dfd K mg "_law_same" s_law_same ["actual", "due"]) (T : TxtS mg) (n : Nat) : Has P w K mg base n "_law_same" ["actual", "due"] (spSame n) := by
  obtain ⟨f, fd, F, g, b⟩ := D
  exact ⟨f, fd, fn_law_same F g b T n, g, F.kp, b⟩
end
/-! ## data made of flat lists -/
theorem rep_map {H : Hp} {α : Type} {f : α → V} {g : α → D} {l : List α} (h : ∀ x, Rep H (f x) (g x)) : (l.map f).length = (l.map g).length ∧ ∀ (i : Nat) (x : V) (d : D), (l.map f)[i]? = some x → (l.map g)[i]? = some d → Rep H x d := by
  refine ⟨by rw [List.length_map, List.length_map], fun i x d hx hd => ?_⟩
  rw [List.getElem?_map] at hx hd
  cases e : l[i]? with
  | none => rw [e] at hx; cases hx
  | some y =>
    rw [e] at hx hd
    have e1 : f y = x := Option.some.inj hx
    have e2 : g y = d := Option.some.inj hd
    rw [← e1, ← e2]
    exact h y
theorem rep_ints {H : Hp} {a : Addr} {l : List Int} (h : H a = some (.lst (l.map V.int))) : Rep H (.ref a) (.lst (l.map D.int)) :=
  let r := rep_map (H := H) (f := V.int) (g := D.int) (l := l) fun i => .int i
  .lst h r.1 r.2
theorem rep_bls {H : Hp} {a : Addr} {l : List Bool} (h : H a = some (.tup (l.map V.bl))) : Rep H (.ref a) (.tup (l.map D.bl)) :=
  let r := rep_map (H := H) (f := V.bl) (g := D.bl) (l := l) fun i => .bl i
  .tup h r.1 r.2
theorem okD_ints {l : List Int} (h : l.length < 2 ^ 61) : okD 1 (.lst (l.map D.int)) := ⟨by rw [List.length_map]; exact h, fun d hd => by obtain ⟨_, _, rfl⟩ := List.mem_map.mp hd; trivial⟩
end G
namespace G
open PySem PySem.Spec PyProof.Rows L2 Evl
/-! ## own classes of errors -/
def HasX (P : Program) (w : World) (K : PySem.W.Frag) (mg : Str → Option Value) (base : Heap) (k : Nat) (x : Str) (ps : List Str) (sp : Sp) : Prop :=
  ∃ (f : Addr) (fd : FuncData), FnOk P w K mg base (L2.CX P w) k f fd ps sp ∧ mg x = some (.ref f) ∧ PySem.W.keepIn K (.ref f) = true ∧ Binds K fd ps []
theorem passX0 {X : Cx} {P : Program} {w : World} : Passes (L2.CX P w) X (fun _ _ _ => False) := fun _ _ _ _ _ _ _ h => by
  obtain ⟨_, _, _, _, _, _, _, _, _, _, _, _, h⟩ := h
  exact h.elim
/-- an own class over ValueError without __init__, at C -/
structure ExcT (K : PySem.W.Frag) (mg : Str → Option Value) (x : Str) (C : Addr) : Prop where
  gC : mg x = some (.ref C)
  xP : PySem.W.excIn K C [.type "ValueError", .type "Exception", .type "BaseException", .type "object"] "ValueError.__new__" = true
  kC : PySem.W.keepIn K (.ref C) = true
  bC : PySem.W.subIn K (.ref C) (.type "BaseException") = some true
  tC : PySem.W.typeIn K (.ref C) = some (.type "type")
/-- what an except clause asks of the class that it names -/
structure ExcH (K : PySem.W.Frag) (mg : Str → Option Value) (x : Str) (C : Addr) : Prop where
  u : ExcT K mg x C
  dict : PySem.W.hasDictIn K C = true
  self : PySem.W.subIn K (.ref C) (.ref C) = some true
theorem ExcH.hit {K : PySem.W.Frag} {mg : Str → Option Value} {x : Str} {C : Addr} (U : ExcH K mg x C) : PySem.W.exmOne K (.ref C) (.ref C) = some true := PySem.W.exm_ref U.u.bC U.dict U.u.tC U.self
end G
namespace G
open PySem PySem.Spec PyProof.Rows L2 Evl TL
/-! ## ascending lists of times -/
def ascB (ts : List Int) : Bool := ((List.range (ts.length - 1)).map fun i => decide (ts.getD i 0 < ts.getD (i + 1) 0)).all id
theorem ascB_pw {ts : List Int} (h : ts.Pairwise (· < ·)) : ascB ts = true := by
  unfold ascB
  rw [List.all_eq_true]
  intro b hb
  obtain ⟨i, hi, rfl⟩ := List.mem_map.mp hb
  have hi' := List.mem_range.mp hi
  have h1 : i < ts.length := by omega
  have h2 : i + 1 < ts.length := by omega
  have := List.pairwise_iff_getElem.mp h i (i + 1) h1 h2 (by omega)
  rw [List.getD_eq_getElem?_getD, List.getD_eq_getElem?_getD, List.getElem?_eq_getElem h1, List.getElem?_eq_getElem h2]
  exact decide_eq_true this
theorem pw_ascB {ts : List Int} (h : ascB ts = true) : ts.Pairwise (· < ·) := by
  have step : ∀ i (h2 : i + 1 < ts.length), ts[i]'(by omega) < ts[i + 1] := fun i h2 => by
    have := List.all_eq_true.mp h (decide (ts.getD i 0 < ts.getD (i + 1) 0)) (List.mem_map.mpr ⟨i, List.mem_range.mpr (by omega), rfl⟩)
    rw [List.getD_eq_getElem?_getD, List.getD_eq_getElem?_getD, List.getElem?_eq_getElem (show i < ts.length by omega), List.getElem?_eq_getElem h2] at this
    exact of_decide_eq_true this
  rw [List.pairwise_iff_getElem]
  intro i j hi hj hij
  obtain ⟨d, rfl⟩ : ∃ d, j = i + 1 + d := ⟨j - i - 1, by omega⟩
  clear hij
  induction d with
  | zero => exact step i hj
  | succ d ih => exact Int.lt_trans (ih (by omega)) (step (i + 1 + d) hj)
/-- how many are at most t -/
def cnt (ts : List Int) (t : Int) : Nat := (ts.filter fun x => decide (x ≤ t)).length
theorem cnt_split {ts : List Int} {t : Int} {k : Nat} (hk : k ≤ ts.length) (h1 : ∀ i x, i < k → ts[i]? = some x → x ≤ t) (h2 : ∀ i x, k ≤ i → ts[i]? = some x → t < x) : cnt ts t = k := by
  unfold cnt
  conv => lhs; rw [← List.take_append_drop k ts, List.filter_append, List.length_append]
  rw [List.filter_eq_self.mpr fun x hx => ?_, List.filter_eq_nil_iff.mpr fun x hx => ?_, List.length_take]
  · show min k ts.length + 0 = k
    omega
  · obtain ⟨i, hi, rfl⟩ := List.getElem_of_mem hx
    rw [List.getElem_drop]
    rw [List.length_drop] at hi
    have := h2 (k + i) _ (by omega) (List.getElem?_eq_getElem (by omega))
    rw [decide_eq_true_eq]; omega
  · obtain ⟨i, hi, rfl⟩ := List.getElem_of_mem hx
    rw [List.getElem_take]
    rw [List.length_take] at hi
    exact decide_eq_true (h1 i _ (by omega) (List.getElem?_eq_getElem (by omega)))
structure TxtW (mg : Str → Option Value) : Prop where
  len : mg "len" = none
  all : mg "all" = none
  range : mg "range" = none
  list : mg "list" = none
section
variable {P : Program} {w : World} {K : PySem.W.Frag} {mg : Str → Option Value} {base : Heap}
def spAsc : Sp := fun vs H Q _ => ∃ (a : Addr) (ts : List Int), vs = [.ref a] ∧ H a = some (.lst (ts.map V.int)) ∧ ts.length ≤ 1000 ∧ ∀ H', Ex H H' → Q (.bl (ascB ts)) H'
theorem sc_is_ascending : FnScope ["numbers", "k"] ["numbers"] (defScope s_is_ascending) := ⟨rfl, rfl, rfl, by decide +kernel, rfl, by decide +kernel, by decide +kernel⟩
theorem ok_is_ascending (D : Dfd K mg "is_ascending" s_is_ascending ["numbers"]) (T : TxtW mg) : Has P w K mg base 1 "is_ascending" ["numbers"] spAsc := by
  refine D.has fun f fd F => F.ok sc_is_ascending (fun vs H Q E h => ?_) (fun cdv A outer s H vs Q E hr h => ?_)
  · obtain ⟨a, ts, rfl, _⟩ := h
    rfl
  · obtain ⟨a, ts, rfl, ha, hn, q⟩ := h
    refine ⟨_, (pss_one (ps_ret (pe_callB (cr_all rfl) (by rfl) T.all (by decide +kernel) (pa_cons (pe_lc (own := [("k", 1)]) (g := gName 1) (tt := tYes) rfl sc_is_ascending.nd (pi_range2 rfl T.range (pa_cons pe_int (pa_cons (pe_callB call_len_seq (by rfl) T.len (by decide +kernel) (pa_cons (pv 0) pa_nil)) pa_nil))) (blkOk_by (N := ["numbers", "k"]) (sc := defScope s_is_ascending) (own := [("k", 1)]) (by decide +kernel)) (fun _ _ _ _ _ => (pg_name (i := 1) sc_is_ascending.nd rfl (.inl rfl))) (fun _ _ _ _ _ => pts_nil) (fun _ _ _ _ _ => (pe_cmpR op_lt (pe_ix (kIxL (K := K) rfl) (pv 0) (pe_op op_sub (pv 1) pe_int) (fun _ _ => rfl)) (pe_ix (kIxL (K := K) rfl) (pv 0) (pv 1) (fun _ _ => rfl)) (nomark _)))) pa_nil)))), ?_⟩
    refine ⟨_, rfl, _, _, rfl, .inl (SqL.of ha), 1, ts.length, by rw [List.length_map], by omega, fun L nL => lcRv (fun k => .bl (decide (ts.getD k 0 < ts.getD (k + 1) 0))) (by omega) (fun _ => rfl) (fun k H2 hk e2 Q q => ?_) ?_⟩
    · have hk2 : k + 1 < ts.length := by omega
      have ha2 : H2 a = some (.lst (ts.map V.int)) := by rw [e2]; exact Ex.new nL _ _ ha
      have g1 : (ts.map V.int)[k]? = some (.int (ts.getD k 0)) := by rw [List.getElem?_map, List.getElem?_eq_getElem (show k < ts.length by omega), List.getD_eq_getElem?_getD, List.getElem?_eq_getElem (show k < ts.length by omega)]; rfl
      have g2 : (ts.map V.int)[k + 1]? = some (.int (ts.getD (k + 1) 0)) := by rw [List.getElem?_map, List.getElem?_eq_getElem hk2, List.getD_eq_getElem?_getD, List.getElem?_eq_getElem hk2]; rfl
      exact ⟨_, rfl, _, rfl, _, _, rfl, rfl, _, _, _, _, rfl, rfl, SqL.of ha2, at_of (j := k) (by omega) g1, _, rfl, _, rfl, _, _, _, _, rfl, rfl, SqL.of ha2, at_of (j := k + 1) (by omega) g2, _, _, rfl, rfl, q⟩
    · have e : (((ts.length : Nat) : Int) - 1).toNat = ts.length - 1 := by omega
      refine ⟨L, (List.range (ts.length - 1)).map fun i => decide (ts.getD i 0 < ts.getD (i + 1) 0), rfl, SqL.of ?_, ?_⟩
      · rw [upd_same, List.map_map, e]; rfl
      · exact q _ (Ex.new nL)
def spCount : Sp := fun vs H Q _ => ∃ (a : Addr) (ts : List Int) (t : Int), vs = [.ref a, .int t] ∧ H a = some (.lst (ts.map V.int)) ∧ ts.length ≤ 1000 ∧ ts.Pairwise (· < ·) ∧ Q (.int (cnt ts t)) H
theorem sc_count_until : FnScope ["numbers", "limit", "low", "high", "middle"] ["numbers", "limit"] (defScope s_count_until) := ⟨rfl, rfl, rfl, by decide +kernel, rfl, by decide +kernel, by decide +kernel⟩
theorem ok_count_until (D : Dfd K mg "count_until" s_count_until ["numbers", "limit"]) (T : TxtW mg) : Has P w K mg base 1 "count_until" ["numbers", "limit"] spCount := by
  refine D.has fun f fd F => F.ok sc_count_until (fun vs H Q E h => ?_) (fun cdv A outer s H vs Q E hr h => ?_)
  · obtain ⟨a, ts, t, rfl, _⟩ := h
    rfl
  · obtain ⟨a, ts, t, rfl, ha, hn, hp, q⟩ := h
    refine ⟨_, (pss_cons (ps_set (i := 2) sc_count_until.nd rfl (.inl rfl) pe_int)
    (pss_cons (ps_set (i := 3) sc_count_until.nd rfl (.inl rfl) (pe_callB call_len_seq (by rfl) T.len (by decide +kernel) (pa_cons (pv 0) pa_nil)))
    (pss_cons (ps_while PassesOwn.never (pt_cmpR op_lt (pv 2) (pv 3) (nomark _))
      (pss_cons (ps_set (i := 4) sc_count_until.nd rfl (.inl rfl) (pe_op op_fdiv (pe_op op_add (pv 2) (pv 3)) pe_int))
      (pss_one (ps_if (pt_cmpR op_le (pe_ix ix_list (pv 0) (pv 4) (fun _ _ => rfl)) (pv 1) (nomark _))
        (pss_one (ps_set (i := 2) sc_count_until.nd rfl (.inl rfl) (pe_op op_add (pv 4) pe_int)))
        (pss_one (ps_set (i := 3) sc_count_until.nd rfl (.inl rfl) (pv 4)))))))
    (pss_one (ps_ret (pv 2)))))), ?_⟩
    have asc : ∀ i j x y, i ≤ j → ts[i]? = some x → ts[j]? = some y → x ≤ y := fun i j x y hij hx hy => by
      obtain ⟨h1, rfl⟩ := List.getElem?_eq_some_iff.mp hx
      obtain ⟨h2, rfl⟩ := List.getElem?_eq_some_iff.mp hy
      rcases Nat.lt_or_eq_of_le hij with lt | rfl
      · exact Int.le_of_lt (List.pairwise_iff_getElem.mp hp i j h1 h2 lt)
      · exact Int.le_refl _
    refine ⟨_, rfl, _, _, rfl, .inl (SqL.of ha), fun m σ H' => H' = H ∧ ∃ (lo hi : Nat) (z : Option V), σ = [some (.ref a), some (.int t), some (.int (lo : Int)), some (.int (hi : Int)), z] ∧ lo ≤ hi ∧ hi ≤ ts.length ∧ m = hi - lo ∧ (∀ i x, i < lo → ts[i]? = some x → x ≤ t) ∧ (∀ i x, hi ≤ i → ts[i]? = some x → t < x),
      ⟨_, rfl, 0, ts.length, _, by rw [List.length_map]; rfl, Nat.zero_le _, Nat.le_refl _, rfl, (fun i x h => absurd h (Nat.not_lt_zero _)), (fun i x h e => by have := (List.getElem?_eq_some_iff.mp e).1; omega)⟩, ?_⟩
    rintro m σ H' ⟨rfl, lo, hi, z, rfl, h1, h2, rfl, k1, k2⟩
    refine ⟨_, rfl, _, rfl, _, _, rfl, rfl, _, rfl, ite2 (fun c1 => ?_) (fun c1 => ?_)⟩
    · have hlt : lo < hi := by have := of_decide_eq_true c1; omega
      refine ⟨fun σ' H'' => H'' = H' ∧ ∃ (lo' hi' : Nat) (z : Option V), σ' = [some (.ref a), some (.int t), some (.int (lo' : Int)), some (.int (hi' : Int)), z] ∧ lo' ≤ hi' ∧ hi' ≤ ts.length ∧ hi' - lo' < hi - lo ∧ (∀ i x, i < lo' → ts[i]? = some x → x ≤ t) ∧ (∀ i x, hi' ≤ i → ts[i]? = some x → t < x), ?_, ?_⟩
      · rintro σ' H'' ⟨rfl, lo', hi', z', rfl, a1, a2, a3, a4, a5⟩
        exact ⟨hi' - lo', a3, rfl, lo', hi', z', rfl, a1, a2, rfl, a4, a5⟩
      · obtain ⟨mid, hmid⟩ : ∃ mid : Nat, mid = (lo + hi) / 2 := ⟨_, rfl⟩
        have em : ((lo : Int) + (hi : Int)) / 2 = (mid : Int) := by omega
        have hm1 : lo ≤ mid := by omega
        have hm2 : mid < hi := by omega
        have gm : ts[mid]? = some ts[mid] := List.getElem?_eq_getElem (by omega)
        refine ⟨_, rfl, _, rfl, _, _, rfl, rfl, _, _, rfl, rfl, ⟨by decide, by decide⟩, ?_⟩
        simp only [em]
        refine ⟨_, rfl, _, rfl, _, _, _, _, rfl, rfl, SqL.of ha, atI_nat (by rw [List.getElem?_map, gm]; rfl), _, rfl, _, _, rfl, rfl, _, rfl, ite2 (fun c2 => ?_) (fun c2 => ?_)⟩
        · have hle := of_decide_eq_true c2
          exact ⟨_, rfl, _, _, rfl, rfl, rfl, mid + 1, hi, _, rfl, by omega, h2, by omega, (fun i x hi' hx => Int.le_trans (asc i mid x _ (by omega) hx gm) hle), k2⟩
        · have hle : t < ts[mid] := by
            have : ¬ ts[mid] ≤ t := fun z => c2 (decide_eq_true z)
            omega
          exact ⟨_, rfl, rfl, lo, mid, _, rfl, by omega, by omega, by omega, k1, fun i x hi' hx => Int.lt_of_lt_of_le hle (asc mid i _ x hi' gm hx)⟩
    · have he : lo = hi := by
        have : ¬ (lo : Int) < (hi : Int) := fun z => c1 (decide_eq_true z)
        omega
      subst he
      have e := cnt_split h2 k1 k2
      refine ⟨_, rfl, ?_⟩
      rw [← e]; exact q
end
end G
namespace G
open PySem PySem.Spec PyProof.Rows L2
structure Cl_Waveform (K : PySem.W.Frag) (mg : Str → Option Value) (C : Addr) : Prop where
  gC : mg "Waveform" = some (.ref C)
  cl : Cls K C
  m_init : ∃ (f : Addr) (fd : FuncData), Mk K C f ∧ Fun K "__init__" "Waveform.__init__" s_Waveform_init f fd ∧ Binds K fd ["self", "start", "changes"] []
  m_changes : ∃ (f : Addr) (fd : FuncData), Meth K C "changes" f ∧ Fun K "changes" "Waveform.changes" s_Waveform_changes f fd ∧ Binds K fd ["self"] []
  m_value_at : ∃ (f : Addr) (fd : FuncData), Meth K C "value_at" f ∧ Fun K "value_at" "Waveform.value_at" s_Waveform_value_at f fd ∧ Binds K fd ["self", "time"] []
  p_start : ∃ (p f : Addr) (fd : FuncData), PropOf K C "start" p f ∧ Fun K "start" "Waveform.start" s_Waveform_start f fd ∧ Binds K fd ["self"] []
  n_start : NoAttr K C "_start"
  n_changes : NoAttr K C "_changes"
end G
namespace G
open PySem PySem.Spec PyProof.Rows L2 Evl TL
/-! ## waveforms -/
theorem wne : ¬ (("_start" : Str) = "_changes") := by decide +kernel
def wfl (st : Bool) (L : Addr) : List (Str × V) := putF "_changes" (.ref L) (putF "_start" (.bl st) [])
theorem wfl_start (st : Bool) (L : Addr) : (wfl st L).lookup ("_start" : Str) = some (.bl st) := by unfold wfl; rw [lookup_putF, if_neg wne, lookup_putF, if_pos rfl]
theorem wfl_changes (st : Bool) (L : Addr) : (wfl st L).lookup ("_changes" : Str) = some (.ref L) := by unfold wfl; rw [lookup_putF, if_pos rfl]
theorem wfl_no (st : Bool) (L : Addr) {m : Str} (h1 : ¬ m = "_changes") (h2 : ¬ m = "_start") : (wfl st L).lookup m = none := by
  unfold wfl; rw [lookup_putF, if_neg h1, lookup_putF, if_neg h2]; rfl
structure WaveAt (C : Addr) (H : Hp) (x L : Addr) (st : Bool) (ts : List Int) : Prop where
  ob : ∃ dx, H x = some (.ins C dx (wfl st L))
  li : H L = some (.lst (ts.map V.int))
theorem WaveAt.ex {C : Addr} {H H' : Hp} {x L : Addr} {st : Bool} {ts : List Int} (e : Ex H H') (h : WaveAt C H x L st ts) : WaveAt C H' x L st ts := by
  obtain ⟨dx, h1⟩ := h.ob
  exact ⟨⟨dx, e _ _ h1⟩, e _ _ h.li⟩
/-- what a class's __init__ keeps: all but the new object -/
def ExBut (x : Addr) (H H' : Hp) : Prop := ∀ b o, H b = some o → b ≠ x → H' b = some o
theorem ExBut.of {x : Addr} {H H' : Hp} (e : Ex H H') : ExBut x H H' := fun b o h _ => e b o h
theorem ExBut.trans {x : Addr} {H H1 H2 : Hp} (a : ExBut x H H1) (b : ExBut x H1 H2) : ExBut x H H2 := fun c o h n => b c o (a c o h n) n
theorem ExBut.put {x : Addr} {H : Hp} {o : HO} : ExBut x H (upd H x o) := fun b q h n => by rw [upd_ne n]; exact h
theorem ExBut.made {x dx : Addr} {H H' : Hp} {o1 o2 : HO} (nx : H x = none) (nd : H dx = none) (e : ExBut x (upd (upd H dx o1) x o2) H') : Ex H H' := fun b o h => by
  have h1 : b ≠ x := ne_of_none h nx
  have h2 : b ≠ dx := ne_of_none h nd
  exact e b o (by rw [upd_ne h1, upd_ne h2]; exact h) h1
theorem made_free {x dx L : Addr} {H : Hp} {o1 o2 : HO} (h : upd (upd H dx o1) x o2 L = none) : H L = none := by
  have h1 : L ≠ x := fun z => by rw [z, upd_same] at h; cases h
  rw [upd_ne h1] at h
  have h2 : L ≠ dx := fun z => by rw [z, upd_same] at h; cases h
  rw [upd_ne h2] at h; exact h
theorem made_old {x dx b : Addr} {H : Hp} {o1 o2 o : HO} (nx : H x = none) (nd : H dx = none) (h : H b = some o) : upd (upd H dx o1) x o2 b = some o := by
  rw [upd_ne (ne_of_none h nx), upd_ne (ne_of_none h nd)]; exact h
/-- the value at a time -/
def wval (st : Bool) (ts : List Int) (t : Int) : Bool := !decide (V.bl st = V.bl (decide (V.int (Builtin.bitAnd (cnt ts t : Int) 1) = V.int 1)))
theorem wval_eq (st : Bool) (ts : List Int) (t : Int) : wval st ts t = (st != decide (cnt ts t % 2 = 1)) := by
  have e : Builtin.bitAnd (cnt ts t : Int) 1 = ((cnt ts t % 2 : Nat) : Int) := by
    show (((cnt ts t : Int).toNat &&& (1 : Int).toNat : Nat) : Int) = _
    rw [Int.toNat_natCast]
    show ((cnt ts t &&& 1 : Nat) : Int) = _
    rw [Nat.and_one_is_mod]
  have e2 : decide (V.int ((cnt ts t % 2 : Nat) : Int) = V.int 1) = decide (cnt ts t % 2 = 1) := by
    rw [Bool.eq_iff_iff, decide_eq_true_iff, decide_eq_true_iff, V.int.injEq]; omega
  unfold wval
  rw [e, e2]
  cases st <;> cases decide (cnt ts t % 2 = 1) <;> rfl
theorem cnt_add {t1 t2 : Int} (h : t1 ≤ t2) : ∀ ts : List Int, cnt ts t2 = cnt ts t1 + (ts.filter fun x => decide (t1 < x) && decide (x ≤ t2)).length
  | [] => rfl
  | x :: r => by
    have ih := cnt_add h r
    unfold cnt at *
    simp only [List.filter_cons]
    by_cases h1 : x ≤ t1
    · rw [decide_eq_true (show x ≤ t2 by omega), decide_eq_true h1, decide_eq_false (show ¬ t1 < x by omega)]
      simp only [if_true, Bool.false_and, List.length_cons]
      rw [if_neg (by decide)]; omega
    · by_cases h2 : x ≤ t2
      · rw [decide_eq_true h2, decide_eq_false h1, decide_eq_true (show t1 < x by omega)]
        simp only [if_true, Bool.true_and, List.length_cons]
        rw [if_neg (by decide)]; omega
      · rw [decide_eq_false h2, decide_eq_false h1, Bool.and_false]
        rw [if_neg (by decide), if_neg (by decide), if_neg (by decide)]; exact ih
theorem cnt_same {ts : List Int} {t1 t2 : Int} (h : t1 ≤ t2) (hn : ∀ x ∈ ts, t1 < x → ¬ x ≤ t2) : cnt ts t2 = cnt ts t1 := by
  rw [cnt_add h ts, List.filter_eq_nil_iff.mpr fun x hx => ?_]
  · rfl
  · intro z
    rw [Bool.and_eq_true] at z
    exact hn x hx (of_decide_eq_true z.1) (of_decide_eq_true z.2)
theorem filter_one : ∀ {ts : List Int}, ts.Pairwise (· < ·) → ∀ {x : Int}, x ∈ ts → (ts.filter fun y => decide (x - 1 < y) && decide (y ≤ x)).length = 1
  | [], _, x, h => nomatch h
  | y :: r, hp, x, h => by
    obtain ⟨h1, h2⟩ := List.pairwise_cons.mp hp
    by_cases e : x = y
    · subst e
      rw [List.filter_cons, if_pos (by rw [decide_eq_true (show x - 1 < x by omega), decide_eq_true (Int.le_refl x)]; rfl), List.filter_eq_nil_iff.mpr fun z hz => ?_]
      · rfl
      · have := h1 z hz
        rw [decide_eq_false (show ¬ z ≤ x by omega), Bool.and_false]; decide
    · have hx : x ∈ r := (List.mem_cons.mp h).resolve_left e
      have := h1 x hx
      rw [List.filter_cons, if_neg (by rw [decide_eq_false (show ¬ x - 1 < y by omega), Bool.false_and]; decide)]
      exact filter_one h2 hx
theorem wval_flip {st : Bool} {ts : List Int} (hp : ts.Pairwise (· < ·)) {x : Int} (hx : x ∈ ts) : wval st ts x = !wval st ts (x - 1) := by
  rw [wval_eq, wval_eq, cnt_add (show x - 1 ≤ x by omega) ts, filter_one hp hx]
  have : decide ((cnt ts (x - 1) + 1) % 2 = 1) = !decide (cnt ts (x - 1) % 2 = 1) := by
    rw [Bool.eq_iff_iff, decide_eq_true_iff, Bool.not_eq_true', decide_eq_false_iff_not]; omega
  rw [this]
  cases st <;> cases decide (cnt ts (x - 1) % 2 = 1) <;> rfl
theorem wval_same {st : Bool} {ts : List Int} {t1 t2 : Int} (h : t1 ≤ t2) (hn : ∀ x ∈ ts, t1 < x → ¬ x ≤ t2) : wval st ts t2 = wval st ts t1 := by
  rw [wval_eq, wval_eq, cnt_same h hn]
theorem wval_low {st : Bool} {ts : List Int} {t : Int} (h : ∀ x ∈ ts, ¬ x ≤ t) : wval st ts t = st := by
  have : cnt ts t = 0 := by
    unfold cnt
    rw [List.filter_eq_nil_iff.mpr fun x hx => ?_]
    · rfl
    · rw [decide_eq_false (h x hx)]; decide
  rw [wval_eq, this]
  cases st <;> rfl
section
variable {P : Program} {w : World} {K : PySem.W.Frag} {mg : Str → Option Value} {base : Heap}
def spWInit (C B : Addr) : Sp := fun vs H Q E => ∃ (x dx l : Addr) (st : Bool) (ts : List Int), vs = [.ref x, .bl st, .ref l] ∧ H x = some (.ins C dx []) ∧ H l = some (.lst (ts.map V.int)) ∧ ts.length ≤ 1000 ∧
  (ascB ts = true → ∀ (L : Addr) (H' : Hp), H L = none → ExBut x H H' → WaveAt C H' x L st ts → Q .non H') ∧ (ascB ts = false → ∀ H', ExBut x H H' → E (.ref B) none H')
theorem sc_Waveform_init : FnScope ["self", "start", "changes", "times"] ["self", "start", "changes"] (defScope s_Waveform_init) := ⟨rfl, rfl, rfl, by decide +kernel, rfl, by decide +kernel, by decide +kernel⟩
theorem ok_Waveform_init {C B : Addr} {f : Addr} {fd : FuncData} (F : Fun K "__init__" "Waveform.__init__" s_Waveform_init f fd) (W : Cl_Waveform K mg C) (T : TxtW mg) (U : ExcT K mg "BadArgument" B) (C1 : Has P w K mg base 1 "is_ascending" ["numbers"] spAsc) : FnOk P w K mg base (L2.CX P w) 2 f fd ["self", "start", "changes"] (spWInit C B) := by
  obtain ⟨f_is_ascending, d_is_ascending, G_is_ascending, g_is_ascending, k_is_ascending, b_is_ascending⟩ := C1
  refine F.okX sc_Waveform_init (fun vs H Q E h => ?_) (fun cdv A outer s H vs Q E hr h => ?_)
  · obtain ⟨x, dx, l, st, ts, rfl, _⟩ := h
    rfl
  · obtain ⟨x, dx, l, st, ts, rfl, hx, hl, hn, q1, q2⟩ := h
    refine ⟨_, (pss_cons (ps_set (i := 3) sc_Waveform_init.nd rfl (.inl rfl) (pe_callTy call_list_of (by rfl) T.list (by decide +kernel) (pa_cons (pv 2) pa_nil)))
    (pss_cons (ps_if (pt_not (pt_truth (pe_call G_is_ascending (hr.mono (by omega)) (by rfl) g_is_ascending k_is_ascending b_is_ascending .nil pass0 (pa_cons (pv 3) pa_nil)) (by intro _; rfl)))
      (pss_one (ps_raise rfl (takes_of rfl rfl rfl rfl) (pmk_ownA PySem.F.excBase_ValueError U.xP U.gC U.kC (raises_own U.bC U.tC) rfl (pa_cons pe_str pa_nil))))
      pss_nil)
    (pss_cons (ps_fld (pv 0) (pv 1) rfl)
    (pss_one (ps_fld (pv 0) (pv 3) rfl))))), ?_⟩
    refine ⟨_, rfl, _, _, rfl, .inl (SqL.of hl), fun lf nlf => ?_⟩
    have E1 : Ex H (upd H lf (.lst (ts.map V.int))) := Ex.new nlf
    have h1 : upd H lf (.lst (ts.map V.int)) lf = some (.lst (ts.map V.int)) := upd_same
    generalize upd H lf (.lst (ts.map V.int)) = H1 at *
    refine ⟨_, rfl, lf, ts, rfl, h1, hn, fun H2 E2 => ⟨_, rfl, ?_⟩⟩
    cases hb : ascB ts with
    | false => exact iteT ⟨(by show 1 ≤ sizeLine; decide), q2 hb H2 (.of (E1.trans E2))⟩
    | true =>
      have e := E1.trans E2
      have nxl : lf ≠ x := (ne_of_none hx nlf).symm
      refine iteF ⟨_, rfl, _, rfl, x, C, dx, [], rfl, e _ _ hx, W.cl, W.n_start, (by show 0 < 1000; decide), _, rfl, _, rfl, x, C, dx, _, rfl, upd_same, W.cl, W.n_changes, (by show 1 < 1000; decide), ?_⟩
      exact q1 hb lf _ nlf (((ExBut.of e).trans ExBut.put).trans ExBut.put) ⟨⟨dx, upd_same⟩, by rw [upd_ne nxl, upd_ne nxl]; exact E2 _ _ h1⟩
def spWStart (C : Addr) : Sp := fun vs H Q _ => ∃ (x L : Addr) (st : Bool) (ts : List Int), vs = [.ref x] ∧ WaveAt C H x L st ts ∧ Q (.bl st) H
theorem sc_Waveform_start : FnScope ["self"] ["self"] (defScope s_Waveform_start) := ⟨rfl, rfl, rfl, by decide +kernel, rfl, by decide +kernel, by decide +kernel⟩
theorem ok_Waveform_start {C : Addr} {f : Addr} {fd : FuncData} (F : Fun K "start" "Waveform.start" s_Waveform_start f fd) (W : Cl_Waveform K mg C) : FnOk P w K mg base CX0 1 f fd ["self"] (spWStart C) := by
  refine F.ok sc_Waveform_start (fun vs H Q E h => ?_) (fun cdv A outer s H vs Q E hr h => ?_)
  · obtain ⟨x, L, st, ts, rfl, _⟩ := h
    rfl
  · obtain ⟨x, L, st, ts, rfl, ⟨⟨dx, h1⟩, h2⟩, q⟩ := h
    refine ⟨_, (pss_one (ps_ret (pe_fld (pv 0) rfl))), ?_⟩
    exact ⟨_, rfl, x, C, dx, _, _, rfl, h1, W.cl, W.n_start, wfl_start _ _, q⟩
def spWChanges (C : Addr) : Sp := fun vs H Q _ => ∃ (x L : Addr) (st : Bool) (ts : List Int), vs = [.ref x] ∧ WaveAt C H x L st ts ∧ ∀ l, H l = none → Q (.ref l) (upd H l (.lst (ts.map V.int)))
theorem sc_Waveform_changes : FnScope ["self"] ["self"] (defScope s_Waveform_changes) := ⟨rfl, rfl, rfl, by decide +kernel, rfl, by decide +kernel, by decide +kernel⟩
theorem ok_Waveform_changes {C : Addr} {f : Addr} {fd : FuncData} (F : Fun K "changes" "Waveform.changes" s_Waveform_changes f fd) (W : Cl_Waveform K mg C) (T : TxtW mg) : FnOk P w K mg base CX0 1 f fd ["self"] (spWChanges C) := by
  refine F.ok sc_Waveform_changes (fun vs H Q E h => ?_) (fun cdv A outer s H vs Q E hr h => ?_)
  · obtain ⟨x, L, st, ts, rfl, _⟩ := h
    rfl
  · obtain ⟨x, L, st, ts, rfl, ⟨⟨dx, h1⟩, h2⟩, q⟩ := h
    refine ⟨_, (pss_one (ps_ret (pe_callTy call_list_of (by rfl) T.list (by decide +kernel) (pa_cons (pe_fld (pv 0) rfl) pa_nil)))), ?_⟩
    exact ⟨_, rfl, x, C, dx, _, _, rfl, h1, W.cl, W.n_changes, wfl_changes _ _, _, _, rfl, .inl (SqL.of h2), fun l nl => q l nl⟩
def spWValue (C : Addr) : Sp := fun vs H Q _ => ∃ (x L : Addr) (st : Bool) (ts : List Int) (t : Int), vs = [.ref x, .int t] ∧ WaveAt C H x L st ts ∧ ts.length ≤ 1000 ∧ ts.Pairwise (· < ·) ∧ Q (.bl (wval st ts t)) H
theorem sc_Waveform_value_at : FnScope ["self", "time"] ["self", "time"] (defScope s_Waveform_value_at) := ⟨rfl, rfl, rfl, by decide +kernel, rfl, by decide +kernel, by decide +kernel⟩
theorem ok_Waveform_value_at {C : Addr} {f : Addr} {fd : FuncData} (F : Fun K "value_at" "Waveform.value_at" s_Waveform_value_at f fd) (W : Cl_Waveform K mg C) (C1 : Has P w K mg base 1 "count_until" ["numbers", "limit"] spCount) : FnOk P w K mg base CX0 2 f fd ["self", "time"] (spWValue C) := by
  obtain ⟨f_count_until, d_count_until, G_count_until, g_count_until, k_count_until, b_count_until⟩ := C1
  refine F.ok sc_Waveform_value_at (fun vs H Q E h => ?_) (fun cdv A outer s H vs Q E hr h => ?_)
  · obtain ⟨x, L, st, ts, t, rfl, _⟩ := h
    rfl
  · obtain ⟨x, L, st, ts, t, rfl, ⟨⟨dx, h1⟩, h2⟩, hn, hp, q⟩ := h
    refine ⟨_, (pss_one (ps_ret (pe_cmpR op_ne (pe_fld (pv 0) rfl) (pe_cmpR op_eq (pe_op op_and (pe_call G_count_until (hr.mono (by omega)) (by rfl) g_count_until k_count_until b_count_until .nil pass0 (pa_cons (pe_fld (pv 0) rfl) (pa_cons (pv 1) pa_nil))) pe_int) pe_int (nomark _)) (nomark _)))), ?_⟩
    exact ⟨_, rfl, x, C, dx, _, _, rfl, h1, W.cl, W.n_start, wfl_start _ _, _, rfl, x, C, dx, _, _, rfl, h1, W.cl, W.n_changes, wfl_changes _ _, _, rfl, L, ts, t, rfl, h2, hn, hp, _, _, rfl, rfl, rfl, rfl, q⟩
end
end G
namespace G
open PySem PySem.Spec PyProof.Rows L2 Evl TL
/-! ## windows -/
def oV : Option Int → V
  | none => .non
  | some i => .int i
def emptyB : Option Int → Option Int → Bool
  | some a, some b => decide (a ≥ b)
  | _, _ => false
def inB (s u : Option Int) (t : Int) : Bool := (match s with | none => true | some a => decide (a ≤ t)) && (match u with | none => true | some b => decide (t < b))
def firstB (st : Bool) (ts : List Int) : Option Int → Bool
  | none => st
  | some a => wval st ts a
def laterB (s u : Option Int) (t : Int) : Bool := !decide (V.int t = oV s) && inB s u t
def holdsB (st : Bool) (ts : List Int) (v : Bool) (s u : Option Int) : Bool := emptyB s u || (decide (V.bl (firstB st ts s) = V.bl v) && decide (V.int ((ts.filter (laterB s u)).length : Int) = V.int 0))
/-- all that is asked: the value at each of many times of the window -/
def rightB (st : Bool) (ts : List Int) (v : Bool) (s u : Option Int) (lo : Int) (i : Nat) : Bool := (List.range i).all fun k => !(inB s u (lo + k) && !decide (V.bl (wval st ts (lo + k)) = V.bl v))
theorem tif_by {tt : TE} {σ : L2.St} {H : Hp} {Q : VK} (R : V → Hp → Prop) (h : ∀ Q' : VK, (∀ v H', R v H' → Q' v H') → tt σ H Q') (rest : ∀ v H', R v H' → Q v H') : tt σ H Q := h Q rest
theorem in_read {s u : Option Int} {t : Int} : inB s u t = true ↔ (∀ a, s = some a → a ≤ t) ∧ ∀ b, u = some b → t < b := by
  unfold inB
  rw [Bool.and_eq_true]
  refine and_congr ?_ ?_
  · cases s with
    | none => exact ⟨fun _ a h => (nomatch h), fun _ => rfl⟩
    | some a => exact ⟨fun h b e => by cases e; exact of_decide_eq_true h, fun h => decide_eq_true (h a rfl)⟩
  · cases u with
    | none => exact ⟨fun _ a h => (nomatch h), fun _ => rfl⟩
    | some a => exact ⟨fun h b e => by cases e; exact of_decide_eq_true h, fun h => decide_eq_true (h a rfl)⟩
theorem bl_eq (a b : Bool) : decide (V.bl a = V.bl b) = decide (a = b) := by cases a <;> cases b <;> rfl
/-- the answer is the one that is asked -/
theorem holds_right {st : Bool} {ts : List Int} {v : Bool} {s u : Option Int} {lo : Int} {n : Nat} (hp : ts.Pairwise (· < ·)) (ht : ∀ x ∈ ts, lo < x ∧ x < lo + n) (hs : ∀ a, s = some a → lo ≤ a ∧ a < lo + n) (hu : ∀ b, u = some b → lo < b) (hn : 0 < n) : holdsB st ts v s u = rightB st ts v s u lo n := by
  have hR : rightB st ts v s u lo n = true ↔ ∀ t, lo ≤ t → t < lo + n → inB s u t = true → wval st ts t = v := by
    unfold rightB
    rw [List.all_eq_true]
    constructor
    · intro h t h1 h2 hi
      obtain ⟨k, rfl⟩ : ∃ k : Nat, t = lo + k := ⟨(t - lo).toNat, by omega⟩
      have := h k (List.mem_range.mpr (by omega))
      rw [hi, bl_eq, Bool.true_and, Bool.not_not] at this
      exact of_decide_eq_true this
    · intro h k hk
      have hk := List.mem_range.mp hk
      cases hi : inB s u (lo + k) with
      | false => rfl
      | true =>
        rw [bl_eq, decide_eq_true (h _ (by omega) (by omega) hi)]; rfl
  rw [Bool.eq_iff_iff, hR]
  unfold holdsB
  cases he : emptyB s u with
  | true =>
    refine ⟨fun _ t h1 h2 hi => ?_, fun _ => rfl⟩
    obtain ⟨i1, i2⟩ := in_read.mp hi
    cases s with
    | none => cases he
    | some a =>
      cases u with
      | none => cases he
      | some b =>
        have := of_decide_eq_true (show decide (a ≥ b) = true from he)
        have := i1 a rfl
        have := i2 b rfl
        omega
  | false =>
    have hne : ∀ a b, s = some a → u = some b → a < b := fun a b h1 h2 => by
      subst h1 h2
      have := of_decide_eq_false (show decide (a ≥ b) = false from he)
      omega
    have hlen : decide (V.int ((ts.filter (laterB s u)).length : Int) = V.int 0) = true ↔ ts.filter (laterB s u) = [] := by
      rw [decide_eq_true_iff, V.int.injEq, ← List.length_eq_zero_iff]; omega
    rw [Bool.false_or, Bool.and_eq_true, hlen, bl_eq, decide_eq_true_iff]
    constructor
    · rintro ⟨h1, h2⟩ t l1 l2 hi
      obtain ⟨i1, i2⟩ := in_read.mp hi
      have no : ∀ x ∈ ts, (∀ a, s = some a → a < x) → ¬ x ≤ t := fun x hx ha hle => by
        have := List.filter_eq_nil_iff.mp h2 x hx
        refine this ?_
        unfold laterB
        rw [Bool.and_eq_true]
        refine ⟨?_, in_read.mpr ⟨fun a e => Int.le_of_lt (ha a e), fun b e => by have := i2 b e; omega⟩⟩
        cases s with
        | none => rfl
        | some a =>
          have := ha a rfl
          rw [Bool.not_eq_true', decide_eq_false_iff_not]
          intro z
          have z' := V.int.inj z
          omega
      cases s with
      | none => rw [wval_low fun x hx => no x hx fun a e => nomatch e]; exact h1
      | some a => rw [wval_same (i1 a rfl) fun x hx hax => no x hx fun b e => by cases e; exact hax]; exact h1
    · intro h
      refine ⟨?_, ?_⟩
      · cases s with
        | none =>
          have := h lo (by omega) (by omega) (in_read.mpr ⟨(fun a e => nomatch e), fun b e => hu b e⟩)
          rwa [wval_low fun x hx => by have := ht x hx; omega] at this
        | some a =>
          have := hs a rfl
          exact h a (by omega) (by omega) (in_read.mpr ⟨fun b e => by cases e; exact Int.le_refl _, fun b e => hne a b rfl e⟩)
      · rw [List.filter_eq_nil_iff]
        intro x hx hl
        unfold laterB at hl
        rw [Bool.and_eq_true, Bool.not_eq_true', decide_eq_false_iff_not] at hl
        obtain ⟨hl1, hl2⟩ := hl
        obtain ⟨i1, i2⟩ := in_read.mp hl2
        have hxb := ht x hx
        have a1 := h x (by omega) (by omega) hl2
        have a2 := h (x - 1) (by omega) (by omega) (in_read.mpr ⟨fun a e => by
          have k1 := i1 a e
          have k2 : x ≠ a := fun z => hl1 (by rw [z, e]; rfl)
          omega, fun b e => by have := i2 b e; omega⟩)
        have := wval_flip (st := st) hp hx
        rw [a1, a2] at this
        cases v <;> cases this
section
variable {P : Program} {w : World} {K : PySem.W.Frag} {mg : Str → Option Value} {base : Heap}
def spIn : Sp := fun vs H Q _ => ∃ (wd : Addr) (s u : Option Int) (t : Int), vs = [.ref wd, .int t] ∧ H wd = some (.tup [oV s, oV u]) ∧ Q (.bl (inB s u t)) H
theorem sc_in_window : FnScope ["window", "time", "since", "until"] ["window", "time"] (defScope s_in_window) := ⟨rfl, rfl, rfl, by decide +kernel, rfl, by decide +kernel, by decide +kernel⟩
theorem ok_in_window (D : Dfd K mg "in_window" s_in_window ["window", "time"]) : Has P w K mg base 1 "in_window" ["window", "time"] spIn := by
  refine D.has fun f fd F => F.ok sc_in_window (fun vs H Q E h => ?_) (fun cdv A outer s H vs Q E hr h => ?_)
  · obtain ⟨wd, s, u, t, rfl, _⟩ := h
    rfl
  · obtain ⟨wd, si, u, t, rfl, hw, q⟩ := h
    refine ⟨_, (pss_cons (ps_asg (pv 0) (pg_tup rfl (pgs_cons (pg_name (i := 2) sc_in_window.nd rfl (.inl rfl)) (pgs_cons (pg_name (i := 3) sc_in_window.nd rfl (.inl rfl)) pgs_nil))))
    (pss_one (ps_ret (pe_and (pe_or (pe_cmpR op_isN (pv 2) pe_non (nomark _)) (pe_one (pe_cmpR op_le (pv 2) (pv 1) (nomark _)))) (pe_one (pe_or (pe_cmpR op_isN (pv 3) pe_non (nomark _)) (pe_one (pe_cmpR op_lt (pv 1) (pv 3) (nomark _))))))))), ?_⟩
    refine ⟨_, rfl, wd, _, rfl, SqT.of hw, rfl, _, _, rfl, _, _, rfl, rfl, ?_⟩
    cases si with
    | none =>
      refine ⟨_, rfl, rfl, _, rfl, iteT ⟨_, rfl, iteT ?_⟩⟩
      cases u with
      | none => exact ⟨_, rfl, rfl, _, rfl, iteT q⟩
      | some b => exact ⟨_, rfl, rfl, _, rfl, iteF ⟨_, rfl, _, rfl, _, _, rfl, rfl, q⟩⟩
    | some a =>
      refine ⟨_, rfl, rfl, _, rfl, iteF ⟨_, rfl, _, rfl, _, _, rfl, rfl, _, rfl, ite2 (fun c => ?_) (fun c => ?_)⟩⟩
      · cases u with
        | none => 
          refine ⟨_, rfl, rfl, _, rfl, iteT ?_⟩
          have e : inB (some a) none t = true := by show (decide (a ≤ t) && true) = true; rw [c]; rfl
          rw [e] at q; exact q
        | some b =>
          refine ⟨_, rfl, rfl, _, rfl, iteF ⟨_, rfl, _, rfl, _, _, rfl, rfl, ?_⟩⟩
          have e : inB (some a) (some b) t = decide (t < b) := by show (decide (a ≤ t) && decide (t < b)) = _; rw [c]; rfl
          rw [e] at q; exact q
      · have e : inB (some a) u t = decide (a ≤ t) := by
          show (decide (a ≤ t) && _) = _
          rw [Bool.eq_false_iff.mpr c]; rfl
        rw [e, Bool.eq_false_iff.mpr c] at q; exact q
def spHolds (C : Addr) : Sp := fun vs H Q _ => ∃ (x L wd : Addr) (st v : Bool) (ts : List Int) (s u : Option Int), vs = [.ref x, .bl v, .ref wd] ∧ WaveAt C H x L st ts ∧ ts.length ≤ 1000 ∧ ts.Pairwise (· < ·) ∧ H wd = some (.tup [oV s, oV u]) ∧ ∀ H', Ex H H' → Q (.bl (holdsB st ts v s u)) H'
theorem sc_holds : FnScope ["waveform", "value", "window", "since", "until", "first", "later", "time"] ["waveform", "value", "window"] (defScope s_holds) := ⟨rfl, rfl, rfl, by decide +kernel, rfl, by decide +kernel, by decide +kernel⟩
theorem ok_holds {C f0 f1 f2 p0 : Addr} {d0 d1 d2 : FuncData} (D : Dfd K mg "holds" s_holds ["waveform", "value", "window"]) (T : TxtW mg) (W : Cl_Waveform K mg C) (C1 : Has P w K mg base 1 "in_window" ["window", "time"] spIn)
    (P_Waveform_start : PropOf K C "start" p0 f0) (G_Waveform_start : FnOk P w K mg base CX0 1 f0 d0 ["self"] (spWStart C)) (b_Waveform_start : Binds K d0 ["self"] [])
    (M_Waveform_changes : Meth K C "changes" f1) (G_Waveform_changes : FnOk P w K mg base CX0 1 f1 d1 ["self"] (spWChanges C)) (b_Waveform_changes : Binds K d1 ["self"] [])
    (M_Waveform_value_at : Meth K C "value_at" f2) (G_Waveform_value_at : FnOk P w K mg base CX0 2 f2 d2 ["self", "time"] (spWValue C)) (b_Waveform_value_at : Binds K d2 ["self", "time"] []) : Has P w K mg base 3 "holds" ["waveform", "value", "window"] (spHolds C) := by
  obtain ⟨f_in_window, d_in_window, G_in_window, g_in_window, k_in_window, b_in_window⟩ := C1
  have c_Waveform := W.cl
  refine D.has fun f fd F => F.ok sc_holds (fun vs H Q E h => ?_) (fun cdv A outer s H vs Q E hr h => ?_)
  · obtain ⟨x, L, wd, st, v, ts, s, u, rfl, _⟩ := h
    rfl
  · obtain ⟨x, L, wd, st, v, ts, si, u, rfl, hW, hn, hp, hw, q⟩ := h
    obtain ⟨dx, h1⟩ := hW.ob
    refine ⟨_, (pss_cons (ps_asg (pv 2) (pg_tup rfl (pgs_cons (pg_name (i := 3) sc_holds.nd rfl (.inr rfl)) (pgs_cons (pg_name (i := 4) sc_holds.nd rfl (.inl rfl)) pgs_nil))))
    (pss_cut (ps_if (PW.pt (pw_and (pt_cmpR op_notN (pv 3) pe_non (nomark _)) (pw_and (pt_cmpR op_notN (pv 4) pe_non (nomark _)) (pw_and1 (pt_cmpR op_ge (pv 3) (pv 4) (nomark _))))))
      (pss_one (ps_ret pe_bl))
      pss_nil)
    (pss_cons (ps_set (i := 5) sc_holds.nd rfl (.inl rfl) (pe_ifExp (pt_cmpR op_isN (pv 3) pe_non (nomark _)) (pe_prop (pv 0) c_Waveform P_Waveform_start G_Waveform_start (hr.mono (by omega)) b_Waveform_start .nil pass0 rfl) (pe_meth (pv 0) c_Waveform M_Waveform_value_at G_Waveform_value_at (hr.mono (by omega)) b_Waveform_value_at .nil pass0 (pa_cons (pv 3) pa_nil))))
    (pss_cons (ps_setLc (i := 6) (own := [("time", 7)]) (g := gName 7) (tt := _) rfl sc_holds.nd rfl rfl (sw_true rfl rfl rfl (by decide +kernel)) (pi_list (pe_meth0 (pv 0) c_Waveform M_Waveform_changes G_Waveform_changes (hr.mono (by omega)) b_Waveform_changes .nil pass0)) (blkOk_by (N := ["waveform", "value", "window", "since", "until", "first", "later", "time"]) (sc := defScope s_holds) (own := [("time", 7)]) (by decide +kernel)) (fun _ _ _ _ _ => (pg_name (i := 7) sc_holds.nd rfl (.inl rfl))) (fun _ _ _ _ _ => pts_one (PW.pt (pw_and (pt_cmpR op_ne (pv 7) (pv 3) (nomark _)) (pw_and1 (pt_val (pe_call G_in_window (hr.mono (by omega)) (by rfl) g_in_window k_in_window b_in_window .nil pass0 (pa_cons (pv 2) (pa_cons (pv 7) pa_nil)))))))) (fun _ _ _ _ _ => (pv 7)))
    (pss_one (ps_ret (pe_and (pe_cmpR op_eq (pv 5) (pv 1) (nomark _)) (pe_one (pe_cmpR op_eq (pe_callB call_len_seq (by rfl) T.len (by decide +kernel) (pa_cons (pv 6) pa_nil)) pe_int (nomark _)))))))))), ?_⟩
    refine ⟨_, rfl, wd, _, rfl, SqT.of hw, rfl, _, _, rfl, _, _, rfl, rfl, ?_⟩
    refine ⟨fun σ H' => H' = H ∧ emptyB si u = false ∧ σ = [some (.ref x), some (.bl v), some (.ref wd), some (oV si), some (oV u), none, none, none], ?_, ?_⟩
    · have ret : emptyB si u = true → Q (.bl true) H := fun z => by
        have := q H (Ex.refl H)
        unfold holdsB at this
        rw [z] at this; exact this
      cases si with
      | none => exact ⟨_, rfl, rfl, _, rfl, iteF (iteF ⟨rfl, rfl, rfl⟩)⟩
      | some a =>
        refine ⟨_, rfl, rfl, _, rfl, iteT ?_⟩
        cases u with
        | none => exact ⟨_, rfl, rfl, _, rfl, iteF (iteF ⟨rfl, rfl, rfl⟩)⟩
        | some b =>
          refine ⟨_, rfl, rfl, _, rfl, iteT ⟨_, rfl, _, rfl, _, _, rfl, rfl, _, rfl, ite2 (fun c => ?_) (fun c => ?_)⟩⟩
          · exact ret c
          · exact ⟨rfl, Bool.eq_false_iff.mpr c, rfl⟩
    · rintro σ H' ⟨rfl, he, rfl⟩
      refine tif_by (tt := tIf _ _ _) (fun z H2 => z = .bl (firstB st ts si) ∧ H2 = H') (fun Q' k => ?_) ?_
      · cases si with
        | none => exact ⟨_, rfl, rfl, _, rfl, iteT ⟨_, rfl, x, dx, _, rfl, h1, x, L, st, ts, rfl, hW, k _ _ ⟨rfl, rfl⟩⟩⟩
        | some a => exact ⟨_, rfl, rfl, _, rfl, iteF ⟨_, rfl, x, dx, _, rfl, h1, wfl_no _ _ (by decide +kernel) (by decide +kernel), _, rfl, x, L, st, ts, a, rfl, hW, hn, hp, k _ _ ⟨rfl, rfl⟩⟩⟩
      · rintro _ H' ⟨rfl, rfl⟩
        refine ⟨_, rfl, x, dx, _, rfl, h1, wfl_no _ _ (by decide +kernel) (by decide +kernel), x, L, st, ts, rfl, hW, fun l nl => ?_⟩
        have E1 : Ex H' (upd H' l (.lst (ts.map V.int))) := Ex.new nl
        have hl : upd H' l (.lst (ts.map V.int)) l = some (.lst (ts.map V.int)) := upd_same
        generalize upd H' l (.lst (ts.map V.int)) = H1 at *
        refine ⟨l, rfl, ⟨_, SqL.of hl⟩, fun L2 nL2 => wk_list (K := K) (a := l) (xs := ts.map V.int) (fun j H2 => Ex H1 H2 ∧ H2 L2 = some (.lst (((ts.take j).filter (laterB si u)).map V.int))) ⟨Ex.new nL2, upd_same⟩ (fun j H2 _ g => SqL.of (g.1 _ _ hl)) ?_ ?_⟩
        · rintro j y H2 hy ⟨E2, hL2⟩
          rw [List.getElem?_map] at hy
          cases ht : ts[j]? with
          | none => rw [ht] at hy; cases hy
          | some t =>
            rw [ht] at hy
            cases hy
            have e02 := E1.trans E2
            have hj : j < ts.length := (List.getElem?_eq_some_iff.mp ht).1
            have hlen : ((ts.take j).filter (laterB si u)).length ≤ 1000 := by
              have := List.length_filter_le (laterB si u) (ts.take j)
              rw [List.length_take] at this; omega
            refine ⟨rfl, ?_⟩
            simp only [wipe, _root_.L2.start, List.map_cons, List.map_nil, List.length_cons, List.length_nil, Nat.reduceAdd, Nat.reduceSub, List.replicate_succ, List.replicate_zero, List.cons_append, List.nil_append, List.set_cons_zero, List.set_cons_succ]
            have hsc : scal (.int t) (oV si) = true := by cases si <;> rfl
            refine ⟨_, rfl, _, rfl, hsc, _, rfl, ?_⟩
            have yes : laterB si u t = true → ∃ acc, H2 L2 = some (.lst acc) ∧ acc.length < sizeLine ∧ Ex H1 (upd H2 L2 (.lst (acc ++ [.int t]))) ∧ upd H2 L2 (.lst (acc ++ [.int t])) L2 = some (.lst (((ts.take (j + 1)).filter (laterB si u)).map V.int)) := fun z => by
              refine ⟨_, hL2, sz_lt (by rw [List.length_map]; omega), E2.mut nL2, ?_⟩
              rw [upd_same, take_snoc1 ht, List.filter_append, List.map_append, List.filter_cons, if_pos z]; rfl
            have no : laterB si u t = false → Ex H1 H2 ∧ H2 L2 = some (.lst (((ts.take (j + 1)).filter (laterB si u)).map V.int)) := fun z => by
              refine ⟨E2, ?_⟩
              rw [hL2, take_snoc1 ht, List.filter_append, List.filter_cons, if_neg (by rw [z]; decide), List.filter_nil, List.append_nil]
            cases c1 : (!decide (V.int t = oV si)) with
            | false =>
              refine iteF (iteF ?_)
              exact no (by unfold laterB; rw [c1]; rfl)
            | true =>
              have el : laterB si u t = inB si u t := by unfold laterB; rw [c1]; rfl
              refine iteT ⟨_, rfl, _, rfl, wd, si, u, t, rfl, e02 _ _ hw, _, rfl, ?_⟩
              cases c2 : inB si u t with
              | true => exact iteT ⟨_, rfl, yes (by rw [el, c2])⟩
              | false => exact iteF (no (by rw [el, c2]))
        · rintro H2 ⟨E2, hL2⟩
          rw [List.length_map, List.take_length] at hL2
          have e02 := E1.trans E2
          have hq := q H2 e02
          unfold holdsB at hq
          rw [he, Bool.false_or] at hq
          refine ⟨_, rfl, _, rfl, rfl, _, rfl, ?_⟩
          cases c1 : decide (V.bl (firstB st ts si) = V.bl v) with
          | false => rw [c1] at hq; exact iteF hq
          | true =>
            rw [c1] at hq
            refine iteT ⟨_, rfl, _, _, rfl, .inl (SqL.of hL2), rfl, ?_⟩
            rw [List.length_map]; exact hq
end
end G
namespace G
open PySem PySem.Spec PyProof.Rows L2 Evl TL
theorem pw_snoc {ts : List Int} {a : Int} (h : ts.Pairwise (· < ·)) (ha : ∀ t ∈ ts, t < a) : (ts ++ [a]).Pairwise (· < ·) := by
  rw [List.pairwise_append]
  refine ⟨h, List.pairwise_singleton .., fun x hx y hy => ?_⟩
  rw [List.mem_singleton.mp hy]; exact ha x hx
section
variable {P : Program} {w : World} {K : PySem.W.Frag} {mg : Str → Option Value} {base : Heap}
def spChanges : Sp := fun vs H Q _ => ∃ (p a : Addr) (most wide : Nat) (first : Int), vs = [.ref p, .int most, .int first, .int wide] ∧ most ≤ 100 ∧ 0 < wide ∧ wide ≤ 1000 ∧ PoolOk p a H ∧
  ∀ (l : Addr) (ts : List Int) (H' : Hp), Px p a H H' → H l = none → hid p H' l = some (.lst (ts.map V.int)) → ts.Pairwise (· < ·) → ts.length ≤ most → (∀ t ∈ ts, first ≤ t ∧ t < first + wide + 5 * most) → Q (.ref l) H'
theorem sc_law_changes : FnScope ["pool", "most", "first", "wide", "times", "at", "k"] ["pool", "most", "first", "wide"] (defScope s_law_changes) := ⟨rfl, rfl, rfl, by decide +kernel, rfl, by decide +kernel, by decide +kernel⟩
theorem ok_law_changes (D : Dfd K mg "_law_changes" s_law_changes ["pool", "most", "first", "wide"]) (T : TxtS mg) (C1 : Has P w K mg base 2 "_law_draw" ["pool", "many"] spDrawX) : Has P w K mg base 3 "_law_changes" ["pool", "most", "first", "wide"] spChanges := by
  obtain ⟨f_law_draw, d_law_draw, G_law_draw, g_law_draw, k_law_draw, b_law_draw⟩ := C1
  refine D.has fun f fd F => F.ok sc_law_changes (fun vs H Q E h => ?_) (fun cdv A outer s H vs Q E hr h => ?_)
  · obtain ⟨p, a, most, wide, first, rfl, _⟩ := h
    rfl
  · obtain ⟨p, a, most, wide, first, rfl, hm, hw0, hw, hp, q⟩ := h
    refine ⟨_, (pss_cons (ps_set (i := 4) sc_law_changes.nd rfl (.inl rfl) (pe_lst pa_nil))
    (pss_cons (ps_set (i := 5) sc_law_changes.nd rfl (.inl rfl) (pe_op op_add (pv 2) (pe_call G_law_draw (hr.mono (by omega)) (by rfl) g_law_draw k_law_draw b_law_draw .nil pass0 (pa_cons (pv 0) (pa_cons (pv 3) pa_nil)))))
    (pss_cons (ps_for PassesOwn.never rfl (pi_range1 rfl T.range (pa_cons (pe_call G_law_draw (hr.mono (by omega)) (by rfl) g_law_draw k_law_draw b_law_draw .nil pass0 (pa_cons (pv 0) (pa_cons (pe_op op_add (pv 1) pe_int) pa_nil))) pa_nil)) (pg_name (i := 6) sc_law_changes.nd rfl (.inl rfl))
      (pss_cons (ps_expr (pe_bm PySem.F.plainAttrs_list PySem.F.slot_list_append PySem.F.type_list_append mt_append (pv 4) (pa_cons (pv 5) pa_nil)))
      (pss_one (ps_set (i := 5) sc_law_changes.nd rfl (.inl rfl) (pe_op op_add (pe_op op_add (pv 5) pe_int) (pe_ix ix_tup (pe_tup (pa_cons pe_int (pa_cons pe_int (pa_cons pe_int (pa_cons pe_int pa_nil))))) (pe_call G_law_draw (hr.mono (by omega)) (by rfl) g_law_draw k_law_draw b_law_draw .nil pass0 (pa_cons (pv 0) (pa_cons pe_int pa_nil))) (fun _ _ => rfl)))))))
    (pss_one (ps_ret (pv 4)))))), ?_⟩
    refine ⟨Nat.zero_le _, fun l nl => ?_⟩
    have X0 := (Px.refl hp).new (o := .lst []) nl
    have hpl := hp.ne nl
    have hl0 : hid p (upd H l (.lst [])) l = some (.lst []) := by rw [hid_ne hpl]; exact upd_same
    generalize upd H l (.lst []) = H0 at *
    refine ⟨_, rfl, _, rfl, _, rfl, p, a, wide, rfl, by omega, by omega, X0.pool, fun v1 H1 h1 X1 _ => ⟨_, _, rfl, rfl, ?_⟩⟩
    refine ⟨_, rfl, _, rfl, _, _, rfl, rfl, p, a, (most : Int) + 1, rfl, by omega, by omega, X1.pool, fun v2 H2 h2 X2 _ => ⟨v2, rfl, by omega, by omega, for_range (n := ((v2 : Nat) : Int).toNat)
      (fun i σ H' => Px p a H H' ∧ ∃ (ts : List Int) (at_ : Int) (z : Option V), hid p H' l = some (.lst (ts.map V.int)) ∧ ts.Pairwise (· < ·) ∧ ts.length = i ∧ (∀ t ∈ ts, first ≤ t ∧ t < at_) ∧ first ≤ at_ ∧ at_ < first + wide + 5 * i ∧ σ = [some (.ref p), some (.int most), some (.int first), some (.int wide), some (.ref l), some (.int at_), z])
      ⟨(X0.trans X1).trans X2, [], first + v1, _, X2.get (X1.get hl0), .nil, rfl, (fun _ h => nomatch h), by omega, by omega, rfl⟩ ?_ ?_⟩⟩
    · rintro i σ H3 hi ⟨X3, ts, at_, z, hl, hpw, hlen, hb, b1, b2, rfl⟩
      rw [Int.toNat_natCast] at hi
      refine ⟨_, rfl, .inl ⟨rfl, _, SqL.of (hid_get hl)⟩, _, rfl, l, ts.map V.int, .int at_, rfl, rfl, hid_get hl, sz_lt (by rw [List.length_map]; omega), ?_⟩
      have X4 := X3.mut (o := .lst (ts.map V.int ++ [.int at_])) nl
      have hl4 : hid p (upd H3 l (.lst (ts.map V.int ++ [.int at_]))) l = some (.lst ((ts ++ [at_]).map V.int)) := by rw [hid_ne hpl, upd_same, List.map_append]; rfl
      generalize upd H3 l (.lst (ts.map V.int ++ [.int at_])) = H4 at *
      refine ⟨_, rfl, _, _, rfl, rfl, (by show 4 ≤ sizeLine; decide), fun t nt => ⟨_, rfl, p, a, 4, rfl, by decide, by decide, (X4.new nt).pool, fun v H5 hv X5 kp => ?_⟩⟩
      have ht5 : H5 t = some (.tup [.int 0, .int 0, .int 1, .int 4]) := by rw [kp _ (X4.pool.ne nt)]; exact upd_same
      obtain ⟨m, hm4, hm⟩ : ∃ m : Nat, m ≤ 4 ∧ ([.int 0, .int 0, .int 1, .int 4] : List V)[v]? = some (.int m) := by
        match v, hv with
        | 0, _ => exact ⟨0, by decide, rfl⟩
        | 1, _ => exact ⟨0, by decide, rfl⟩
        | 2, _ => exact ⟨1, by decide, rfl⟩
        | 3, _ => exact ⟨4, by decide, rfl⟩
        | n + 4, h => exact absurd h (by omega)
      refine ⟨_, _, _, _, rfl, rfl, SqT.of ht5, atI_nat hm, _, _, rfl, rfl, (X4.new nt).trans X5, ts ++ [at_], at_ + 1 + m, _, X5.get (((Px.refl X4.pool).new nt).get hl4), pw_snoc hpw fun t ht => (hb t ht).2, by rw [List.length_append, hlen]; rfl, fun t ht => ?_, by omega, by omega, rfl⟩
      rcases List.mem_append.mp ht with h | h
      · have := hb t h; omega
      · rw [List.mem_singleton.mp h]; omega
    · rintro σ H3 ⟨X3, ts, at_, z, hl, hpw, hlen, hb, b1, b2, rfl⟩
      rw [Int.toNat_natCast] at hlen b2
      exact ⟨_, rfl, q l ts H3 X3 nl hl hpw (by omega) fun t ht => by have := hb t ht; omega⟩
def spWV : Sp := fun vs H Q _ => ∃ (wv L : Addr) (st : Bool) (ts : List Int) (t : Int), vs = [.ref wv, .int t] ∧ H wv = some (.tup [.bl st, .ref L]) ∧ H L = some (.lst (ts.map V.int)) ∧ ts.length ≤ 1000 ∧ ∀ H', Ex H H' → Q (.bl (wval st ts t)) H'
theorem sc_law_wave_value : FnScope ["wave", "time", "many", "change"] ["wave", "time"] (defScope s_law_wave_value) := ⟨rfl, rfl, rfl, by decide +kernel, rfl, by decide +kernel, by decide +kernel⟩
theorem ok_law_wave_value (D : Dfd K mg "_law_wave_value" s_law_wave_value ["wave", "time"]) (T : TxtS mg) : Has P w K mg base 1 "_law_wave_value" ["wave", "time"] spWV := by
  refine D.has fun f fd F => F.ok sc_law_wave_value (fun vs H Q E h => ?_) (fun cdv A outer s H vs Q E hr h => ?_)
  · obtain ⟨wv, L, st, ts, t, rfl, _⟩ := h
    rfl
  · obtain ⟨wv, L, st, ts, t, rfl, hw, hl, hn, q⟩ := h
    refine ⟨_, (pss_cons (ps_set (i := 2) sc_law_wave_value.nd rfl (.inl rfl) (pe_callB call_len_seq (by rfl) T.len (by decide +kernel) (pa_cons (pe_lc (own := [("change", 3)]) (g := gName 3) (tt := _) rfl sc_law_wave_value.nd (pi_list (pe_ix ix_tup (pv 0) pe_int (fun _ _ => rfl))) (blkOk_by (N := ["wave", "time", "many", "change"]) (sc := defScope s_law_wave_value) (own := [("change", 3)]) (by decide +kernel)) (fun _ _ _ _ _ => (pg_name (i := 3) sc_law_wave_value.nd rfl (.inl rfl))) (fun _ _ _ _ _ => pts_one (pt_cmpR op_le (pv 3) (pv 1) (nomark _))) (fun _ _ _ _ _ => (pv 3))) pa_nil)))
    (pss_one (ps_ret (pe_cmpR op_ne (pe_ix ix_tup (pv 0) pe_int (fun _ _ => rfl)) (pe_cmpR op_eq (pe_op op_and (pv 2) pe_int) pe_int (nomark _)) (nomark _))))), ?_⟩
    refine ⟨_, rfl, _, _, _, _, rfl, rfl, SqT.of hw, atI_nat (j := 1) rfl, L, rfl, ⟨_, SqL.of hl⟩, fun L3 nL3 => wk_list (K := K) (a := L) (xs := ts.map V.int) (fun j H2 => Ex H H2 ∧ H2 L3 = some (.lst (((ts.take j).filter fun x => decide (x ≤ t)).map V.int))) ⟨Ex.new nL3, upd_same⟩ (fun j H2 _ g => SqL.of (g.1 _ _ hl)) ?_ ?_⟩
    · rintro j y H2 hy ⟨E2, hL2⟩
      rw [List.getElem?_map] at hy
      cases ht : ts[j]? with
      | none => rw [ht] at hy; cases hy
      | some x =>
        rw [ht] at hy
        cases hy
        have hj : j < ts.length := (List.getElem?_eq_some_iff.mp ht).1
        have hlen : ((ts.take j).filter fun x => decide (x ≤ t)).length ≤ 1000 := by
          have := List.length_filter_le (fun x => decide (x ≤ t)) (ts.take j)
          rw [List.length_take] at this; omega
        refine ⟨rfl, ?_⟩
        simp only [wipe, _root_.L2.start, List.map_cons, List.map_nil, List.length_cons, List.length_nil, Nat.reduceAdd, Nat.reduceSub, List.replicate_succ, List.replicate_zero, List.cons_append, List.nil_append, List.set_cons_zero, List.set_cons_succ]
        refine ⟨_, rfl, _, rfl, _, _, rfl, rfl, _, rfl, ite2 (fun c => ?_) (fun c => ?_)⟩
        · refine ⟨_, rfl, _, hL2, sz_lt (by rw [List.length_map]; omega), E2.mut nL3, ?_⟩
          rw [upd_same, take_snoc1 ht, List.filter_append, List.map_append, List.filter_cons, if_pos c]; rfl
        · refine ⟨E2, ?_⟩
          rw [hL2, take_snoc1 ht, List.filter_append, List.filter_cons, if_neg c, List.filter_nil, List.append_nil]
    · rintro H2 ⟨E2, hL2⟩
      rw [List.length_map, List.take_length] at hL2
      refine ⟨_, _, rfl, .inl (SqL.of hL2), _, rfl, _, _, _, _, rfl, rfl, SqT.of (E2 _ _ hw), atI_nat (j := 0) rfl, _, rfl, _, _, rfl, rfl, rfl, rfl, ?_⟩
      rw [List.length_map]
      exact q H2 E2
end
end G
namespace G
open PySem PySem.Spec PyProof.Rows L2 Evl TL
section
variable {P : Program} {w : World} {K : PySem.W.Frag} {mg : Str → Option Value} {base : Heap}
theorem right_snoc {st : Bool} {ts : List Int} {v : Bool} {s u : Option Int} {lo : Int} {i : Nat} : rightB st ts v s u lo (i + 1) = (rightB st ts v s u lo i && !(inB s u (lo + i) && !decide (V.bl (wval st ts (lo + i)) = V.bl v))) := by
  unfold rightB
  rw [List.range_succ, List.all_append, List.all_cons, List.all_nil, Bool.and_true]
def spLaw (K : PySem.W.Frag) : Sp := fun vs H Q _ => ∃ (a : Addr) (ns : List Int), vs = [.ref a] ∧ SqL K H a (ns.map V.int) ∧ ns.length ≤ 63 ∧ ∀ H', Q (.bl true) H'
theorem sc_law : FnScope ["script", "pool", "wave", "value", "ends", "window", "right", "time", "inside"] ["script"] (defScope s_law) := ⟨rfl, rfl, rfl, by decide +kernel, rfl, by decide +kernel, by decide +kernel⟩
theorem fn_law {C B : Addr} {f f0 : Addr} {fd d0 : FuncData} (F : Fun K "law" "law" s_law f fd) (T : TxtS mg) (C1 : Has P w K mg base 1 "_law_pool" ["script"] (spPool K)) (C2 : Has P w K mg base 2 "_law_draw" ["pool", "many"] spDrawX) (C3 : Has P w K mg base 3 "_law_changes" ["pool", "most", "first", "wide"] spChanges)
    (C4 : Has P w K mg base 1 "_law_wave_value" ["wave", "time"] spWV) (C5 : Has P w K mg base 1 "in_window" ["window", "time"] spIn) (C6 : Has P w K mg base 3 "holds" ["waveform", "value", "window"] (spHolds C)) (C7 : Has P w K mg base 1 "_law_same" ["actual", "due"] (spSame 1))
    (g_Waveform : mg "Waveform" = some (.ref C)) (Mk_Waveform : Mk K C f0) (G_Waveform_init : FnOk P w K mg base (L2.CX P w) 2 f0 d0 ["self", "start", "changes"] (spWInit C B)) (b_Waveform_init : Binds K d0 ["self", "start", "changes"] []) : FnOk P w K mg base CX0 4 f fd ["script"] (spLaw K) := by
  obtain ⟨f_law_pool, d_law_pool, G_law_pool, g_law_pool, k_law_pool, b_law_pool⟩ := C1
  obtain ⟨f_law_draw, d_law_draw, G_law_draw, g_law_draw, k_law_draw, b_law_draw⟩ := C2
  obtain ⟨f_law_changes, d_law_changes, G_law_changes, g_law_changes, k_law_changes, b_law_changes⟩ := C3
  obtain ⟨f_law_wave_value, d_law_wave_value, G_law_wave_value, g_law_wave_value, k_law_wave_value, b_law_wave_value⟩ := C4
  obtain ⟨f_in_window, d_in_window, G_in_window, g_in_window, k_in_window, b_in_window⟩ := C5
  obtain ⟨f_holds, d_holds, G_holds, g_holds, k_holds, b_holds⟩ := C6
  obtain ⟨f_law_same, d_law_same, G_law_same, g_law_same, k_law_same, b_law_same⟩ := C7
  refine F.ok sc_law (fun vs H Q E h => ?_) (fun cdv A outer s H vs Q E hr h => ?_)
  · obtain ⟨a, ns, rfl, _⟩ := h
    rfl
  · obtain ⟨sa, ns, rfl, hs, hn, q⟩ := h
    refine ⟨_, (pss_cons (ps_set (i := 1) sc_law.nd rfl (.inl rfl) (pe_call G_law_pool (hr.mono (by omega)) (by rfl) g_law_pool k_law_pool b_law_pool .nil pass0 (pa_cons (pv 0) pa_nil)))
    (pss_cons (ps_set (i := 2) sc_law.nd rfl (.inl rfl) (pe_tup (pa_cons (pe_cmpR op_eq (pe_call G_law_draw (hr.mono (by omega)) (by rfl) g_law_draw k_law_draw b_law_draw .nil pass0 (pa_cons (pv 1) (pa_cons pe_int pa_nil))) pe_int (nomark _)) (pa_cons (pe_call G_law_changes (hr.mono (by omega)) (by rfl) g_law_changes k_law_changes b_law_changes .nil pass0 (pa_cons (pv 1) (pa_cons pe_int (pa_cons (pe_un un_neg pe_int) (pa_cons pe_int pa_nil))))) pa_nil))))
    (pss_cons (ps_set (i := 3) sc_law.nd rfl (.inl rfl) (pe_cmpR op_eq (pe_call G_law_draw (hr.mono (by omega)) (by rfl) g_law_draw k_law_draw b_law_draw .nil pass0 (pa_cons (pv 1) (pa_cons pe_int pa_nil))) pe_int (nomark _)))
    (pss_cons (ps_set (i := 4) sc_law.nd rfl (.inl rfl) (pe_lst (pa_cons (pe_op op_sub (pe_call G_law_draw (hr.mono (by omega)) (by rfl) g_law_draw k_law_draw b_law_draw .nil pass0 (pa_cons (pv 1) (pa_cons pe_int pa_nil))) pe_int) (pa_cons (pe_op op_sub (pe_call G_law_draw (hr.mono (by omega)) (by rfl) g_law_draw k_law_draw b_law_draw .nil pass0 (pa_cons (pv 1) (pa_cons pe_int pa_nil))) pe_int) pa_nil))))
    (pss_cut (ps_if (PW.pt (pw_and (pt_cmpR op_gt (pe_callB call_len_seq (by rfl) T.len (by decide +kernel) (pa_cons (pe_ix ix_tup (pv 2) pe_int (fun _ _ => rfl)) pa_nil)) pe_int (nomark _)) (pw_and1 (pt_cmpR op_eq (pe_call G_law_draw (hr.mono (by omega)) (by rfl) g_law_draw k_law_draw b_law_draw .nil pass0 (pa_cons (pv 1) (pa_cons pe_int pa_nil))) pe_int (nomark _)))))
      (pss_one (ps_asg (pe_op op_sub (pe_op op_add (pe_ix ix_list (pe_ix ix_tup (pv 2) pe_int (fun _ _ => rfl)) (pe_call G_law_draw (hr.mono (by omega)) (by rfl) g_law_draw k_law_draw b_law_draw .nil pass0 (pa_cons (pv 1) (pa_cons (pe_callB call_len_seq (by rfl) T.len (by decide +kernel) (pa_cons (pe_ix ix_tup (pv 2) pe_int (fun _ _ => rfl)) pa_nil)) pa_nil))) (fun _ _ => rfl)) (pe_call G_law_draw (hr.mono (by omega)) (by rfl) g_law_draw k_law_draw b_law_draw .nil pass0 (pa_cons (pv 1) (pa_cons pe_int pa_nil)))) pe_int) (pg_sub (pv 4) (pe_call G_law_draw (hr.mono (by omega)) (by rfl) g_law_draw k_law_draw b_law_draw .nil pass0 (pa_cons (pv 1) (pa_cons pe_int pa_nil))) set_list)))
      pss_nil)
    (pss_cut (ps_if (PW.pt (pw_and (pt_cmpR op_gt (pe_ix ix_list (pv 4) pe_int (fun _ _ => rfl)) (pe_ix ix_list (pv 4) pe_int (fun _ _ => rfl)) (nomark _)) (pw_and1 (pt_cmpR op_gt (pe_call G_law_draw (hr.mono (by omega)) (by rfl) g_law_draw k_law_draw b_law_draw .nil pass0 (pa_cons (pv 1) (pa_cons pe_int pa_nil))) pe_int (nomark _)))))
      (pss_one (ps_set (i := 4) sc_law.nd rfl (.inl rfl) (pe_lst (pa_cons (pe_ix ix_list (pv 4) pe_int (fun _ _ => rfl)) (pa_cons (pe_ix ix_list (pv 4) pe_int (fun _ _ => rfl)) pa_nil)))))
      pss_nil)
    (pss_cons (ps_set (i := 5) sc_law.nd rfl (.inl rfl) (pe_tup (pa_cons (pe_ifExp (pt_cmpR op_eq (pe_call G_law_draw (hr.mono (by omega)) (by rfl) g_law_draw k_law_draw b_law_draw .nil pass0 (pa_cons (pv 1) (pa_cons pe_int pa_nil))) pe_int (nomark _)) pe_non (pe_ix ix_list (pv 4) pe_int (fun _ _ => rfl))) (pa_cons (pe_ifExp (pt_cmpR op_eq (pe_call G_law_draw (hr.mono (by omega)) (by rfl) g_law_draw k_law_draw b_law_draw .nil pass0 (pa_cons (pv 1) (pa_cons pe_int pa_nil))) pe_int (nomark _)) pe_non (pe_ix ix_list (pv 4) pe_int (fun _ _ => rfl))) pa_nil))))
    (pss_cons (ps_set (i := 6) sc_law.nd rfl (.inl rfl) pe_bl)
    (pss_cons (ps_for PassesOwn.never rfl (pi_range2 rfl T.range (pa_cons (pe_un un_neg pe_int) (pa_cons pe_int pa_nil))) (pg_name (i := 7) sc_law.nd rfl (.inl rfl))
      (pss_cons (ps_set (i := 8) sc_law.nd rfl (.inl rfl) (pe_and (pe_or (pe_cmpR op_isN (pe_ix ix_tup (pv 5) pe_int (fun _ _ => rfl)) pe_non (nomark _)) (pe_one (pe_cmpR op_le (pe_ix ix_tup (pv 5) pe_int (fun _ _ => rfl)) (pv 7) (nomark _)))) (pe_one (pe_or (pe_cmpR op_isN (pe_ix ix_tup (pv 5) pe_int (fun _ _ => rfl)) pe_non (nomark _)) (pe_one (pe_cmpR op_lt (pv 7) (pe_ix ix_tup (pv 5) pe_int (fun _ _ => rfl)) (nomark _)))))))
      (pss_cons (ps_if (pt_not (pt_val (pe_call G_law_same (hr.mono (by omega)) (by rfl) g_law_same k_law_same b_law_same .nil pass0 (pa_cons (pe_call G_in_window (hr.mono (by omega)) (by rfl) g_in_window k_in_window b_in_window .nil pass0 (pa_cons (pv 5) (pa_cons (pv 7) pa_nil))) (pa_cons (pv 8) pa_nil)))))
        (pss_one (ps_ret pe_bl))
        pss_nil)
      (pss_one (ps_if (PW.pt (pw_and (pt_val (pv 8)) (pw_and1 (pt_cmpR op_ne (pe_call G_law_wave_value (hr.mono (by omega)) (by rfl) g_law_wave_value k_law_wave_value b_law_wave_value .nil pass0 (pa_cons (pv 2) (pa_cons (pv 7) pa_nil))) (pv 3) (nomark _)))))
        (pss_one (ps_set (i := 6) sc_law.nd rfl (.inl rfl) pe_bl))
        pss_nil)))))
    (pss_one (ps_ret (pe_call G_law_same (hr.mono (by omega)) (by rfl) g_law_same k_law_same b_law_same .nil pass0 (pa_cons (pe_call G_holds (hr.mono (by omega)) (by rfl) g_holds k_holds b_holds .nil pass0 (pa_cons (pe_make Mk_Waveform G_Waveform_init (hr.mono (by omega)) (by rfl) g_Waveform b_Waveform_init .nil passX0 (pa_cons (pe_ix ix_tup (pv 2) pe_int (fun _ _ => rfl)) (pa_cons (pe_ix ix_tup (pv 2) pe_int (fun _ _ => rfl)) pa_nil))) (pa_cons (pv 3) (pa_cons (pv 5) pa_nil)))) (pa_cons (pv 6) pa_nil)))))))))))))), ?_⟩
    refine ⟨_, rfl, sa, ns, rfl, hs, by omega, fun p a H0 hp E0 np => ?_⟩
    -- wave, value
    refine ⟨_, rfl, p, a, 2, rfl, by decide, by decide, hp, fun v1 H1 h1 X1 _ => ⟨rfl, _, rfl, _, rfl, p, a, 6, 20, -20, rfl, by decide, by decide, by decide, X1.pool, fun tl ts H2 X2 ntl htl hpw hln hbd => ⟨(by show 2 ≤ sizeLine; decide), fun wv nwv => ?_⟩⟩⟩
    obtain ⟨st, est⟩ : ∃ st : Bool, st = decide (V.int (v1 : Int) = V.int 1) := ⟨_, rfl⟩
    rw [← est]
    have X3 := (X1.trans X2).new (o := .tup [.bl st, .ref tl]) nwv
    have hwv : hid p (upd H2 wv (.tup [.bl st, .ref tl])) wv = some (.tup [.bl st, .ref tl]) := by rw [hid_ne (X2.pool.ne nwv)]; exact upd_same
    have htl3 : hid p (upd H2 wv (.tup [.bl st, .ref tl])) tl = some (.lst (ts.map V.int)) := ((Px.refl X2.pool).new nwv).get htl
    generalize upd H2 wv (.tup [.bl st, .ref tl]) = H3 at *
    refine ⟨_, rfl, p, a, 2, rfl, by decide, by decide, X3.pool, fun v2 H4 h4 X4 _ => ⟨rfl, ?_⟩⟩
    obtain ⟨v, ev⟩ : ∃ v : Bool, v = decide (V.int (v2 : Int) = V.int 1) := ⟨_, rfl⟩
    rw [← ev]
    -- ends
    refine ⟨_, rfl, p, a, 60, rfl, by decide, by decide, X4.pool, fun v3 H5 h5 X5 _ => ⟨_, _, rfl, rfl, _, rfl, p, a, 60, rfl, by decide, by decide, X5.pool, fun v4 H6 h6 X6 _ => ⟨_, _, rfl, rfl, (by show 2 ≤ sizeLine; decide), fun el nel => ?_⟩⟩⟩
    have X6' := (X3.trans X4).trans (X5.trans X6)
    have X7 := X6'.new (o := .lst [.int ((v3 : Int) - 25), .int ((v4 : Int) - 25)]) nel
    have nel0 : H0 el = none := X6'.free nel
    have hel : hid p (upd H6 el (.lst [.int ((v3 : Int) - 25), .int ((v4 : Int) - 25)])) el = some (.lst [.int ((v3 : Int) - 25), .int ((v4 : Int) - 25)]) := by rw [hid_ne (X6.pool.ne nel)]; exact upd_same
    have Y7 := ((X4.trans X5).trans X6).new (o := .lst [.int ((v3 : Int) - 25), .int ((v4 : Int) - 25)]) nel
    have hwv7 := Y7.get hwv
    have htl7 := Y7.get htl3
    have eltl : tl ≠ el := ne_of_none (hid_get (((X4.trans X5).trans X6).get htl3)) nel
    have elwv : wv ≠ el := ne_of_none (hid_get (((X4.trans X5).trans X6).get hwv)) nel
    generalize upd H6 el (.lst [.int ((v3 : Int) - 25), .int ((v4 : Int) - 25)]) = H7 at *
    refine ⟨fun σ H' => Px p a H0 H' ∧ hid p H' wv = some (.tup [.bl st, .ref tl]) ∧ hid p H' tl = some (.lst (ts.map V.int)) ∧ ∃ (x y : Int), hid p H' el = some (.lst [.int x, .int y]) ∧ (-30 ≤ x ∧ x ≤ 40) ∧ (-30 ≤ y ∧ y ≤ 40) ∧ σ = [some (.ref sa), some (.ref p), some (.ref wv), some (.bl v), some (.ref el), none, none, none, none], ?_, ?_⟩
    · have base7 : Px p a H0 H7 ∧ hid p H7 wv = some (.tup [.bl st, .ref tl]) ∧ hid p H7 tl = some (.lst (ts.map V.int)) := ⟨X7, hwv7, htl7⟩
      refine ⟨_, rfl, _, _, _, _, rfl, rfl, SqT.of (hid_get hwv7), atI_nat (j := 1) rfl, _, _, rfl, .inl (SqL.of (hid_get htl7)), _, _, rfl, rfl, _, rfl, ite2 (fun c1 => ?_) (fun c1 => ?_)⟩
      · have hpos : 0 < ts.length := by have := of_decide_eq_true c1; rw [List.length_map] at this; omega
        refine ⟨_, rfl, p, a, 2, rfl, by decide, by decide, X7.pool, fun v5 H8 h8 X8 _ => ⟨rfl, _, rfl, ite2 (fun c2 => ?_) (fun c2 => ?_)⟩⟩
        · have hwv8 := X8.get hwv7
          have htl8 := X8.get htl7
          refine ⟨_, rfl, _, _, _, _, rfl, rfl, SqT.of (hid_get hwv8), atI_nat (j := 1) rfl, _, rfl, _, rfl, _, _, _, _, rfl, rfl, SqT.of (hid_get hwv8), atI_nat (j := 1) rfl, _, _, rfl, .inl (SqL.of (hid_get htl8)), p, a, ts.length, by rw [List.length_map]; rfl, by omega, by omega, X8.pool, fun v6 H9 h9 X9 _ => ?_⟩
          have hv6 : v6 < ts.length := by omega
          have htl9 := X9.get htl8
          have hb := hbd ts[v6] (List.getElem_mem hv6)
          refine ⟨_, _, _, _, rfl, rfl, SqL.of (hid_get htl9), atI_nat (by rw [List.getElem?_map, List.getElem?_eq_getElem hv6]; rfl), _, rfl, p, a, 3, rfl, by decide, by decide, X9.pool, fun v7 H10 h10 X10 _ => ⟨_, _, rfl, rfl, _, _, rfl, rfl, _, rfl, _, rfl, p, a, 2, rfl, by decide, by decide, X10.pool, fun v8 H11 h11 X11 _ => ?_⟩⟩
          have Z11 := X8.trans (X9.trans (X10.trans X11))
          have hel11 := Z11.get hel
          have X12 := (X7.trans Z11).mut (o := .lst ([V.int ((v3 : Int) - 25), V.int ((v4 : Int) - 25)].set v8 (.int (ts[v6] + (v7 : Int) - 1)))) nel0
          refine ⟨el, _, (v8 : Int), v8, rfl, rfl, hid_get hel11, ?_, X12, ?_, ?_, ?_⟩
          · have hv8 : v8 = 0 ∨ v8 = 1 := by omega
            rcases hv8 with rfl | rfl <;> rfl
          · rw [hid_upd_ne (hid_neq hel11), upd_ne elwv]; exact Z11.get hwv7
          · rw [hid_upd_ne (hid_neq hel11), upd_ne eltl]; exact Z11.get htl7
          · have hv8 : v8 = 0 ∨ v8 = 1 := by omega
            rcases hv8 with rfl | rfl
            · exact ⟨_, _, by rw [hid_ne (hid_neq hel11), upd_same]; rfl, by omega, by omega, rfl⟩
            · exact ⟨_, _, by rw [hid_ne (hid_neq hel11), upd_same]; rfl, by omega, by omega, rfl⟩
        · exact ⟨X7.trans X8, X8.get hwv7, X8.get htl7, _, _, X8.get hel, by omega, by omega, rfl⟩
      · exact ⟨X7, hwv7, htl7, _, _, hel, by omega, by omega, rfl⟩
    · rintro σ H8 ⟨X8, hwv8, htl8, x, y, hel8, bx, by_, rfl⟩
      refine ⟨fun σ H' => Px p a H0 H' ∧ hid p H' wv = some (.tup [.bl st, .ref tl]) ∧ hid p H' tl = some (.lst (ts.map V.int)) ∧ ∃ (el : Addr) (x y : Int), hid p H' el = some (.lst [.int x, .int y]) ∧ (-30 ≤ x ∧ x ≤ 40) ∧ (-30 ≤ y ∧ y ≤ 40) ∧ σ = [some (.ref sa), some (.ref p), some (.ref wv), some (.bl v), some (.ref el), none, none, none, none], ?_, ?_⟩
      · refine ⟨_, rfl, _, _, _, _, rfl, rfl, SqL.of (hid_get hel8), atI_nat (j := 0) rfl, _, rfl, _, _, _, _, rfl, rfl, SqL.of (hid_get hel8), atI_nat (j := 1) rfl, _, _, rfl, rfl, _, rfl, ite2 (fun c1 => ?_) (fun c1 => ?_)⟩
        · refine ⟨_, rfl, p, a, 4, rfl, by decide, by decide, X8.pool, fun v5 H9 h9 X9 _ => ⟨_, _, rfl, rfl, _, rfl, ite2 (fun c2 => ?_) (fun c2 => ?_)⟩⟩
          · have hel9 := X9.get hel8
            refine ⟨_, rfl, _, _, _, _, rfl, rfl, SqL.of (hid_get hel9), atI_nat (j := 1) rfl, _, rfl, _, _, _, _, rfl, rfl, SqL.of (hid_get hel9), atI_nat (j := 0) rfl, (by show 2 ≤ sizeLine; decide), fun e2 ne2 => ?_⟩
            have X10 := (Px.refl X9.pool).new (o := .lst [.int y, .int x]) ne2
            exact ⟨(X8.trans X9).trans X10, X10.get (X9.get hwv8), X10.get (X9.get htl8), e2, y, x, by rw [hid_ne (X9.pool.ne ne2)]; exact upd_same, by_, bx, rfl⟩
          · exact ⟨X8.trans X9, X9.get hwv8, X9.get htl8, el, x, y, X9.get hel8, bx, by_, rfl⟩
        · exact ⟨X8, hwv8, htl8, el, x, y, hel8, bx, by_, rfl⟩
      · rintro σ H9 ⟨X9, hwv9, htl9, el, x, y, hel9, bx, by_, rfl⟩
        -- the window
        refine tif_by (tt := tIf _ _ _) (fun z H' => Px p a H9 H' ∧ ∃ o : Option Int, z = oV o ∧ ∀ b, o = some b → -30 ≤ b ∧ b ≤ 40) (fun Q' k => ?_) ?_
        · refine ⟨_, rfl, p, a, 4, rfl, by decide, by decide, X9.pool, fun v5 H10 h10 X10 _ => ⟨rfl, _, rfl, ite2 (fun c2 => ?_) (fun c2 => ?_)⟩⟩
          · exact k _ _ ⟨X10, none, rfl, fun b e => nomatch e⟩
          · exact ⟨_, rfl, _, _, _, _, rfl, rfl, SqL.of (hid_get (X10.get hel9)), atI_nat (j := 0) rfl, k _ _ ⟨X10, some x, rfl, fun b e => by cases e; exact bx⟩⟩
        rintro _ H10 ⟨X10, si, rfl, bs⟩
        refine tif_by (tt := tIf _ _ _) (fun z H' => Px p a H9 H' ∧ ∃ o : Option Int, z = oV o ∧ ∀ b, o = some b → -30 ≤ b ∧ b ≤ 40) (fun Q' k => ?_) ?_
        · refine ⟨_, rfl, p, a, 4, rfl, by decide, by decide, X10.pool, fun v5 H11 h11 X11 _ => ⟨rfl, _, rfl, ite2 (fun c2 => ?_) (fun c2 => ?_)⟩⟩
          · exact k _ _ ⟨X10.trans X11, none, rfl, fun b e => nomatch e⟩
          · exact ⟨_, rfl, _, _, _, _, rfl, rfl, SqL.of (hid_get (X11.get (X10.get hel9))), atI_nat (j := 1) rfl, k _ _ ⟨X10.trans X11, some y, rfl, fun b e => by cases e; exact by_⟩⟩
        rintro _ H11 ⟨X11, u, rfl, bu⟩
        refine ⟨(by show 2 ≤ sizeLine; decide), fun wd nwd => ?_⟩
        have hwd : upd H11 wd (.tup [oV si, oV u]) wd = some (.tup [oV si, oV u]) := upd_same
        have X12 := X11.new (o := .tup [oV si, oV u]) nwd
        generalize upd H11 wd (.tup [oV si, oV u]) = H12 at *
        have hwv12 := X12.at_ hwv9
        have htl12 := X12.at_ htl9
        clear X1 X2 X3 X4 X5 X6 X6' X7 X8 X9 X10 X11 X12
        -- the times
        refine ⟨_, rfl, -60, 80, rfl, by decide, for_range (n := 140) (fun i σ H' => Ex H12 H' ∧ ∃ z1 z2 : Option V, σ = [some (.ref sa), some (.ref p), some (.ref wv), some (.bl v), some (.ref el), some (.ref wd), some (.bl (rightB st ts v si u (-60) i)), z1, z2]) ⟨.refl _, _, _, rfl⟩ ?_ ?_⟩
        · rintro i σ H13 hi ⟨E13, z1, z2, rfl⟩
          refine tif_by (tt := tAndV _ _) (fun z H' => z = .bl (inB si u (-60 + (i : Int))) ∧ H' = H13) (fun Q' k => ?_) ?_
          · have hwd13 := E13 _ _ hwd
            cases si with
            | none =>
              refine ⟨_, rfl, _, _, _, _, rfl, rfl, SqT.of hwd13, atI_nat (j := 0) rfl, rfl, _, rfl, iteT ⟨_, rfl, iteT ?_⟩⟩
              cases u with
              | none => exact ⟨_, rfl, _, _, _, _, rfl, rfl, SqT.of hwd13, atI_nat (j := 1) rfl, rfl, _, rfl, iteT (k _ _ ⟨rfl, rfl⟩)⟩
              | some b => exact ⟨_, rfl, _, _, _, _, rfl, rfl, SqT.of hwd13, atI_nat (j := 1) rfl, rfl, _, rfl, iteF ⟨_, rfl, _, rfl, _, _, _, _, rfl, rfl, SqT.of hwd13, atI_nat (j := 1) rfl, _, _, rfl, rfl, k _ _ ⟨rfl, rfl⟩⟩⟩
            | some a =>
              refine ⟨_, rfl, _, _, _, _, rfl, rfl, SqT.of hwd13, atI_nat (j := 0) rfl, rfl, _, rfl, iteF ⟨_, rfl, _, _, _, _, rfl, rfl, SqT.of hwd13, atI_nat (j := 0) rfl, _, rfl, _, _, rfl, rfl, _, rfl, ite2 (fun c => ?_) (fun c => ?_)⟩⟩
              · cases u with
                | none =>
                  refine ⟨_, rfl, _, _, _, _, rfl, rfl, SqT.of hwd13, atI_nat (j := 1) rfl, rfl, _, rfl, iteT (k _ _ ⟨?_, rfl⟩)⟩
                  show V.bl true = V.bl (decide (a ≤ -60 + (i : Int)) && true)
                  rw [c]; rfl
                | some b =>
                  refine ⟨_, rfl, _, _, _, _, rfl, rfl, SqT.of hwd13, atI_nat (j := 1) rfl, rfl, _, rfl, iteF ⟨_, rfl, _, rfl, _, _, _, _, rfl, rfl, SqT.of hwd13, atI_nat (j := 1) rfl, _, _, rfl, rfl, k _ _ ⟨?_, rfl⟩⟩⟩
                  show _ = V.bl (decide (a ≤ -60 + (i : Int)) && decide (-60 + (i : Int) < b))
                  rw [c]; rfl
              · refine k _ _ ⟨?_, rfl⟩
                show _ = V.bl (decide (a ≤ -60 + (i : Int)) && _)
                rw [Bool.eq_false_iff.mpr c]; rfl
          rintro _ H13 ⟨rfl, rfl⟩
          have hR := right_snoc (st := st) (ts := ts) (v := v) (s := si) (u := u) (lo := -60) (i := i)
          refine ⟨_, rfl, _, rfl, wd, si, u, _, rfl, E13 _ _ hwd, _, rfl, _, _, .bl (inB si u (-60 + (i : Int))), rfl, .bl _, .bl _, trivial, _, rfl, iteF ?_⟩
          cases hi2 : inB si u (-60 + (i : Int)) with
          | false =>
            rw [hi2, Bool.false_and, Bool.not_false, Bool.and_true] at hR
            refine ⟨_, rfl, _, rfl, iteF (iteF ⟨E13, some (.int (-60 + (i : Int))), some (.bl false), ?_⟩)⟩
            rw [hR]; rfl
          | true =>
            rw [hi2, Bool.true_and, Bool.not_not] at hR
            refine ⟨_, rfl, _, rfl, iteT ⟨_, rfl, _, rfl, wv, tl, st, ts, _, rfl, E13 _ _ hwv12, E13 _ _ htl12, by omega, fun H14 E14 => ⟨_, rfl, rfl, _, rfl, ?_⟩⟩⟩
            cases hd : decide (V.bl (wval st ts (-60 + (i : Int))) = V.bl v) with
            | true =>
              rw [hd, Bool.and_true] at hR
              refine iteF ⟨E13.trans E14, some (.int (-60 + (i : Int))), some (.bl true), ?_⟩
              rw [hR]; rfl
            | false =>
              rw [hd, Bool.and_false] at hR
              refine iteT ⟨E13.trans E14, some (.int (-60 + (i : Int))), some (.bl true), ?_⟩
              rw [hR]; rfl
        · rintro σ H13 ⟨E13, z1, z2, rfl⟩
          have hh := holds_right (st := st) (v := v) (s := si) (u := u) (lo := -60) (n := 140) hpw (fun x hx => by have := hbd x hx; omega) (fun b e => by have := bs b e; omega) (fun b e => by have := bu b e; omega) (by decide)
          have hwv13 := E13 _ _ hwv12
          have htl13 := E13 _ _ htl12
          refine ⟨_, rfl, _, _, _, _, rfl, rfl, SqT.of hwv13, atI_nat (j := 0) rfl, _, rfl, _, _, _, _, rfl, rfl, SqT.of hwv13, atI_nat (j := 1) rfl, fun x dx nx nd ne => ⟨x, dx, tl, st, ts, rfl, upd_same, made_old nx nd htl13, by omega, fun _ L H14 nL eb hW => ⟨rfl, ?_⟩, fun z => absurd (ascB_pw hpw) (by rw [z]; decide)⟩⟩
          have E14 := ExBut.made nx nd eb
          refine ⟨_, rfl, _, rfl, x, L, wd, st, v, ts, si, u, rfl, hW, by omega, hpw, E14 _ _ (E13 _ _ hwd), fun H15 E15 => ⟨_, rfl, _, _, .bl (rightB st ts v si u (-60) 140), rfl, ?_, .bl _, trivial, q _⟩⟩
          rw [hh]; exact .bl _
end
end G
namespace G
open PySem PySem.Spec PyProof.Rows L2
/-- the defs and the built-in names as the top has left them -/
structure All (K : PySem.W.Frag) (mg : Str → Option Value) : Prop where
  d_wall : Dfd K mg "_wall" s_wall ["k"]
  d_is_ascending : Dfd K mg "is_ascending" s_is_ascending ["numbers"]
  d_count_until : Dfd K mg "count_until" s_count_until ["numbers", "limit"]
  d_look_up : Dfd K mg "look_up" s_look_up ["table", "bits"]
  d_in_window : Dfd K mg "in_window" s_in_window ["window", "time"]
  d_holds : Dfd K mg "holds" s_holds ["waveform", "value", "window"]
  d_law_same : Dfd K mg "_law_same" s_law_same ["actual", "due"]
  d_law_pool : Dfd K mg "_law_pool" s_law_pool ["script"]
  d_law_spread : Dfd K mg "_law_spread" s_law_spread ["cell"]
  d_law_draw : Dfd K mg "_law_draw" s_law_draw ["pool", "many"]
  d_law_changes : Dfd K mg "_law_changes" s_law_changes ["pool", "most", "first", "wide"]
  d_law_wave_value : Dfd K mg "_law_wave_value" s_law_wave_value ["wave", "time"]
  z_all : mg "all" = none
  z_range : mg "range" = none
  z_len : mg "len" = none
  z_sum : mg "sum" = none
  z_enumerate : mg "enumerate" = none
  z_list : mg "list" = none
  z_set : mg "set" = none
  z_sorted : mg "sorted" = none
  z_property : mg "property" = none
  z_classmethod : mg "classmethod" = none
  z_isinstance : mg "isinstance" = none
  z_tuple : mg "tuple" = none
  z_bool : mg "bool" = none
  z_int : mg "int" = none
  z_str : mg "str" = none
  z_ValueError : mg "ValueError" = none
  k_Waveform : ∃ C : Addr, Cl_Waveform K mg C
  e_BadArgument : ∃ C : Addr, ExcH K mg "BadArgument" C
end G
namespace G
open PySem PySem.Spec PyProof.Rows L2
theorem glue {P : Program} {w : World} {K : PySem.W.Frag} {mg : Str → Option Value} {base : Heap} (A : All K mg) {f : Addr} {fd : FuncData} (F : Fun K "law" "law" s_law f fd) : FnOk P w K mg base CX0 4 f fd ["script"] (spLaw K) := by
  have TL : TxtL mg := ⟨A.z_int, A.z_len, A.z_list, A.z_range⟩
  have TS : TxtS mg := ⟨A.z_isinstance, A.z_tuple, A.z_list, A.z_len, A.z_range, A.z_bool, A.z_int, A.z_str⟩
  have TW : TxtW mg := ⟨A.z_len, A.z_all, A.z_range, A.z_list⟩
  obtain ⟨B, U⟩ := A.e_BadArgument
  obtain ⟨C, W⟩ := A.k_Waveform
  obtain ⟨fi, di, Mi, Fi, bi⟩ := W.m_init
  obtain ⟨fc, dc, Mc, Fc, bc⟩ := W.m_changes
  obtain ⟨fv, dv, Mv, Fv, bv⟩ := W.m_value_at
  obtain ⟨ps, fs, ds, Ps, Fs, bs⟩ := W.p_start
  have hd := drawX (P := P) (w := w) (base := base) (ok_law_draw A.d_law_draw TL (ok_law_spread A.d_law_spread TL))
  exact fn_law F TS (ok_law_pool A.d_law_pool TL) hd (ok_law_changes A.d_law_changes TS hd) (ok_law_wave_value A.d_law_wave_value TS) (ok_in_window A.d_in_window)
    (ok_holds A.d_holds TW W (ok_in_window A.d_in_window) Ps (ok_Waveform_start Fs W) bs Mc (ok_Waveform_changes Fc W TW) bc Mv (ok_Waveform_value_at Fv W (ok_count_until A.d_count_until TW)) bv)
    (ok_law_same A.d_law_same TS 1) W.gC Mi (ok_Waveform_init Fi W TW U.u (ok_is_ascending A.d_is_ascending TW)) bi
end G
namespace G
open PySem PySem.Spec PyProof.Rows L2
theorem all_mk {l : PySem.W.OpenLaw} {w : World} {K : PySem.W.Frag} {h : Heap} {mg : Str → Option Value} {fa f0 f1 f2 f3 f4 f5 f6 f7 f8 f9 f10 f11 f12 : Addr} (X : K.In h) (G : h.Ns mainGlobals mg) (hfa : mg "law" = some (.ref fa))
    {od0 an0 od1 an1 od2 an2 od3 an3 od4 an4 od5 an5 od6 an6 od7 an7 od8 an8 od9 an9 od10 an10 od11 an11 od12 an12 : Option Addr} {sl0 sl1 sl2 sl3 sl4 sl5 sl6 sl7 sl8 sl9 sl10 sl11 sl12 : Array (Option Value)} {oc0 kv0 dc0 pm0 cd0 ct0 oc1 kv1 dc1 pm1 cd1 ct1 oc2 kv2 dc2 pm2 cd2 ct2 oc3 kv3 dc3 pm3 cd3 ct3 oc4 kv4 dc4 pm4 cd4 ct4 oc5 kv5 dc5 pm5 cd5 ct5 oc6 kv6 dc6 pm6 cd6 ct6 oc7 kv7 dc7 pm7 cd7 ct7 oc8 kv8 dc8 pm8 cd8 ct8 oc9 kv9 dc9 pm9 cd9 ct9 oc10 kv10 dc10 pm10 cd10 ct10 oc11 kv11 dc11 pm11 cd11 ct11 oc12 kv12 dc12 pm12 cd12 ct12 : Value}
    (a0 : PySem.W.nsIn K mainGlobals "_wall" = some (some (.ref f0))) (l0 : K.lookup f0 = some ⟨oc0, od0, .func (PySem.W.fnOf "_wall" "_wall" (defArgs s_wall) (defBody s_wall) (defScope s_wall) .none kv0 dc0 pm0 an0 cd0 ct0), sl0⟩) (c0 : PySem.W.codeIn K cd0 "_wall" = true) (k0 : PySem.W.keepIn K (.ref f0) = true)
    (a1 : PySem.W.nsIn K mainGlobals "is_ascending" = some (some (.ref f1))) (l1 : K.lookup f1 = some ⟨oc1, od1, .func (PySem.W.fnOf "is_ascending" "is_ascending" (defArgs s_is_ascending) (defBody s_is_ascending) (defScope s_is_ascending) .none kv1 dc1 pm1 an1 cd1 ct1), sl1⟩) (c1 : PySem.W.codeIn K cd1 "is_ascending" = true) (k1 : PySem.W.keepIn K (.ref f1) = true)
    (a2 : PySem.W.nsIn K mainGlobals "count_until" = some (some (.ref f2))) (l2 : K.lookup f2 = some ⟨oc2, od2, .func (PySem.W.fnOf "count_until" "count_until" (defArgs s_count_until) (defBody s_count_until) (defScope s_count_until) .none kv2 dc2 pm2 an2 cd2 ct2), sl2⟩) (c2 : PySem.W.codeIn K cd2 "count_until" = true) (k2 : PySem.W.keepIn K (.ref f2) = true)
    (a3 : PySem.W.nsIn K mainGlobals "look_up" = some (some (.ref f3))) (l3 : K.lookup f3 = some ⟨oc3, od3, .func (PySem.W.fnOf "look_up" "look_up" (defArgs s_look_up) (defBody s_look_up) (defScope s_look_up) .none kv3 dc3 pm3 an3 cd3 ct3), sl3⟩) (c3 : PySem.W.codeIn K cd3 "look_up" = true) (k3 : PySem.W.keepIn K (.ref f3) = true)
    (a4 : PySem.W.nsIn K mainGlobals "in_window" = some (some (.ref f4))) (l4 : K.lookup f4 = some ⟨oc4, od4, .func (PySem.W.fnOf "in_window" "in_window" (defArgs s_in_window) (defBody s_in_window) (defScope s_in_window) .none kv4 dc4 pm4 an4 cd4 ct4), sl4⟩) (c4 : PySem.W.codeIn K cd4 "in_window" = true) (k4 : PySem.W.keepIn K (.ref f4) = true)
    (a5 : PySem.W.nsIn K mainGlobals "holds" = some (some (.ref f5))) (l5 : K.lookup f5 = some ⟨oc5, od5, .func (PySem.W.fnOf "holds" "holds" (defArgs s_holds) (defBody s_holds) (defScope s_holds) .none kv5 dc5 pm5 an5 cd5 ct5), sl5⟩) (c5 : PySem.W.codeIn K cd5 "holds" = true) (k5 : PySem.W.keepIn K (.ref f5) = true)
    (a6 : PySem.W.nsIn K mainGlobals "_law_same" = some (some (.ref f6))) (l6 : K.lookup f6 = some ⟨oc6, od6, .func (PySem.W.fnOf "_law_same" "_law_same" (defArgs s_law_same) (defBody s_law_same) (defScope s_law_same) .none kv6 dc6 pm6 an6 cd6 ct6), sl6⟩) (c6 : PySem.W.codeIn K cd6 "_law_same" = true) (k6 : PySem.W.keepIn K (.ref f6) = true)
    (a7 : PySem.W.nsIn K mainGlobals "_law_pool" = some (some (.ref f7))) (l7 : K.lookup f7 = some ⟨oc7, od7, .func (PySem.W.fnOf "_law_pool" "_law_pool" (defArgs s_law_pool) (defBody s_law_pool) (defScope s_law_pool) .none kv7 dc7 pm7 an7 cd7 ct7), sl7⟩) (c7 : PySem.W.codeIn K cd7 "_law_pool" = true) (k7 : PySem.W.keepIn K (.ref f7) = true)
    (a8 : PySem.W.nsIn K mainGlobals "_law_spread" = some (some (.ref f8))) (l8 : K.lookup f8 = some ⟨oc8, od8, .func (PySem.W.fnOf "_law_spread" "_law_spread" (defArgs s_law_spread) (defBody s_law_spread) (defScope s_law_spread) .none kv8 dc8 pm8 an8 cd8 ct8), sl8⟩) (c8 : PySem.W.codeIn K cd8 "_law_spread" = true) (k8 : PySem.W.keepIn K (.ref f8) = true)
    (a9 : PySem.W.nsIn K mainGlobals "_law_draw" = some (some (.ref f9))) (l9 : K.lookup f9 = some ⟨oc9, od9, .func (PySem.W.fnOf "_law_draw" "_law_draw" (defArgs s_law_draw) (defBody s_law_draw) (defScope s_law_draw) .none kv9 dc9 pm9 an9 cd9 ct9), sl9⟩) (c9 : PySem.W.codeIn K cd9 "_law_draw" = true) (k9 : PySem.W.keepIn K (.ref f9) = true)
    (a10 : PySem.W.nsIn K mainGlobals "_law_changes" = some (some (.ref f10))) (l10 : K.lookup f10 = some ⟨oc10, od10, .func (PySem.W.fnOf "_law_changes" "_law_changes" (defArgs s_law_changes) (defBody s_law_changes) (defScope s_law_changes) .none kv10 dc10 pm10 an10 cd10 ct10), sl10⟩) (c10 : PySem.W.codeIn K cd10 "_law_changes" = true) (k10 : PySem.W.keepIn K (.ref f10) = true)
    (a11 : PySem.W.nsIn K mainGlobals "_law_wave_value" = some (some (.ref f11))) (l11 : K.lookup f11 = some ⟨oc11, od11, .func (PySem.W.fnOf "_law_wave_value" "_law_wave_value" (defArgs s_law_wave_value) (defBody s_law_wave_value) (defScope s_law_wave_value) .none kv11 dc11 pm11 an11 cd11 ct11), sl11⟩) (c11 : PySem.W.codeIn K cd11 "_law_wave_value" = true) (k11 : PySem.W.keepIn K (.ref f11) = true)
    (a12 : PySem.W.nsIn K mainGlobals "law" = some (some (.ref f12))) (l12 : K.lookup f12 = some ⟨oc12, od12, .func (PySem.W.fnOf "law" "law" (defArgs s_law) (defBody s_law) (defScope s_law) .none kv12 dc12 pm12 an12 cd12 ct12), sl12⟩) (c12 : PySem.W.codeIn K cd12 "law" = true) (k12 : PySem.W.keepIn K (.ref f12) = true)
    {xC0 : Addr} (u0_0 : PySem.W.nsIn K mainGlobals "BadArgument" = some (some (.ref xC0))) (u0_1 : PySem.W.excIn K xC0 [.type "ValueError", .type "Exception", .type "BaseException", .type "object"] "ValueError.__new__" = true) (u0_2 : PySem.W.keepIn K (.ref xC0) = true) (u0_3 : PySem.W.subIn K (.ref xC0) (.type "BaseException") = some true) (u0_4 : PySem.W.typeIn K (.ref xC0) = some (.type "type")) (u0_5 : PySem.W.hasDictIn K xC0 = true) (u0_6 : PySem.W.subIn K (.ref xC0) (.ref xC0) = some true)
    {yC0 : Addr} {f0m0 : Addr} {od0m0 an0m0 : Option Addr} {sl0m0 : Array (Option Value)} {oc0m0 kv0m0 dc0m0 pm0m0 cd0m0 ct0m0 : Value} {f0m1 : Addr} {od0m1 an0m1 : Option Addr} {sl0m1 : Array (Option Value)} {oc0m1 kv0m1 dc0m1 pm0m1 cd0m1 ct0m1 : Value} {f0m2 : Addr} {od0m2 an0m2 : Option Addr} {sl0m2 : Array (Option Value)} {oc0m2 kv0m2 dc0m2 pm0m2 cd0m2 ct0m2 : Value} {f0p0 : Addr} {od0p0 an0p0 : Option Addr} {sl0p0 : Array (Option Value)} {oc0p0 kv0p0 dc0p0 pm0p0 cd0p0 ct0p0 : Value} {p0p0 : Addr} {rs0p0 : List Value}
    (y0_0 : PySem.W.nsIn K mainGlobals "Waveform" = some (some (.ref yC0))) (y0_4 : PySem.W.findIn K (.ref yC0) "__setattr__" = some (some (.builtin "object.__setattr__"))) (y0_10 : PySem.W.findIn K (.ref yC0) "__init__" = some (some (.ref f0m0))) (y0_15 : PySem.W.findIn K (.ref yC0) "changes" = some (some (.ref f0m1))) (y0_20 : PySem.W.findIn K (.ref yC0) "value_at" = some (some (.ref f0m2))) (y0_25 : PySem.W.findIn K (.ref yC0) "start" = some (some (.ref p0p0))) (y0_29 : PySem.W.findIn K (.ref yC0) "_start" = some none) (y0_30 : PySem.W.findIn K (.ref yC0) "_changes" = some none) (y0_28 : PySem.W.recIn K p0p0 "property" = some (.ref f0p0 :: rs0p0)) (y0_1 : PySem.W.plainGet K yC0 Str.empty = true) (y0_2 : PySem.W.hasDictIn K yC0 = true) (y0_3 : PySem.W.plainOver K yC0 = true) (y0_5 : PySem.W.makesIn K yC0 = true) (y0_6 : PySem.W.keepIn K (.ref yC0) = true) (y0_7 : K.lookup f0m0 = some ⟨oc0m0, od0m0, .func (PySem.W.fnOf "__init__" "Waveform.__init__" (defArgs s_Waveform_init) (defBody s_Waveform_init) (defScope s_Waveform_init) .none kv0m0 dc0m0 pm0m0 an0m0 cd0m0 ct0m0), sl0m0⟩) (y0_8 : PySem.W.codeIn K cd0m0 "Waveform.__init__" = true) (y0_9 : PySem.W.keepIn K (.ref f0m0) = true) (y0_11 : PySem.W.isFn K (.ref f0m0) = true) (y0_12 : K.lookup f0m1 = some ⟨oc0m1, od0m1, .func (PySem.W.fnOf "changes" "Waveform.changes" (defArgs s_Waveform_changes) (defBody s_Waveform_changes) (defScope s_Waveform_changes) .none kv0m1 dc0m1 pm0m1 an0m1 cd0m1 ct0m1), sl0m1⟩) (y0_13 : PySem.W.codeIn K cd0m1 "Waveform.changes" = true) (y0_14 : PySem.W.keepIn K (.ref f0m1) = true) (y0_16 : PySem.W.isFn K (.ref f0m1) = true) (y0_17 : K.lookup f0m2 = some ⟨oc0m2, od0m2, .func (PySem.W.fnOf "value_at" "Waveform.value_at" (defArgs s_Waveform_value_at) (defBody s_Waveform_value_at) (defScope s_Waveform_value_at) .none kv0m2 dc0m2 pm0m2 an0m2 cd0m2 ct0m2), sl0m2⟩) (y0_18 : PySem.W.codeIn K cd0m2 "Waveform.value_at" = true) (y0_19 : PySem.W.keepIn K (.ref f0m2) = true) (y0_21 : PySem.W.isFn K (.ref f0m2) = true) (y0_22 : K.lookup f0p0 = some ⟨oc0p0, od0p0, .func (PySem.W.fnOf "start" "Waveform.start" (defArgs s_Waveform_start) (defBody s_Waveform_start) (defScope s_Waveform_start) .none kv0p0 dc0p0 pm0p0 an0p0 cd0p0 ct0p0), sl0p0⟩) (y0_23 : PySem.W.codeIn K cd0p0 "Waveform.start" = true) (y0_24 : PySem.W.keepIn K (.ref f0p0) = true) (y0_26 : PySem.W.specialIn K (.ref p0p0) "__get__" = some (some (.builtin "property.__get__"))) (y0_27 : PySem.W.takesIn K (.ref p0p0) = some true)
    (z0 : PySem.W.nsIn K mainGlobals "all" = some none) (z1 : PySem.W.nsIn K mainGlobals "range" = some none) (z2 : PySem.W.nsIn K mainGlobals "len" = some none) (z3 : PySem.W.nsIn K mainGlobals "sum" = some none) (z4 : PySem.W.nsIn K mainGlobals "enumerate" = some none) (z5 : PySem.W.nsIn K mainGlobals "list" = some none) (z6 : PySem.W.nsIn K mainGlobals "set" = some none) (z7 : PySem.W.nsIn K mainGlobals "sorted" = some none) (z8 : PySem.W.nsIn K mainGlobals "property" = some none) (z9 : PySem.W.nsIn K mainGlobals "classmethod" = some none) (z10 : PySem.W.nsIn K mainGlobals "isinstance" = some none) (z11 : PySem.W.nsIn K mainGlobals "tuple" = some none) (z12 : PySem.W.nsIn K mainGlobals "bool" = some none) (z13 : PySem.W.nsIn K mainGlobals "int" = some none) (z14 : PySem.W.nsIn K mainGlobals "str" = some none) (z15 : PySem.W.nsIn K mainGlobals "ValueError" = some none) :
    ∃ fd : FuncData, (∀ (s : Shared) (v : Value), BindsTo s fd ⟨[v], []⟩ [("script", v)]) ∧ ∀ base : Heap, K.In base → base.Ns mainGlobals mg → FnOk l.prog w K mg base CX0 4 fa fd ["script"] (spLaw K) := by
  have e := hfa.symm.trans (PySem.W.mg_of X G a12)
  cases e
  have F0 := fun_mk (st := s_wall) l0 c0 k0
  have F1 := fun_mk (st := s_is_ascending) l1 c1 k1
  have F2 := fun_mk (st := s_count_until) l2 c2 k2
  have F3 := fun_mk (st := s_look_up) l3 c3 k3
  have F4 := fun_mk (st := s_in_window) l4 c4 k4
  have F5 := fun_mk (st := s_holds) l5 c5 k5
  have F6 := fun_mk (st := s_law_same) l6 c6 k6
  have F7 := fun_mk (st := s_law_pool) l7 c7 k7
  have F8 := fun_mk (st := s_law_spread) l8 c8 k8
  have F9 := fun_mk (st := s_law_draw) l9 c9 k9
  have F10 := fun_mk (st := s_law_changes) l10 c10 k10
  have F11 := fun_mk (st := s_law_wave_value) l11 c11 k11
  have F12 := fun_mk (st := s_law) l12 c12 k12
  have A : All K mg := ⟨⟨f0, _, F0, PySem.W.mg_of X G a0, F0.binds (ps := ["k"]) fun _ _ _ _ _ _ us hl => match us, hl with | [_], _ => rfl⟩,
    ⟨f1, _, F1, PySem.W.mg_of X G a1, F1.binds (ps := ["numbers"]) fun _ _ _ _ _ _ us hl => match us, hl with | [_], _ => rfl⟩,
    ⟨f2, _, F2, PySem.W.mg_of X G a2, F2.binds (ps := ["numbers", "limit"]) fun _ _ _ _ _ _ us hl => match us, hl with | [_, _], _ => rfl⟩,
    ⟨f3, _, F3, PySem.W.mg_of X G a3, F3.binds (ps := ["table", "bits"]) fun _ _ _ _ _ _ us hl => match us, hl with | [_, _], _ => rfl⟩,
    ⟨f4, _, F4, PySem.W.mg_of X G a4, F4.binds (ps := ["window", "time"]) fun _ _ _ _ _ _ us hl => match us, hl with | [_, _], _ => rfl⟩,
    ⟨f5, _, F5, PySem.W.mg_of X G a5, F5.binds (ps := ["waveform", "value", "window"]) fun _ _ _ _ _ _ us hl => match us, hl with | [_, _, _], _ => rfl⟩,
    ⟨f6, _, F6, PySem.W.mg_of X G a6, F6.binds (ps := ["actual", "due"]) fun _ _ _ _ _ _ us hl => match us, hl with | [_, _], _ => rfl⟩,
    ⟨f7, _, F7, PySem.W.mg_of X G a7, F7.binds (ps := ["script"]) fun _ _ _ _ _ _ us hl => match us, hl with | [_], _ => rfl⟩,
    ⟨f8, _, F8, PySem.W.mg_of X G a8, F8.binds (ps := ["cell"]) fun _ _ _ _ _ _ us hl => match us, hl with | [_], _ => rfl⟩,
    ⟨f9, _, F9, PySem.W.mg_of X G a9, F9.binds (ps := ["pool", "many"]) fun _ _ _ _ _ _ us hl => match us, hl with | [_, _], _ => rfl⟩,
    ⟨f10, _, F10, PySem.W.mg_of X G a10, F10.binds (ps := ["pool", "most", "first", "wide"]) fun _ _ _ _ _ _ us hl => match us, hl with | [_, _, _, _], _ => rfl⟩,
    ⟨f11, _, F11, PySem.W.mg_of X G a11, F11.binds (ps := ["wave", "time"]) fun _ _ _ _ _ _ us hl => match us, hl with | [_, _], _ => rfl⟩,
    PySem.W.mg_none_of X G z0,
    PySem.W.mg_none_of X G z1,
    PySem.W.mg_none_of X G z2,
    PySem.W.mg_none_of X G z3,
    PySem.W.mg_none_of X G z4,
    PySem.W.mg_none_of X G z5,
    PySem.W.mg_none_of X G z6,
    PySem.W.mg_none_of X G z7,
    PySem.W.mg_none_of X G z8,
    PySem.W.mg_none_of X G z9,
    PySem.W.mg_none_of X G z10,
    PySem.W.mg_none_of X G z11,
    PySem.W.mg_none_of X G z12,
    PySem.W.mg_none_of X G z13,
    PySem.W.mg_none_of X G z14,
    PySem.W.mg_none_of X G z15,
    ⟨yC0, ⟨PySem.W.mg_of X G y0_0, ⟨y0_1, y0_2, y0_3, y0_4⟩, ⟨f0m0, _, ⟨y0_5, y0_10, y0_11, y0_6⟩, (fun_mk (st := s_Waveform_init) y0_7 y0_8 y0_9), (fun_mk (st := s_Waveform_init) y0_7 y0_8 y0_9).binds (ps := ["self", "start", "changes"]) fun _ _ _ _ _ _ us hl => match us, hl with | [_, _, _], _ => rfl⟩, ⟨f0m1, _, ⟨y0_15, y0_16, y0_14⟩, (fun_mk (st := s_Waveform_changes) y0_12 y0_13 y0_14), (fun_mk (st := s_Waveform_changes) y0_12 y0_13 y0_14).binds (ps := ["self"]) fun _ _ _ _ _ _ us hl => match us, hl with | [_], _ => rfl⟩, ⟨f0m2, _, ⟨y0_20, y0_21, y0_19⟩, (fun_mk (st := s_Waveform_value_at) y0_17 y0_18 y0_19), (fun_mk (st := s_Waveform_value_at) y0_17 y0_18 y0_19).binds (ps := ["self", "time"]) fun _ _ _ _ _ _ us hl => match us, hl with | [_, _], _ => rfl⟩, ⟨p0p0, f0p0, _, ⟨y0_25, y0_26, y0_27, _, y0_28⟩, (fun_mk (st := s_Waveform_start) y0_22 y0_23 y0_24), (fun_mk (st := s_Waveform_start) y0_22 y0_23 y0_24).binds (ps := ["self"]) fun _ _ _ _ _ _ us hl => match us, hl with | [_], _ => rfl⟩, y0_29, y0_30⟩⟩,
    ⟨xC0, ⟨⟨PySem.W.mg_of X G u0_0, u0_1, u0_2, u0_3, u0_4⟩, u0_5, u0_6⟩⟩⟩
  exact ⟨_, fun s v => .of_eq rfl, fun base _ _ => glue A F12⟩
end G
open PySem PySem.W PyProof.Rows
set_option maxRecDepth 100000 in
set_option maxHeartbeats 0 in
theorem PySem.Challenge.cw_signoff_k37_windows_holds : PySem.Challenge.rw_signoff_k37_windows.Holds := by
  w_on; o_law; k_head; (case hw => w_witness2)
  k_fill
  refine L2.walk_of (l := PySem.Challenge.rw_signoff_k37_windows) (n := 63) (k := 4) (x := "script") (CX := fun _ => L2.CX0) (sp := fun w => G.spLaw _) rfl (by decide) rfl ⟨rfl, by decide, by decide⟩ (fun w h Y => PySem.W.kIn_of Y) ?F (fun _ _ a ns hl _ hS => ⟨a, ns, rfl, hS, hl, fun _ => rfl⟩) (fun _ _ _ _ _ h => h)
  case F =>
    intro w mg fa h KX GN hmg
    refine' G.all_mk KX GN hmg ?a0 ?l0 ?c0 ?k0 ?a1 ?l1 ?c1 ?k1 ?a2 ?l2 ?c2 ?k2 ?a3 ?l3 ?c3 ?k3 ?a4 ?l4 ?c4 ?k4 ?a5 ?l5 ?c5 ?k5 ?a6 ?l6 ?c6 ?k6 ?a7 ?l7 ?c7 ?k7 ?a8 ?l8 ?c8 ?k8 ?a9 ?l9 ?c9 ?k9 ?a10 ?l10 ?c10 ?k10 ?a11 ?l11 ?c11 ?k11 ?a12 ?l12 ?c12 ?k12 ?xu0_0 ?xu0_1 ?xu0_2 ?xu0_3 ?xu0_4 ?xu0_5 ?xu0_6 ?vy0_0 ?vy0_4 ?vy0_10 ?vy0_15 ?vy0_20 ?vy0_25 ?vy0_29 ?vy0_30 ?vy0_28 ?vy0_1 ?vy0_2 ?vy0_3 ?vy0_5 ?vy0_6 ?vy0_7 ?vy0_8 ?vy0_9 ?vy0_11 ?vy0_12 ?vy0_13 ?vy0_14 ?vy0_16 ?vy0_17 ?vy0_18 ?vy0_19 ?vy0_21 ?vy0_22 ?vy0_23 ?vy0_24 ?vy0_26 ?vy0_27 ?z0 ?z1 ?z2 ?z3 ?z4 ?z5 ?z6 ?z7 ?z8 ?z9 ?z10 ?z11 ?z12 ?z13 ?z14 ?z15
    (case a0 => k_is)
    (case l0 => k_is)
    (case c0 => k_is)
    (case k0 => k_is)
    (case a1 => k_is)
    (case l1 => k_is)
    (case c1 => k_is)
    (case k1 => k_is)
    (case a2 => k_is)
    (case l2 => k_is)
    (case c2 => k_is)
    (case k2 => k_is)
    (case a3 => k_is)
    (case l3 => k_is)
    (case c3 => k_is)
    (case k3 => k_is)
    (case a4 => k_is)
    (case l4 => k_is)
    (case c4 => k_is)
    (case k4 => k_is)
    (case a5 => k_is)
    (case l5 => k_is)
    (case c5 => k_is)
    (case k5 => k_is)
    (case a6 => k_is)
    (case l6 => k_is)
    (case c6 => k_is)
    (case k6 => k_is)
    (case a7 => k_is)
    (case l7 => k_is)
    (case c7 => k_is)
    (case k7 => k_is)
    (case a8 => k_is)
    (case l8 => k_is)
    (case c8 => k_is)
    (case k8 => k_is)
    (case a9 => k_is)
    (case l9 => k_is)
    (case c9 => k_is)
    (case k9 => k_is)
    (case a10 => k_is)
    (case l10 => k_is)
    (case c10 => k_is)
    (case k10 => k_is)
    (case a11 => k_is)
    (case l11 => k_is)
    (case c11 => k_is)
    (case k11 => k_is)
    (case a12 => k_is)
    (case l12 => k_is)
    (case c12 => k_is)
    (case k12 => k_is)
    (case xu0_0 => first | k_exc | k_is | rfl)
    (case xu0_1 => first | k_exc | k_is | rfl)
    (case xu0_2 => first | k_exc | k_is | rfl)
    (case xu0_3 => first | k_exc | k_is | rfl)
    (case xu0_4 => first | k_exc | k_is | rfl)
    (case xu0_5 => first | k_exc | k_is | rfl)
    (case xu0_6 => first | k_exc | k_is | rfl)
    (case vy0_0 => k_is)
    (case vy0_4 => k_is)
    (case vy0_10 => k_is)
    (case vy0_15 => k_is)
    (case vy0_20 => k_is)
    (case vy0_25 => k_is)
    (case vy0_29 => k_is)
    (case vy0_30 => k_is)
    (case vy0_28 => k_is)
    (case vy0_1 => k_is)
    (case vy0_2 => k_is)
    (case vy0_3 => k_is)
    (case vy0_5 => k_is)
    (case vy0_6 => k_is)
    (case vy0_7 => k_is)
    (case vy0_8 => k_is)
    (case vy0_9 => k_is)
    (case vy0_11 => k_is)
    (case vy0_12 => k_is)
    (case vy0_13 => k_is)
    (case vy0_14 => k_is)
    (case vy0_16 => k_is)
    (case vy0_17 => k_is)
    (case vy0_18 => k_is)
    (case vy0_19 => k_is)
    (case vy0_21 => k_is)
    (case vy0_22 => k_is)
    (case vy0_23 => k_is)
    (case vy0_24 => k_is)
    (case vy0_26 => k_is)
    (case vy0_27 => k_is)
    (case z0 => k_is)
    (case z1 => k_is)
    (case z2 => k_is)
    (case z3 => k_is)
    (case z4 => k_is)
    (case z5 => k_is)
    (case z6 => k_is)
    (case z7 => k_is)
    (case z8 => k_is)
    (case z9 => k_is)
    (case z10 => k_is)
    (case z11 => k_is)
    (case z12 => k_is)
    (case z13 => k_is)
    (case z14 => k_is)
    (case z15 => k_is)
#print axioms PySem.Challenge.cw_signoff_k37_windows_holds
