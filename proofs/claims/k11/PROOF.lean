import PyProof.Rows.All
import Wide.All
import OpenK.AllK
import Wide.FinOn
import HandS.ForMost
import HandS.Evl
import HandS.Wide
import HandS.WideBits
import HandS.Flow
import HandS.IsInst
import HandS.TupAny
import HandS.Walk
import HandS.Zip
import HandS.Steps
import KE.GoesMore
import KE.GoesEnum
import KE.KEqSeq
import PySem.Challenge.RW_signoff_k11_inputs_that_matter
set_option Elab.async false
set_option linter.all false
set_option maxRecDepth 100000
set_option maxHeartbeats 4000000
set_option Elab.async false
set_option linter.all false
set_option maxRecDepth 100000
set_option maxHeartbeats 4000000
namespace G
open PySem PySem.Spec PyProof.Rows L2 Evl
/-! ## defs by name -/
def Dfd (K : PySem.W.Frag) (mg : Str → Option Value) (x : Str) (st : Stmt) (ps : List Str) : Prop := ∃ (f : Addr) (fd : FuncData), Fun K x x st f fd ∧ mg x = some (.ref f) ∧ Binds K fd ps []
def Has (P : Program) (w : World) (K : PySem.W.Frag) (mg : Str → Option Value) (base : Heap) (k : Nat) (x : Str) (ps : List Str) (sp : Sp) : Prop :=
  ∃ (f : Addr) (fd : FuncData), FnOk P w K mg base CX0 k f fd ps sp ∧ mg x = some (.ref f) ∧ PySem.W.keepIn K (.ref f) = true ∧ Binds K fd ps []
section
variable {P : Program} {w : World} {K : PySem.W.Frag} {mg : Str → Option Value} {base : Heap}
theorem Dfd.has {x : Str} {st : Stmt} {ps : List Str} {k : Nat} {sp : Sp} (d : Dfd K mg x st ps) (h : ∀ f fd, Fun K x x st f fd → FnOk P w K mg base CX0 k f fd ps sp) : Has P w K mg base k x ps sp := by
  obtain ⟨f, fd, F, g, b⟩ := d
  exact ⟨f, fd, h f fd F, g, F.kp, b⟩
theorem Has.mono {x : Str} {ps : List Str} {j k : Nat} {sp : Sp} (h : Has P w K mg base j x ps sp) (l : j ≤ k) : Has P w K mg base k x ps sp := by
  obtain ⟨f, fd, F, g⟩ := h
  exact ⟨f, fd, F.mono l, g⟩
theorem Has.imp {x : Str} {ps : List Str} {k : Nat} {sp sp' : Sp} (h : Has P w K mg base k x ps sp) (i : ∀ vs H Q E, sp' vs H Q E → sp vs H Q E) : Has P w K mg base k x ps sp' := by
  obtain ⟨f, fd, F, g⟩ := h
  exact ⟨f, fd, F.imp i, g⟩
end
/-! ## heaps -/
theorem sq_ex {K : PySem.W.Frag} {H H' : Hp} {a : Addr} {xs : List V} (e : Ex H H') (h : SqL K H a xs) : SqL K H' a xs := ex_l e h
/-- the heap without what stands at p -/
def hid (p : Addr) (H : Hp) : Hp := fun b => if b = p then none else H b
theorem hid_self {p : Addr} {H : Hp} : hid p H p = none := by unfold hid; rw [if_pos rfl]
theorem hid_ne {p b : Addr} {H : Hp} (h : b ≠ p) : hid p H b = H b := by unfold hid; rw [if_neg h]
theorem hid_get {p b : Addr} {H : Hp} {o : HO} (h : hid p H b = some o) : H b = some o := by
  by_cases e : b = p
  · subst e; rw [hid_self] at h; cases h
  · rw [hid_ne e] at h; exact h
theorem hid_neq {p b : Addr} {H : Hp} {o : HO} (h : hid p H b = some o) : b ≠ p := by
  intro e; subst e; rw [hid_self] at h; cases h
theorem hid_ex {p : Addr} {H : Hp} : Ex (hid p H) H := fun _ _ h => hid_get h
theorem hid_upd {p : Addr} {H : Hp} {o : HO} : hid p (upd H p o) = hid p H := by
  funext b
  by_cases e : b = p
  · subst e; rw [hid_self, hid_self]
  · rw [hid_ne e, hid_ne e, upd_ne e]
theorem hid_upd_ne {p q : Addr} {H : Hp} {o : HO} (h : q ≠ p) : hid p (upd H q o) = upd (hid p H) q o := by
  funext b
  by_cases e2 : b = q
  · subst e2; rw [hid_ne h, upd_same, upd_same]
  · rw [upd_ne e2]
    by_cases e : b = p
    · subst e; rw [hid_self, hid_self]
    · rw [hid_ne e, hid_ne e, upd_ne e2]
theorem hid_none {p b : Addr} {H : Hp} (h : H b = none) : hid p H b = none := by
  unfold hid; split
  · rfl
  · exact h
/-! ## the pool of draws: the list at p, the script's copy at a -/
def PoolOk (p a : Addr) (H : Hp) : Prop := ∃ (ns : List Int) (i : Nat) (c k s : Int), H p = some (.lst [.ref a, .int i, .int c, .int k, .int s]) ∧ hid p H a = some (.lst (ns.map V.int)) ∧ ns.length ≤ 1000
/-- from H to H' all but the pool is kept, and the pool is a pool -/
structure Px (p a : Addr) (H H' : Hp) : Prop where
  was : PoolOk p a H
  pool : PoolOk p a H'
  ex : Ex (hid p H) (hid p H')
section
variable {p a : Addr} {H H1 H2 H' : Hp}
theorem Px.refl (h : PoolOk p a H) : Px p a H H := ⟨h, h, Ex.refl _⟩
theorem Px.trans (x : Px p a H H1) (y : Px p a H1 H2) : Px p a H H2 := ⟨x.was, y.pool, x.ex.trans y.ex⟩
theorem PoolOk.ne {b : Addr} (h : PoolOk p a H) (n : H b = none) : b ≠ p := by
  obtain ⟨_, _, _, _, _, e, _⟩ := h
  exact (ne_of_none e n).symm
theorem PoolOk.ne2 {b : Addr} (h : PoolOk p a H) (n : H b = none) : a ≠ b := by
  obtain ⟨_, _, _, _, _, _, e, _⟩ := h
  exact ne_of_none (hid_get e) n
theorem PoolOk.kept (h : PoolOk p a H) (e : Ex H H') : PoolOk p a H' := by
  obtain ⟨ns, i, c, k, s, h1, h2, h3⟩ := h
  exact ⟨ns, i, c, k, s, e _ _ h1, by rw [hid_ne (hid_neq h2)]; exact e _ _ (hid_get h2), h3⟩
theorem Px.ofEx (h : PoolOk p a H) (e : Ex H H') : Px p a H H' := ⟨h, h.kept e, fun b o hb => by rw [hid_ne (hid_neq hb)]; exact e _ _ (hid_get hb)⟩
theorem Px.more (x : Px p a H H1) (e : Ex H1 H2) : Px p a H H2 := x.trans (Px.ofEx x.pool e)
theorem Px.draw {o : HO} (w : PoolOk p a H) (h : PoolOk p a (upd H p o)) : Px p a H (upd H p o) := ⟨w, h, by rw [hid_upd]; exact Ex.refl _⟩
theorem Px.new (x : Px p a H H1) {l : Addr} {o : HO} (n : H1 l = none) : Px p a H (upd H1 l o) := x.more (Ex.new n)
/-- what H has is kept -/
theorem Px.get (x : Px p a H H1) {b : Addr} {o : HO} (h : hid p H b = some o) : hid p H1 b = some o := x.ex _ _ h
theorem Px.at_ (x : Px p a H H1) {b : Addr} {o : HO} (h : hid p H b = some o) : H1 b = some o := hid_get (x.ex _ _ h)
theorem Px.free (x : Px p a H H1) {b : Addr} (n : H1 b = none) : H b = none := by
  cases e : H b with
  | none => rfl
  | some o =>
    have hb : b ≠ p := x.pool.ne n
    have := x.ex b o (by rw [hid_ne hb]; exact e)
    rw [hid_get this] at n; cases n
/-- an object that H does not have may change -/
theorem Px.mut (x : Px p a H H1) {l : Addr} {o : HO} (n : H l = none) : Px p a H (upd H1 l o) := by
  have hl : l ≠ p := x.was.ne n
  have ha : a ≠ l := x.was.ne2 n
  refine ⟨x.was, ?_, ?_⟩
  · obtain ⟨ns, i, c, k, s, h1, h2, h3⟩ := x.pool
    exact ⟨ns, i, c, k, s, by rw [upd_ne hl.symm]; exact h1, by rw [hid_upd_ne hl, upd_ne ha]; exact h2, h3⟩
  · rw [hid_upd_ne hl]; exact Ex.mut x.ex (hid_none n)
/-- a fresh object stands apart from the pool -/
theorem Px.seen (x : Px p a H H1) {l : Addr} {o : HO} (n : H l = none) (e : H1 l = some o) : hid p H1 l = some o := by
  rw [hid_ne (x.was.ne n)]; exact e
end
end G
namespace G
open PySem PySem.Spec PyProof.Rows L2 Evl
/-! ## comprehensions whose elements are plain values -/
theorem given_all {n : Nat} {v : Nat → V} : given n (fun _ => true) v = (List.range n).map v := by
  unfold given
  rw [List.filter_eq_self.mpr (fun _ _ => rfl)]
section
variable {lo : Int} {n j : Nat} {tt : TT} {te : TE} {vs : List Nat} {σ : L2.St} {H1 : Hp} {D : Addr} {Qd : Hp → Prop} {K : PySem.W.Frag} {a : Addr} {xs : List V}
theorem lc_turn {f : Nat → Bool} {v : Nat → V} {i : Nat} {H : Hp} {σ2 : L2.St} (e : H = upd H1 D (.lst (given i f v))) (hi : i < 100000) (ht : Ans tt σ2 H (f i)) (he : f i = true → Val te σ2 H (v i)) :
    tt σ2 H fun b H3 => if b = true then te σ2 H3 fun y H4 => ∃ acc, H4 D = some (.lst acc) ∧ acc.length < sizeLine ∧ (upd H4 D (.lst (acc ++ [y]))) = upd H1 D (.lst (given (i + 1) f v)) else H3 = upd H1 D (.lst (given (i + 1) f v)) := by
  refine ht _ ?_
  subst e
  cases hf : f i with
  | true =>
    refine iteT (he hf _ ⟨_, upd_same, sz_lt (by have := given_len i f v; omega), ?_⟩)
    rw [given_yes hf, upd_upd]
  | false =>
    refine iteF ?_
    rw [given_no hf]
theorem lcR (f : Nat → Bool) (v : Nat → V) (hn : n ≤ 100000) (hw : ∀ x, wipe ((wipe σ vs).set j (some x)) vs = wipe σ vs)
    (ht : ∀ (i : Nat) (H : Hp), i < n → H = upd H1 D (.lst (given i f v)) → Ans tt ((wipe σ vs).set j (some (.int (lo + i)))) H (f i))
    (he : ∀ (i : Nat) (H : Hp), i < n → H = upd H1 D (.lst (given i f v)) → f i = true → Val te ((wipe σ vs).set j (some (.int (lo + i)))) H (v i)) (q : Qd (upd H1 D (.lst (given n f v)))) :
    ∃ W : Nat → Nat → Hp → Prop, (∃ m, W 0 m (upd H1 D (.lst []))) ∧ ∀ i m H, W i m H →
      ((Itr lo n).stop i H ∧ Qd H) ∨ ((Itr lo n).go i H ∧ ∃ Nx : Hp → Prop, (∀ H', Nx H' → ∃ m', m' < m ∧ W (i + 1) m' H') ∧ ∀ x H', (Itr lo n).yld i H x H' → gName j x (wipe σ vs) H' fun σ2 H2 => wipe σ2 vs = wipe σ vs ∧ tt σ2 H2 fun b H3 =>
        if b = true then te σ2 H3 fun y H4 => ∃ acc, H4 D = some (.lst acc) ∧ acc.length < sizeLine ∧ Nx (upd H4 D (.lst (acc ++ [y]))) else Nx H3) :=
  lc_range (fun i H => H = upd H1 D (.lst (given i f v))) rfl (fun i H hi e => ⟨hw _, lc_turn e (by omega) (ht i H hi e) (he i H hi e)⟩) (fun H e => by rw [e]; exact q)
theorem lcRv (v : Nat → V) (hn : n ≤ 100000) (hw : ∀ x, wipe ((wipe σ vs).set j (some x)) vs = wipe σ vs)
    (he : ∀ (i : Nat) (H : Hp), i < n → H = upd H1 D (.lst (given i (fun _ => true) v)) → Val te ((wipe σ vs).set j (some (.int (lo + i)))) H (v i)) (q : Qd (upd H1 D (.lst ((List.range n).map v)))) :
    ∃ W : Nat → Nat → Hp → Prop, (∃ m, W 0 m (upd H1 D (.lst []))) ∧ ∀ i m H, W i m H →
      ((Itr lo n).stop i H ∧ Qd H) ∨ ((Itr lo n).go i H ∧ ∃ Nx : Hp → Prop, (∀ H', Nx H' → ∃ m', m' < m ∧ W (i + 1) m' H') ∧ ∀ x H', (Itr lo n).yld i H x H' → gName j x (wipe σ vs) H' fun σ2 H2 => wipe σ2 vs = wipe σ vs ∧ tYes σ2 H2 fun b H3 =>
        if b = true then te σ2 H3 fun y H4 => ∃ acc, H4 D = some (.lst acc) ∧ acc.length < sizeLine ∧ Nx (upd H4 D (.lst (acc ++ [y]))) else Nx H3) :=
  lcR (fun _ => true) v hn hw (fun _ _ _ _ => fun _ q => q) (fun i H hi e _ => he i H hi e) (by rw [given_all]; exact q)
theorem lcL (f : Nat → Bool) (v : Nat → V) (hx : SqL K H1 a xs) (hD : H1 D = none) (hn : xs.length ≤ 100000) (hw : ∀ x, wipe ((wipe σ vs).set j (some x)) vs = wipe σ vs)
    (ht : ∀ (i : Nat) (x : V) (H : Hp), xs[i]? = some x → H = upd H1 D (.lst (given i f v)) → Ans tt ((wipe σ vs).set j (some x)) H (f i))
    (he : ∀ (i : Nat) (x : V) (H : Hp), xs[i]? = some x → H = upd H1 D (.lst (given i f v)) → f i = true → Val te ((wipe σ vs).set j (some x)) H (v i)) (q : Qd (upd H1 D (.lst (given xs.length f v)))) :
    ∃ W : Nat → Nat → Hp → Prop, (∃ m, W 0 m (upd H1 D (.lst []))) ∧ ∀ i m H, W i m H →
      ((Itl K a).stop i H ∧ Qd H) ∨ ((Itl K a).go i H ∧ ∃ Nx : Hp → Prop, (∀ H', Nx H' → ∃ m', m' < m ∧ W (i + 1) m' H') ∧ ∀ x H', (Itl K a).yld i H x H' → gName j x (wipe σ vs) H' fun σ2 H2 => wipe σ2 vs = wipe σ vs ∧ tt σ2 H2 fun b H3 =>
        if b = true then te σ2 H3 fun y H4 => ∃ acc, H4 D = some (.lst acc) ∧ acc.length < sizeLine ∧ Nx (upd H4 D (.lst (acc ++ [y]))) else Nx H3) :=
  lc_list (fun i H => H = upd H1 D (.lst (given i f v))) rfl (fun i H hi e => by rw [e]; exact ex_l (Ex.new hD) hx) (fun i x H hi e => ⟨hw _, lc_turn e (by have := (List.getElem?_eq_some_iff.mp hi).1; omega) (ht i x H hi e) (he i x H hi e)⟩) (fun H e => by rw [e]; exact q)
theorem lcT (f : Nat → Bool) (v : Nat → V) (hx : SqT K H1 a xs) (hD : H1 D = none) (hn : xs.length ≤ 100000) (hw : ∀ x, wipe ((wipe σ vs).set j (some x)) vs = wipe σ vs)
    (ht : ∀ (i : Nat) (x : V) (H : Hp), xs[i]? = some x → H = upd H1 D (.lst (given i f v)) → Ans tt ((wipe σ vs).set j (some x)) H (f i))
    (he : ∀ (i : Nat) (x : V) (H : Hp), xs[i]? = some x → H = upd H1 D (.lst (given i f v)) → f i = true → Val te ((wipe σ vs).set j (some x)) H (v i)) (q : Qd (upd H1 D (.lst (given xs.length f v)))) :
    ∃ W : Nat → Nat → Hp → Prop, (∃ m, W 0 m (upd H1 D (.lst []))) ∧ ∀ i m H, W i m H →
      ((Itt K a).stop i H ∧ Qd H) ∨ ((Itt K a).go i H ∧ ∃ Nx : Hp → Prop, (∀ H', Nx H' → ∃ m', m' < m ∧ W (i + 1) m' H') ∧ ∀ x H', (Itt K a).yld i H x H' → gName j x (wipe σ vs) H' fun σ2 H2 => wipe σ2 vs = wipe σ vs ∧ tt σ2 H2 fun b H3 =>
        if b = true then te σ2 H3 fun y H4 => ∃ acc, H4 D = some (.lst acc) ∧ acc.length < sizeLine ∧ Nx (upd H4 D (.lst (acc ++ [y]))) else Nx H3) :=
  lc_tup (fun i H => H = upd H1 D (.lst (given i f v))) rfl (fun i H hi e => by rw [e]; exact ex_t (Ex.new hD) hx) (fun i x H hi e => ⟨hw _, lc_turn e (by have := (List.getElem?_eq_some_iff.mp hi).1; omega) (ht i x H hi e) (he i x H hi e)⟩) (fun H e => by rw [e]; exact q)
theorem lcLm (g : V → V) (hx : SqL K H1 a xs) (hD : H1 D = none) (hn : xs.length ≤ 100000) (hw : ∀ x, wipe ((wipe σ vs).set j (some x)) vs = wipe σ vs)
    (he : ∀ (i : Nat) (x : V) (H : Hp), xs[i]? = some x → H = upd H1 D (.lst ((xs.take i).map g)) → Val te ((wipe σ vs).set j (some x)) H (g x)) (q : Qd (upd H1 D (.lst (xs.map g)))) :
    ∃ W : Nat → Nat → Hp → Prop, (∃ m, W 0 m (upd H1 D (.lst []))) ∧ ∀ i m H, W i m H →
      ((Itl K a).stop i H ∧ Qd H) ∨ ((Itl K a).go i H ∧ ∃ Nx : Hp → Prop, (∀ H', Nx H' → ∃ m', m' < m ∧ W (i + 1) m' H') ∧ ∀ x H', (Itl K a).yld i H x H' → gName j x (wipe σ vs) H' fun σ2 H2 => wipe σ2 vs = wipe σ vs ∧ tYes σ2 H2 fun b H3 =>
        if b = true then te σ2 H3 fun y H4 => ∃ acc, H4 D = some (.lst acc) ∧ acc.length < sizeLine ∧ Nx (upd H4 D (.lst (acc ++ [y]))) else Nx H3) :=
  lc_list (fun i H => H = upd H1 D (.lst ((xs.take i).map g))) (by rw [List.take_zero]; rfl) (fun i H hi e => by rw [e]; exact ex_l (Ex.new hD) hx)
    (fun i x H hi e => ⟨hw _, by
      refine iteT (B := H = upd H1 D (.lst ((xs.take (i + 1)).map g))) ?_
      refine he i x H hi e _ ?_
      subst e
      refine ⟨_, upd_same, sz_lt ?_, ?_⟩
      · rw [List.length_map, List.length_take]; have := (List.getElem?_eq_some_iff.mp hi).1; omega
      · rw [upd_upd, List.take_add_one, hi, List.map_append]; rfl⟩) (fun H e => by rw [e, List.take_length]; exact q)
theorem lcTm (g : V → V) (hx : SqT K H1 a xs) (hD : H1 D = none) (hn : xs.length ≤ 100000) (hw : ∀ x, wipe ((wipe σ vs).set j (some x)) vs = wipe σ vs)
    (he : ∀ (i : Nat) (x : V) (H : Hp), xs[i]? = some x → H = upd H1 D (.lst ((xs.take i).map g)) → Val te ((wipe σ vs).set j (some x)) H (g x)) (q : Qd (upd H1 D (.lst (xs.map g)))) :
    ∃ W : Nat → Nat → Hp → Prop, (∃ m, W 0 m (upd H1 D (.lst []))) ∧ ∀ i m H, W i m H →
      ((Itt K a).stop i H ∧ Qd H) ∨ ((Itt K a).go i H ∧ ∃ Nx : Hp → Prop, (∀ H', Nx H' → ∃ m', m' < m ∧ W (i + 1) m' H') ∧ ∀ x H', (Itt K a).yld i H x H' → gName j x (wipe σ vs) H' fun σ2 H2 => wipe σ2 vs = wipe σ vs ∧ tYes σ2 H2 fun b H3 =>
        if b = true then te σ2 H3 fun y H4 => ∃ acc, H4 D = some (.lst acc) ∧ acc.length < sizeLine ∧ Nx (upd H4 D (.lst (acc ++ [y]))) else Nx H3) :=
  lc_tup (fun i H => H = upd H1 D (.lst ((xs.take i).map g))) (by rw [List.take_zero]; rfl) (fun i H hi e => by rw [e]; exact ex_t (Ex.new hD) hx)
    (fun i x H hi e => ⟨hw _, by
      refine iteT (B := H = upd H1 D (.lst ((xs.take (i + 1)).map g))) ?_
      refine he i x H hi e _ ?_
      subst e
      refine ⟨_, upd_same, sz_lt ?_, ?_⟩
      · rw [List.length_map, List.length_take]; have := (List.getElem?_eq_some_iff.mp hi).1; omega
      · rw [upd_upd, List.take_add_one, hi, List.map_append]; rfl⟩) (fun H e => by rw [e, List.take_length]; exact q)
end
end G
namespace G
open PySem PySem.Spec PyProof.Rows L2 Evl
/-! ## rules within a comprehension's block: the written part by its letter -/
section
variable {X : Cx} {K : PySem.W.Frag}
theorem kIxT (h : X.K = K) : IxR X (rIxT K) := by subst h; exact ix_tup
theorem kIxL (h : X.K = K) : IxR X (rIxL K) := by subst h; exact ix_list
theorem kIx (h : X.K = K) : IxR X (rIx K) := by subst h; exact ix_seq
theorem kIn (h : X.K = K) : OpR X (compareOp .In) (rIn K false) := by subst h; exact op_in_seq
theorem kNotIn (h : X.K = K) : OpR X (compareOp .NotIn) (rIn K true) := by subst h; exact op_notIn_seq
theorem kLen (h : X.K = K) : CallR X (.builtin "len") (rLenS K) := by subst h; exact call_len_seq
theorem gStr {x s : Str} {t : Tok} {pos : Pos} (hg : Gl X x) (h : X.mg x = some (.str s t)) (hd : (x == ("__debug__" : Str)) = false := by decide) : PE X (.Name x pos) (tC (.str s)) := pe_glob (v := .str s) hg h ⟨t, rfl⟩ hd
theorem gInt {x : Str} {i : Int} {t : Tok} {pos : Pos} (hg : Gl X x) (h : X.mg x = some (.int i t)) (hd : (x == ("__debug__" : Str)) = false := by decide) : PE X (.Name x pos) (tC (.int i)) := pe_glob (v := .int i) hg h ⟨t, rfl⟩ hd
theorem gRef {x : Str} {a : Addr} {pos : Pos} (hg : Gl X x) (h : X.mg x = some (.ref a)) (hd : (x == ("__debug__" : Str)) = false := by decide) : PE X (.Name x pos) (tC (.ref a)) := pe_glob (v := .ref a) hg h rfl hd
theorem kSlL (h : X.K = K) : SlR X (rSlL K) := by subst h; exact sl_list
theorem kCatA (h : X.K = K) : OpR X (binaryOp .Add) (rCatA K) := by subst h; exact op_catA
theorem kAny (h : X.K = K) (hc : X.calm = true) : CallR X (.builtin "any") (rAny K) := by subst h; exact cr_any hc
theorem kAll (h : X.K = K) (hc : X.calm = true) : CallR X (.builtin "all") (rAll K) := by subst h; exact cr_all hc
theorem kLtT (h : X.K = K) (hu : X.A.units < cLine) : OpR X (compareOp .Lt) (rLtT K) := by subst h; exact op_ltT hu
theorem kPiT {e tg : Expr} {te : TE} (h : X.K = K) (he : PE X e te) : PI X tg e (iTup K te) := by subst h; exact pi_tup he
theorem kPiL {e tg : Expr} {te : TE} (h : X.K = K) (he : PE X e te) : PI X tg e (iList K te) := by subst h; exact pi_list he
theorem kSlA (h : X.K = K) : SlR X (rSlA K) := by subst h; exact sl_tupA
end
end G
/-! enumerate over a tuple -/
namespace PySem
section
variable {prog : Program} {w : World} {A : Around} {E : Value → Shared → Prop} {s : Shared}
theorem G_tupOf {h : Heap} {a : Addr} {xs : Array Value} (p : PyProof.Rows.IsTup h a xs) : h.IsTuple a xs := p
set_option maxHeartbeats 2000000 in
theorem G_enumNew {v : Value} {o : Obj} {Hh : Heap → Prop} (B : Begins v o Hh) :
    Meets (Builtin.«enumerate.__new__» ⟨[.type "enumerate", v], []⟩) (fun _ R s => Hh s.heap ∧
      R (.ok (.ret (.ref (s.heap.push o).objs.size))) { s with heap := (s.heap.push o).push { cls := .type "enumerate", data := .fields #[.none, .bool false, .ref s.heap.objs.size, rawInt 0, .none, .none] } }) :=
  .of_wp fun pr wo ar rr sh hh => by
    obtain ⟨hp, gg, dd, tk, os⟩ := sh; obtain ⟨h1, h2⟩ := hh
    have sub0 := sub_enumerate
    have qq : ∀ {A' : Around} {E : Value → Shared → Prop} {Q : Value → Shared → Prop}, Q (.ref hp.objs.size) ⟨hp.push o, gg, dd, tk, os⟩ → wpAny (model pr wo) A' (pyIter v) Q E ⟨hp, gg, dd, tk, os⟩ :=
      fun z => B.iter pr wo _ _ ⟨hp, gg, dd, tk, os⟩ _ h1 z
    wp_walk using qq
    refine wpAny_stack_any fun _ => wpAny_pure ?_
    split
    · rename_i cc _ _ _ _ _
      cases (cc == Value.type "enumerate") <;> (wp_walk using qq; exact ⟨_, rfl, h2⟩)
    · wp_walk using qq
      exact ⟨_, rfl, h2⟩
theorem G_enumCall {v : Value} {o : Obj} {Hh : Heap → Prop} {Q : Value → Shared → Prop} (B : Begins v o Hh) (h1 : Hh s.heap)
    (k : ∀ h', IsEnum h' (s.heap.objs.size + 1) s.heap.objs.size 0 .none → h'.get? s.heap.objs.size = some o → (∀ b u, s.heap.get? b = some u → h'.get? b = some u) → Q (.ref (s.heap.objs.size + 1)) { s with heap := h' }) :
    wpAny (model prog w) A (call (.type "enumerate") [v]) Q E s := by
  refine callType_new F.called_enumerate (by decide) (F.typeCall_enumerate_1 _) (F.newCall_enumerate_1 _) (fun y => F.args_object_init_2 y _) F.entry_enumerate_new (G_enumNew B) ⟨h1, ?_⟩
  have hz : (s.heap.push o).objs.size = s.heap.objs.size + 1 := Heap.size_push ..
  show _ ∧ _
  rw [hz]
  have he : IsEnum ((s.heap.push o).push { cls := .type "enumerate", data := .fields #[.none, .bool false, .ref s.heap.objs.size, rawInt 0, .none, .none] }) (s.heap.objs.size + 1) s.heap.objs.size 0 .none := by
    have hs := Heap.get?_push_size (s.heap.push o) (o := { cls := .type "enumerate", data := .fields #[.none, .bool false, .ref s.heap.objs.size, rawInt 0, .none, .none] }) rfl
    rw [hz] at hs; exact hs
  exact ⟨⟨_, he, rfl⟩, k _ he (Heap.get?_push_of_some _ (Heap.get?_push_size _ B.free)) fun b u x => Heap.get?_push_of_some _ (Heap.get?_push_of_some _ x)⟩
end
end PySem
namespace G
open PySem PySem.Spec PyProof.Rows L2 Evl
/-- the tuple at a at each turn, each item in a new pair -/
def IteT (K : PySem.W.Frag) (a : Addr) : It :=
  ⟨fun i H => ∃ (xs : List V) (x : V), SqT K H a xs ∧ xs[i]? = some x,
   fun i H v H' => ∃ T x, v = .ref T ∧ H T = none ∧ H' = upd H T (.tup [.int (i : Nat), x]) ∧ ∀ xs, SqT K H a xs → xs[i]? = some x,
   fun i H => ∃ xs : List V, SqT K H a xs ∧ xs.length = i⟩
theorem turn_enumT {P : Program} {w : World} {K : PySem.W.Frag} {elts : List Expr} {kk : Nat} {tpos : Pos} (a e it : Addr) :
    Turn P w K (.Tuple elts kk tpos) (IteT K a) [e, it] e (fun i h => (∃ old, IsEnum h e it ((i : Nat) : Int) old) ∧ h.IsTupleIter it a i ∧ e ≠ it ∧ a ≠ it ∧ a ≠ e) where
  mem := by simp
  obj := fun i h st b hb => by
    obtain ⟨⟨old, he⟩, ⟨o, ho, hc, hd⟩, _⟩ := st
    have hb' : b = e ∨ b = it := by simpa using hb
    rcases hb' with z | z
    · rw [z]; exact ⟨_, he, fun v q => nomatch q⟩
    · rw [z]; exact ⟨o, ho, fun v q => by rw [hd] at q; cases q⟩
  keep := fun i h h' st k => by
    obtain ⟨⟨old, he⟩, hi, hne⟩ := st
    exact ⟨⟨old, k e (by simp) _ he⟩, hi.at fun o q => k it (by simp) o q, hne⟩
  item := by
    intro X hP hw hK hc i pins s σ H E I hf st hg
    subst hP hw hK
    obtain ⟨⟨old, he⟩, hit, hne, hai, hae⟩ := st
    obtain ⟨xs, x, hq, hx⟩ := hg
    obtain ⟨its, rv, p, hz⟩ := I.tuple hq
    obtain ⟨u, hu, ru⟩ := rv.get hx
    have hel : e < s.heap.objs.size := Heap.lt_size he
    have hil : it < s.heap.objs.size := by obtain ⟨_, q, _⟩ := hit; exact Heap.lt_size q
    have hh : X.A.handled = none := I.ok.hd hc
    refine wpAny_pyNext_enum_itemD (Draws.tuple (A := X.A.in1) hh it a hai its.toArray) he ⟨hit, p⟩ ?_ hne ?_ fun y h' tk hy ho hst hT hsz hk => ?_
    · have := (List.getElem?_eq_some_iff.mp hu).1
      simpa using this
    · intro hm
      have hm' : e = it ∨ e = a := by simpa using hm
      rcases hm' with z | z
      · exact hne z
      · exact hae z.symm
    · have ey : y = u := by
        have hy' : its[i]? = some y := by simpa using hy
        exact Option.some.inj (hy'.symm.trans hu)
      subst ey
      refine ⟨_, rfl, wpAny_letOwnedTupleGo_enum (s := { s with heap := h', toks := tk + 1 }) ho fun h'' he' sb => ?_⟩
      have hT2 : h''.get? s.heap.objs.size = some { cls := .type "tuple", data := .seq #[.int i tk, y] } := (sb.2 _ (Nat.ne_of_gt hel)).trans hT
      have new : ObjOk X.prog X.w (upd H s.heap.objs.size (.tup [.int (i : Nat), x])) h'' s.heap.objs.size (.tup [.int (i : Nat), x]) :=
        ⟨by show 2 ≤ sizeLine; decide, [.int i tk, y], .cons ⟨_, rfl⟩ (.cons ru .nil), ⟨_, hT2, rfl, _, rfl⟩⟩
      have I1 : Inv X pins σ (upd H s.heap.objs.size (.tup [.int (i : Nat), x])) { s with heap := h'', toks := tk + 1 } :=
        I.turnedNew (ch := [e, it]) (fun b ob hb q => (sb.2 b (fun z => hb (by simp [z]))).trans (hk b ob (fun z => hb (by simp [z])) (fun z => hb (by simp [z])) q)) hf (Nat.le_refl _) new
      refine ⟨.ref s.heap.objs.size, _, I1, rfl, ⟨_, x, rfl, I.hok.fresh (Nat.le_refl _), rfl, fun ys hy => by rw [I.tuple_inj hy hq]; exact hx⟩, ⟨⟨y, ?_⟩, hst.1.at fun o q => (sb.2 it (Ne.symm hne)).trans q, hne, hai, hae⟩, fun b hb => ?_⟩
      · have e1 : ((i + 1 : Nat) : Int) = (i : Int) + 1 := by omega
        rw [e1]; exact he'
      · have hb' : b < s.heap.objs.size := by
          have hb2 : b = e ∨ b = it := by simpa using hb
          rcases hb2 with z | z
          · rw [z]; exact hel
          · rw [z]; exact hil
        rw [upd_ne (Nat.ne_of_lt hb')]
        exact (hf b hb).1
  done := by
    intro X hP hw hK hc i pins s σ H E I hf st hg
    subst hP hw hK
    obtain ⟨⟨old, he⟩, hit, hne, hai, hae⟩ := st
    obtain ⟨xs, hq, hx⟩ := hg
    obtain ⟨its, rv, p, hz⟩ := I.tuple hq
    obtain ⟨f0, f1, f2, f3, f4, f5⟩ := hf it (by simp)
    have hl := rv.length
    have hh : X.A.handled = none := I.ok.hd hc
    have ei : its.toArray.size = i := by rw [List.size_toArray, ← hl]; exact hx
    have st2 : s.heap.IsTupleIter it a its.toArray.size ∧ s.heap.IsTuple a its.toArray := by rw [ei]; exact ⟨hit, p⟩
    exact wpAny_pyNext_enum_endD (Draws.tuple (A := X.A.in1) hh it a hai its.toArray) he st2 fun h' eb => ⟨rfl, I.turned (t' := s.toks) (fun b o hb q => eb b o hb q) f0 f1 f3 f4 f5⟩
  self := fun A i s Q E st h => by
    obtain ⟨⟨_, he⟩, _⟩ := st
    exact wpAny_pyIter_enum he h
def iEnumT (K : PySem.W.Frag) (ta : TA) : TI := fun σ H R => ta σ H fun vs H1 => ∃ a xs, vs = [.ref a] ∧ SqT K H1 a xs ∧ R (IteT K a) H1
theorem pi_enumT {X : Cx} {e : Expr} {ta : TA} {p pos tpos : Pos} {elts : List Expr} {kk : Nat} (hg : Gl X "enumerate") (hm : X.mg "enumerate" = none) (ha : PA X [e] ta) (hs : starEach [e] X.env = [(false, eval e X.env)] := by rfl) :
    PI X (.Tuple elts kk tpos) (.Call (.Name "enumerate" p) [e] [] pos) (iEnumT X.K ta) := by
  refine ⟨fun pins s σ H R I h => Call_ (ld_blt I hg hm boot_enumerate (PyProof.Rows.callWith_type1 (thn (ha.run pos pins s σ H _ I h) fun us s1 ⟨vs, H1, I1, r1, q1⟩ => ?_) hs rfl))⟩
  obtain ⟨a, xs, rfl, hq, q⟩ := q1
  cases r1 with
  | cons r rr =>
    cases rr
    cases r
    obtain ⟨its, rv, p', hz⟩ := I1.tuple hq
    have hal : a < s1.heap.objs.size := by obtain ⟨o, ho, _⟩ := p'; exact Heap.lt_size ho
    refine G_enumCall (begins_tuple a its.toArray) p' fun h' he hit hk => wpAny_pyIter_enum he ?_
    have I2 : Inv X pins σ H1 { s1 with heap := h' } := I1.kept (t' := s1.toks) hk
    refine ⟨s1.heap.objs.size + 1, [s1.heap.objs.size + 1, s1.heap.objs.size], _, _, H1, rfl, I2, turn_enumT a (s1.heap.objs.size + 1) s1.heap.objs.size,
      ⟨⟨.none, he⟩, ⟨_, hit, rfl, rfl⟩, Nat.succ_ne_self _, Nat.ne_of_lt hal, Nat.ne_of_lt (Nat.lt_succ_of_lt hal)⟩, fun b hb => ?_, q⟩
    have hb' : b = s1.heap.objs.size + 1 ∨ b = s1.heap.objs.size := by simpa using hb
    have hle : s1.heap.objs.size ≤ b := by
      rcases hb' with z | z
      · rw [z]; exact Nat.le_add_right _ _
      · rw [z]; exact Nat.le_refl _
    exact I1.fpOk hle (I1.hok.fresh hle)
theorem walk_enumT {K : PySem.W.Frag} {a : Addr} {xs : List V} : Walk (IteT K a) xs.length (fun H => SqT K H a xs) (YPair (fun i => some (.int (i : Nat))) (fun i => xs[i]?)) := by
  refine ⟨fun i _ hi q => ⟨xs, xs[i], q, by simp [hi]⟩, fun _ q => ⟨xs, q, rfl⟩, fun i H v H' _ q y => ?_⟩
  obtain ⟨T, x, h1, h2, h3, h4⟩ := y
  exact ⟨T, .int (i : Nat), x, h1, h2, h3, rfl, h4 xs q⟩
theorem kPiEnumT {X : Cx} {K : PySem.W.Frag} {e : Expr} {ta : TA} {p pos tpos : Pos} {elts : List Expr} {kk : Nat} (h : X.K = K) (hg : Gl X "enumerate") (hm : X.mg "enumerate" = none) (ha : PA X [e] ta) (hs : starEach [e] X.env = [(false, eval e X.env)] := by rfl) :
    PI X (.Tuple elts kk tpos) (.Call (.Name "enumerate" p) [e] [] pos) (iEnumT K ta) := by subst h; exact pi_enumT hg hm ha hs
end G
namespace G
/-! ## tables: the mathematics -/
def tb (bs : List Bool) (r : Nat) : Bool := bs.getD r false
def bit0 (r k : Nat) : Bool := decide (r / 2 ^ k % 2 = 0)
def flips (bs : List Bool) (k : Nat) : Bool := (List.range bs.length).any fun r => tb bs r != tb bs (r ^^^ 2 ^ k)
def dueFlips (bs : List Bool) (k : Nat) : Bool := (List.range bs.length).any fun r => bit0 r k && (tb bs r != tb bs (r + 2 ^ k))
theorem bit0_iff (r k : Nat) : bit0 r k = !r.testBit k := by
  unfold bit0
  rw [Nat.testBit_eq_decide_div_mod_eq]
  have h := Nat.mod_two_eq_zero_or_one (r / 2 ^ k)
  rcases h with h | h <;> simp [h]
theorem add_up {x k : Nat} (h : x.testBit k = false) : (x + 2 ^ k) / 2 ^ (k + 1) = x / 2 ^ (k + 1) := by
  have h0 : x / 2 ^ k % 2 = 0 := by
    rw [Nat.testBit_eq_decide_div_mod_eq] at h
    have := of_decide_eq_false h
    omega
  rw [Nat.pow_succ, ← Nat.div_div_eq_div_mul, ← Nat.div_div_eq_div_mul, Nat.add_div_right _ (Nat.pow_pos (by decide))]
  omega
theorem xor_add {x k : Nat} (h : x.testBit k = false) : x ^^^ 2 ^ k = x + 2 ^ k := by
  apply Nat.eq_of_testBit_eq
  intro i
  rw [Nat.testBit_xor, Nat.testBit_two_pow, Nat.add_comm]
  rcases Nat.lt_trichotomy i k with c | c | c
  · rw [Nat.testBit_two_pow_add_gt c]
    simp [show k ≠ i by omega]
  · subst c
    rw [Nat.testBit_two_pow_add_eq, h]
    simp
  · have e : i = (i - (k + 1)) + (k + 1) := by omega
    rw [e, ← Nat.testBit_div_two_pow, ← Nat.testBit_div_two_pow, Nat.add_comm (2 ^ k) x, add_up h]
    simp [show k ≠ i - (k + 1) + (k + 1) by omega]
theorem xor_twice (x k : Nat) : x ^^^ 2 ^ k ^^^ 2 ^ k = x := by rw [Nat.xor_assoc, Nat.xor_self, Nat.xor_zero]
theorem xor_bit (x k : Nat) : (x ^^^ 2 ^ k).testBit k = !x.testBit k := by rw [Nat.testBit_xor, Nat.testBit_two_pow]; simp
theorem xor_lt {x k m : Nat} (h : x < 2 ^ m) (hk : k < m) : x ^^^ 2 ^ k < 2 ^ m := Nat.xor_lt_two_pow h (Nat.pow_lt_pow_right (by decide) hk)
theorem bne_comm (a b : Bool) : (a != b) = (b != a) := by cases a <;> cases b <;> rfl
theorem flips_due {bs : List Bool} {m k : Nat} (hl : bs.length = 2 ^ m) (hk : k < m) : flips bs k = dueFlips bs k := by
  unfold flips dueFlips
  rw [hl, Bool.eq_iff_iff, List.any_eq_true, List.any_eq_true]
  constructor
  · rintro ⟨r, hr, h⟩
    have hr' := List.mem_range.mp hr
    cases hb : r.testBit k with
    | false => exact ⟨r, hr, by rw [bit0_iff, hb, ← xor_add hb]; exact h⟩
    | true =>
      have hb' : (r ^^^ 2 ^ k).testBit k = false := by rw [xor_bit, hb]; rfl
      refine ⟨r ^^^ 2 ^ k, List.mem_range.mpr (xor_lt hr' hk), ?_⟩
      rw [bit0_iff, hb', ← xor_add hb', xor_twice, bne_comm]
      exact h
  · rintro ⟨r, hr, h⟩
    rw [Bool.and_eq_true, bit0_iff] at h
    have hb : r.testBit k = false := by
      cases q : r.testBit k with
      | false => rfl
      | true => rw [q] at h; exact absurd h.1 (by decide)
    exact ⟨r, hr, by rw [xor_add hb]; exact h.2⟩
theorem add_lt {r k m : Nat} (h : r < 2 ^ m) (hk : k < m) (hb : bit0 r k = true) : r + 2 ^ k < 2 ^ m := by
  have hb' : r.testBit k = false := by
    rw [bit0_iff] at hb
    cases q : r.testBit k with
    | false => rfl
    | true => rw [q] at hb; exact absurd hb (by decide)
  rw [← xor_add hb']
  exact xor_lt h hk
/-- the table with one input more, at k, that does not matter -/
def widened (bs : List Bool) (k : Nat) : List Bool := (List.range (2 * bs.length)).map fun r => tb bs (r / (2 * 2 ^ k) * 2 ^ k + r % 2 ^ k)
theorem widened_len (bs : List Bool) (k : Nat) : (widened bs k).length = 2 * bs.length := by unfold widened; rw [List.length_map, List.length_range]
theorem tb_map {f : Nat → Bool} {n r : Nat} (h : r < n) : tb ((List.range n).map f) r = f r := by
  unfold tb
  rw [List.getD_eq_getElem?_getD, List.getElem?_map, List.getElem?_range h]
  rfl
theorem widened_tb {bs : List Bool} {k r : Nat} (h : r < 2 * bs.length) : tb (widened bs k) r = tb bs (r / (2 * 2 ^ k) * 2 ^ k + r % 2 ^ k) := tb_map h
theorem low_lt {m k r : Nat} (hk : k ≤ m) (h : r < 2 * 2 ^ m) : r / (2 * 2 ^ k) * 2 ^ k + r % 2 ^ k < 2 ^ m := by
  obtain ⟨d, rfl⟩ : ∃ d, m = k + d := ⟨m - k, by omega⟩
  have hp : 0 < 2 ^ k := Nat.pow_pos (by decide)
  rw [Nat.pow_add] at h ⊢
  have h1 : r / (2 * 2 ^ k) < 2 ^ d := by
    rw [Nat.div_lt_iff_lt_mul (by omega)]
    calc r < 2 * (2 ^ k * 2 ^ d) := h
      _ = 2 ^ d * (2 * 2 ^ k) := by rw [Nat.mul_comm (2 ^ d), Nat.mul_assoc]
  have h2 := Nat.mod_lt r hp
  generalize r % 2 ^ k = s at *
  generalize r / (2 * 2 ^ k) = q at *
  calc q * 2 ^ k + s < q * 2 ^ k + 2 ^ k := by omega
    _ = (q + 1) * 2 ^ k := by rw [Nat.succ_mul]
    _ ≤ 2 ^ d * 2 ^ k := Nat.mul_le_mul_right _ h1
    _ = 2 ^ k * 2 ^ d := Nat.mul_comm _ _
theorem xor_div (r k : Nat) : (r ^^^ 2 ^ k) / (2 * 2 ^ k) = r / (2 * 2 ^ k) := by
  have e : 2 * 2 ^ k = 2 ^ (k + 1) := by rw [Nat.pow_succ, Nat.mul_comm]
  rw [e]
  cases hb : r.testBit k with
  | false => rw [xor_add hb, add_up hb]
  | true =>
    have hb' : (r ^^^ 2 ^ k).testBit k = false := by rw [xor_bit, hb]; rfl
    have h := add_up hb'
    rw [← xor_add hb', xor_twice] at h
    exact h.symm
theorem xor_mod (r k : Nat) : (r ^^^ 2 ^ k) % 2 ^ k = r % 2 ^ k := by
  cases hb : r.testBit k with
  | false => rw [xor_add hb, Nat.add_mod_right]
  | true =>
    have hb' : (r ^^^ 2 ^ k).testBit k = false := by rw [xor_bit, hb]; rfl
    have h : (r ^^^ 2 ^ k) + 2 ^ k = r := by rw [← xor_add hb', xor_twice]
    rw [← Nat.add_mod_right (r ^^^ 2 ^ k), h]
theorem widened_flips {bs : List Bool} {m k : Nat} (hl : bs.length = 2 ^ m) (hk : k ≤ m) : flips (widened bs k) k = false := by
  unfold flips
  rw [List.any_eq_false]
  intro r hr
  have hr' := List.mem_range.mp hr
  rw [widened_len, hl] at hr'
  have h2 : r ^^^ 2 ^ k < 2 * bs.length := by
    rw [hl]
    have e : 2 * 2 ^ m = 2 ^ (m + 1) := by rw [Nat.pow_succ, Nat.mul_comm]
    rw [e] at hr' ⊢
    exact xor_lt hr' (by omega)
  rw [widened_tb (by rw [hl]; exact hr'), widened_tb h2, xor_div, xor_mod]
  simp
end G
namespace G
open PySem PySem.Spec PyProof.Rows L2
def topS (i : Nat) : Stmt := PySem.Challenge.pw_signoff_k11_inputs_that_matter.main.body.getD i (.Pass ⟨0, 0, 0, 0⟩)
abbrev s_inputs_of : Stmt := topS 1
abbrev s_depends_on : Stmt := topS 2
abbrev s_changes_with : Stmt := topS 3
abbrev s_law_pool : Stmt := topS 5
abbrev s_law_spread : Stmt := topS 6
abbrev s_law_draw : Stmt := topS 7
abbrev s_law_same : Stmt := topS 8
abbrev s_law_bits : Stmt := topS 9
abbrev s_law_table : Stmt := topS 10
abbrev s_law_widened : Stmt := topS 11
abbrev s_law_due : Stmt := topS 12
abbrev s_law : Stmt := topS 13
end G
namespace G
open PySem PySem.Spec PyProof.Rows L2 Evl
structure TxtL (mg : Str → Option Value) : Prop where
  int : mg "int" = none
  len : mg "len" = none
  list : mg "list" = none
  range : mg "range" = none
section
variable {P : Program} {w : World} {K : PySem.W.Frag} {mg : Str → Option Value} {base : Heap}
def spSpread : Sp := fun vs H Q _ => ∃ (c : Int), vs = [.int c] ∧ ∀ v : Int, Q (.int v) H
theorem sc_law_spread : FnScope ["cell", "mixed", "total", "k"] ["cell"] (defScope s_law_spread) := ⟨rfl, rfl, rfl, by decide +kernel, rfl, by decide +kernel, by decide +kernel⟩
theorem ok_law_spread (D : Dfd K mg "_law_spread" s_law_spread ["cell"]) (T : TxtL mg) : Has P w K mg base 1 "_law_spread" ["cell"] spSpread := by
  refine D.has fun f fd F => F.ok sc_law_spread (fun vs H Q E h => ?_) (fun cdv A outer s H vs Q E hr h => ?_)
  · obtain ⟨c, rfl, _⟩ := h
    rfl
  · obtain ⟨c, rfl, q⟩ := h
    refine ⟨_, (pss_cons (ps_set (i := 1) sc_law_spread.nd rfl (.inl rfl) (pe_op op_mod (pe_callTy call_int1 (by rfl) T.int (by decide +kernel) (pa_cons (pv 0) pa_nil)) pe_int))
      (pss_cons (ps_set (i := 2) sc_law_spread.nd rfl (.inl rfl) pe_int)
      (pss_cons (ps_for PassesOwn.never rfl (pi_range1 rfl T.range (pa_cons pe_int pa_nil)) (pg_name (i := 3) sc_law_spread.nd rfl (.inl rfl))
        (pss_cons (ps_set (i := 1) sc_law_spread.nd rfl (.inl rfl) (pe_op op_mod (pe_callTy call_int1 (by rfl) T.int (by decide +kernel) (pa_cons (pe_op op_add (pe_op op_add (pe_op op_mul (pv 1) pe_int) pe_int) (pv 3)) pa_nil)) pe_int))
        (pss_one (ps_set (i := 2) sc_law_spread.nd rfl (.inl rfl) (pe_op op_add (pe_op op_mul (pv 2) pe_int) (pv 1))))))
      (pss_one (ps_ret (pv 2)))))), ?_⟩
    refine ⟨_, rfl, .inl ⟨_, rfl, _, _, rfl, rfl, (by show (0 : Int) < 2147483647; decide), 4, rfl, by decide, by decide, for_range (n := 4) (fun _ σ H' => H' = H ∧ ∃ (x y : Int) (z : Option V), σ = [some (.int c), some (.int x), some (.int y), z]) ⟨rfl, _, _, _, rfl⟩ ?_ ?_⟩⟩
    · rintro i σ H' hi ⟨rfl, x, y, z, rfl⟩
      refine ⟨_, rfl, _, _, rfl, rfl, .inr ⟨by decide, by decide⟩, _, _, rfl, rfl, _, rfl, _, _, rfl, rfl, .inl ⟨_, rfl, _, _, rfl, rfl, (by show (0 : Int) < 2147483647; decide), _, rfl, _, _, rfl, rfl, .inr ⟨by decide, by decide⟩, _, rfl, _, _, rfl, rfl, rfl, _, _, _, rfl⟩⟩
    · rintro σ H' ⟨rfl, x, y, z, rfl⟩
      exact ⟨_, rfl, q y⟩
/-- a draw below n -/
def spDraw : Sp := fun vs H Q _ => ∃ (p a : Addr) (n : Int), vs = [.ref p, .int n] ∧ 0 < n ∧ n.natAbs.log2 < 9000 ∧ PoolOk p a H ∧ ∀ (v : Int) (o : HO), 0 ≤ v → v < n → PoolOk p a (upd H p o) → Q (.int v) (upd H p o)
theorem sc_law_draw : FnScope ["pool", "many", "cell", "mixed", "value"] ["pool", "many"] (defScope s_law_draw) := ⟨rfl, rfl, rfl, by decide +kernel, rfl, by decide +kernel, by decide +kernel⟩
theorem ok_law_draw (D : Dfd K mg "_law_draw" s_law_draw ["pool", "many"]) (T : TxtL mg) (C : Has P w K mg base 1 "_law_spread" ["cell"] spSpread) : Has P w K mg base 2 "_law_draw" ["pool", "many"] spDraw := by
  obtain ⟨f_law_spread, d_law_spread, G_law_spread, g_law_spread, k_law_spread, b_law_spread⟩ := C
  refine D.has fun f fd F => F.ok sc_law_draw (fun vs H Q E h => ?_) (fun cdv A outer s H vs Q E hr h => ?_)
  · obtain ⟨p, a, n, rfl, _⟩ := h
    rfl
  · obtain ⟨p, a, n, rfl, n0, n9, hp, q⟩ := h
    refine ⟨_, (pss_cut (ps_if (PW.pt (pw_and (pt_cmpR op_le (pe_ix ix_list (pv 0) pe_int (fun _ _ => rfl)) pe_int (nomark _)) (pw_and1 (pt_cmpR op_lt (pe_ix ix_list (pv 0) pe_int (fun _ _ => rfl)) (pe_callB call_len_seq (by rfl) T.len (by decide +kernel) (pa_cons (pe_ix ix_list (pv 0) pe_int (fun _ _ => rfl)) pa_nil)) (nomark _)))))
      (pss_cons (ps_set (i := 2) sc_law_draw.nd rfl (.inl rfl) (pe_ix ix_list (pe_ix ix_list (pv 0) pe_int (fun _ _ => rfl)) (pe_ix ix_list (pv 0) pe_int (fun _ _ => rfl)) (fun _ _ => rfl)))
      (pss_cons (ps_asg (pe_op op_add (pe_ix ix_list (pv 0) pe_int (fun _ _ => rfl)) pe_int) (pg_sub (pv 0) pe_int set_list))
      (pss_cons (ps_asg (pv 2) (pg_sub (pv 0) pe_int set_list))
      (pss_one (ps_if (pt_cmpR op_lt (pv 2) pe_int (nomark _))
        (pss_one (ps_asg (pe_call G_law_spread hr (by rfl) g_law_spread k_law_spread b_law_spread .nil pass0 (pa_cons (pv 2) pa_nil)) (pg_sub (pv 0) pe_int set_list)))
        pss_nil)))))
      pss_nil)
    (pss_cons (ps_asg (pe_op op_add (pe_ix ix_list (pv 0) pe_int (fun _ _ => rfl)) pe_int) (pg_sub (pv 0) pe_int set_list))
    (pss_cons (ps_if (pt_cmpR op_le (pe_ix ix_list (pv 0) pe_int (fun _ _ => rfl)) pe_int (nomark _))
      (pss_cons (ps_set (i := 3) sc_law_draw.nd rfl (.inl rfl) (pe_op op_mod (pe_callTy call_int1 (by rfl) T.int (by decide +kernel) (pa_cons (pe_op op_add (pe_op op_add (pe_op op_mul (pe_ix ix_list (pv 0) pe_int (fun _ _ => rfl)) pe_int) (pe_op op_mul (pe_ix ix_list (pv 0) pe_int (fun _ _ => rfl)) pe_int)) pe_int) pa_nil)) pe_int))
      (pss_cons (ps_set (i := 3) sc_law_draw.nd rfl (.inl rfl) (pe_op op_mod (pe_callTy call_int1 (by rfl) T.int (by decide +kernel) (pa_cons (pe_op op_add (pe_op op_mul (pv 3) pe_int) (pe_ix ix_list (pv 0) pe_int (fun _ _ => rfl))) pa_nil)) pe_int))
      (pss_one (ps_ret (pe_op op_mod (pe_op op_fdiv (pv 3) pe_int) (pv 1))))))
      pss_nil)
    (pss_cons (ps_set (i := 4) sc_law_draw.nd rfl (.inl rfl) (pe_op op_mod (pe_callTy call_int1 (by rfl) T.int (by decide +kernel) (pa_cons (pe_ix ix_list (pv 0) pe_int (fun _ _ => rfl)) pa_nil)) (pv 1)))
    (pss_cons (ps_asg (pe_op op_fdivW (pe_ix ix_list (pv 0) pe_int (fun _ _ => rfl)) (pv 1)) (pg_sub (pv 0) pe_int set_list))
    (pss_one (ps_ret (pv 4)))))))), ?_⟩
    obtain ⟨ns, i, c, k, s5, hl, ha, hn⟩ := hp
    have hap : a ≠ p := hid_neq ha
    have haH := hid_get ha
    -- the pool as it stands after writes
    have pk : ∀ (i' : Nat) (c' k' s' : Int), PoolOk p a (upd H p (.lst [.ref a, .int i', .int c', .int k', .int s'])) := fun i' c' k' s' =>
      ⟨ns, i', c', k', s', upd_same, by rw [hid_upd]; exact ha, hn⟩
    refine ⟨fun σ H' => ∃ (i' : Nat) (c' k' s' : Int) (o1 : Option V), σ = [some (.ref p), some (.int n), o1, none, none] ∧ H' p = some (.lst [.ref a, .int i', .int c', .int k', .int s']) ∧ (∀ o, upd H' p o = upd H p o), ?_, ?_⟩
    · refine ⟨_, rfl, _, _, _, _, rfl, rfl, SqL.of hl, atI_nat (j := 2) rfl, _, _, rfl, rfl, _, rfl, ite2 (fun e1 => ?_) (fun e1 => ?_)⟩
      · refine ⟨_, rfl, _, _, _, _, rfl, rfl, SqL.of hl, atI_nat (j := 1) rfl, _, rfl, _, _, _, _, rfl, rfl, SqL.of hl, atI_nat (j := 0) rfl, _, _, rfl, .inl (SqL.of haH), _, _, rfl, rfl, _, rfl, ite2 (fun e2 => ?_) (fun e2 => ?_)⟩
        · have hi : i < (ns.map V.int).length := by have := of_decide_eq_true e2; omega
          have hi' : i < ns.length := by rw [List.length_map] at hi; exact hi
          have gi : (ns.map V.int)[i]? = some (.int ns[i]) := by rw [List.getElem?_map, List.getElem?_eq_getElem hi']; rfl
          refine ⟨_, rfl, _, _, _, _, rfl, rfl, SqL.of hl, atI_nat (j := 0) rfl, _, rfl, _, _, _, _, rfl, rfl, SqL.of hl, atI_nat (j := 1) rfl, _, _, _, _, rfl, rfl, SqL.of haH, atI_nat gi, ?_⟩
          refine ⟨_, rfl, _, _, _, _, rfl, rfl, SqL.of hl, atI_nat (j := 1) rfl, _, _, rfl, rfl, _, rfl, _, _, _, 1, rfl, rfl, hl, rfl, ?_⟩
          refine ⟨_, rfl, _, rfl, _, _, _, 2, rfl, rfl, upd_same, rfl, ?_⟩
          refine ⟨_, rfl, _, _, rfl, rfl, _, rfl, ite2 (fun e3 => ?_) (fun e3 => ?_)⟩
          · refine ⟨_, rfl, _, rfl, fun v => ⟨_, rfl, _, _, _, 2, rfl, rfl, upd_same, rfl, ?_⟩⟩
            exact ⟨i + 1, v, k, s5, _, rfl, upd_same, fun o => by rw [upd_upd, upd_upd, upd_upd]⟩
          · exact ⟨i + 1, ns[i], k, s5, _, rfl, upd_same, fun o => by rw [upd_upd, upd_upd]⟩
        · exact ⟨i, c, k, s5, _, rfl, hl, fun _ => rfl⟩
      · exact iteF ⟨i, c, k, s5, _, rfl, hl, fun _ => rfl⟩
    · rintro σ H' ⟨i, c, k, s5, o1, rfl, hl', hu⟩
      refine ⟨_, rfl, _, _, _, _, rfl, rfl, SqL.of hl', atI_nat (j := 3) rfl, _, _, rfl, rfl, _, rfl, _, _, _, 3, rfl, rfl, hl', rfl, ?_⟩
      refine ⟨_, rfl, _, _, _, _, rfl, rfl, SqL.of upd_same, atI_nat (j := 2) rfl, _, _, rfl, rfl, _, rfl, ite2 (fun e1 => ?_) (fun e1 => ?_)⟩
      · refine ⟨_, rfl, _, _, _, _, rfl, rfl, SqL.of upd_same, atI_nat (j := 4) rfl, _, _, rfl, rfl, .inr ⟨by decide, by decide⟩, _, rfl, _, _, _, _, rfl, rfl, SqL.of upd_same, atI_nat (j := 3) rfl, _, _, rfl, rfl, .inr ⟨by decide, by decide⟩, _, _, rfl, rfl, _, _, rfl, rfl, .inl ⟨_, rfl, _, _, rfl, rfl, (by show (0 : Int) < 2147483647; decide), ?_⟩⟩
        refine ⟨_, rfl, _, _, rfl, rfl, .inr ⟨by decide, by decide⟩, _, rfl, _, _, _, _, rfl, rfl, SqL.of upd_same, atI_nat (j := 3) rfl, _, _, rfl, rfl, .inl ⟨_, rfl, _, _, rfl, rfl, (by show (0 : Int) < 2147483629; decide), ?_⟩⟩
        refine ⟨_, rfl, _, _, rfl, rfl, ⟨by decide, by decide⟩, _, rfl, _, _, rfl, rfl, n0, ?_⟩
        show Q _ _
        rw [hu]
        exact q _ _ (Int.emod_nonneg _ (by omega)) (Int.emod_lt_of_pos _ n0) (pk i c (k + 1) s5)
      · refine ⟨_, rfl, _, _, _, _, rfl, rfl, SqL.of upd_same, atI_nat (j := 2) rfl, .inl ⟨_, rfl, _, rfl, _, _, rfl, rfl, n0, ?_⟩⟩
        refine ⟨_, rfl, _, _, _, _, rfl, rfl, SqL.of upd_same, atI_nat (j := 2) rfl, _, rfl, _, _, rfl, rfl, ⟨n0, n9⟩, _, rfl, _, _, _, 2, rfl, rfl, upd_same, rfl, _, rfl, ?_⟩
        show Q _ _
        rw [upd_upd, hu]
        exact q _ _ (Int.emod_nonneg _ (by omega)) (Int.emod_lt_of_pos _ n0) (pk i (c / n) (k + 1) s5)
/-- the same, the heap behind it a letter -/
def spDrawX : Sp := fun vs H Q _ => ∃ (p a : Addr) (n : Int), vs = [.ref p, .int n] ∧ 0 < n ∧ n ≤ 2 ^ 70 ∧ PoolOk p a H ∧ ∀ (v : Nat) (H' : Hp), (v : Int) < n → Px p a H H' → (∀ b, b ≠ p → H' b = H b) → Q (.int v) H'
theorem log2_small {n : Int} (h0 : 0 < n) (h : n ≤ 2 ^ 70) : n.natAbs.log2 < 9000 := by
  have h1 : n.natAbs < 2 ^ 71 := by omega
  have := PySem.Flt.log2_lt_of (by decide : 0 < 71) h1
  omega
theorem drawX (C : Has P w K mg base 2 "_law_draw" ["pool", "many"] spDraw) : Has P w K mg base 2 "_law_draw" ["pool", "many"] spDrawX :=
  C.imp fun vs H Q E h => by
    obtain ⟨p, a, n, rfl, h0, h1, hp, q⟩ := h
    refine ⟨p, a, n, rfl, h0, log2_small h0 h1, hp, fun v o v0 v1 hq => ?_⟩
    have e : v = ((v.toNat : Nat) : Int) := by omega
    rw [e]
    exact q v.toNat _ (by omega) (Px.draw hp hq) fun b hb => upd_ne hb
end
end G
namespace G
open PySem PySem.Spec PyProof.Rows L2 Evl
section
variable {P : Program} {w : World} {K : PySem.W.Frag} {mg : Str → Option Value} {base : Heap}
theorem cutV_mem {xs : List V} {lo hi : Option Int} {i : Nat} {x : V} (h : (cutV xs lo hi)[i]? = some x) : x ∈ xs := by
  unfold cutV at h
  exact List.mem_of_mem_drop (List.mem_of_mem_take (List.mem_of_getElem? h))
theorem int_of {ns : List Int} {x : V} (h : x ∈ ns.map V.int) : ∃ z, x = .int z := by
  obtain ⟨z, _, e⟩ := List.mem_map.mp h
  exact ⟨z, e.symm⟩
def spPool (K : PySem.W.Frag) : Sp := fun vs H Q _ => ∃ (s : Addr) (ns : List Int), vs = [.ref s] ∧ SqL K H s (ns.map V.int) ∧ ns.length ≤ 1000 ∧ ∀ (p a : Addr) (H' : Hp), PoolOk p a H' → Ex H H' → H p = none → Q (.ref p) H'
theorem sc_law_pool : FnScope ["script", "salt", "cell"] ["script"] (defScope s_law_pool) := ⟨rfl, rfl, rfl, by decide +kernel, rfl, by decide +kernel, by decide +kernel⟩
theorem ok_law_pool (D : Dfd K mg "_law_pool" s_law_pool ["script"]) (T : TxtL mg) : Has P w K mg base 1 "_law_pool" ["script"] (spPool K) := by
  refine D.has fun f fd F => F.ok sc_law_pool (fun vs H Q E h => ?_) (fun cdv A outer s H vs Q E hr h => ?_)
  · obtain ⟨c, _, rfl, _⟩ := h
    rfl
  · obtain ⟨sa, ns, rfl, hs, hn, q⟩ := h
    refine ⟨_, (pss_cons (ps_set (i := 1) sc_law_pool.nd rfl (.inl rfl) pe_int)
      (pss_cons (ps_for PassesOwn.never rfl (pi_list (pe_slice sl_list (pv 0) po_none (po_some pe_int))) (pg_name (i := 2) sc_law_pool.nd rfl (.inl rfl))
        (pss_one (ps_set (i := 1) sc_law_pool.nd rfl (.inl rfl) (pe_op op_mod (pe_callTy call_int1 (by rfl) T.int (by decide +kernel) (pa_cons (pe_op op_add (pe_op op_mul (pv 1) pe_int) (pv 2)) pa_nil)) pe_int))))
      (pss_one (ps_ret (pe_lst (pa_cons (pe_callTy call_list_of (by rfl) T.list (by decide +kernel) (pa_cons (pv 0) pa_nil)) (pa_cons pe_int (pa_cons pe_int (pa_cons pe_int (pa_cons (pv 1) pa_nil)))))))))), ?_⟩
    refine ⟨_, rfl, _, rfl, sa, _, rfl, hs, fun c nc => ⟨c, rfl, ⟨_, SqL.of upd_same⟩, for_list (K := K) (a := c) (xs := cutV (ns.map V.int) none (some 63)) (fun _ σ H' => H' = upd H c (.lst (cutV (ns.map V.int) none (some 63))) ∧ ∃ (x : Int) (z : Option V), σ = [some (.ref sa), some (.int x), z]) ⟨rfl, _, _, rfl⟩ ?_ ?_ ?_⟩⟩
    · rintro i σ H' _ ⟨rfl, _⟩
      exact SqL.of upd_same
    · rintro i x σ H' hi ⟨rfl, y, z, rfl⟩
      obtain ⟨m, rfl⟩ := int_of (cutV_mem hi)
      exact ⟨_, rfl, _, _, rfl, rfl, .inr ⟨by decide, by decide⟩, _, rfl, _, _, rfl, rfl, .inl ⟨_, rfl, _, _, rfl, rfl, (by show (0 : Int) < 1000003; decide), rfl, _, _, rfl⟩⟩
    · rintro σ H' ⟨rfl, y, z, rfl⟩
      have e1 : Ex H (upd H c (.lst (cutV (ns.map V.int) none (some 63)))) := Ex.new nc
      refine ⟨_, rfl, _, _, rfl, .inl (ex_l e1 hs), fun l nl => ⟨_, rfl, (by show 5 ≤ sizeLine; decide), fun p np => ?_⟩⟩
      have e2 := e1.trans (Ex.new (o := .lst (ns.map V.int)) nl)
      have npl : l ≠ p := ne_of_none upd_same np
      exact q p l _ ⟨ns, 0, 0, 0, y, upd_same, by rw [hid_ne npl, upd_ne npl]; exact upd_same, hn⟩ (e2.trans (Ex.new np)) (fresh_back e2 np)
end
end G
namespace G
open PySem PySem.Spec PyProof.Rows L2 Evl
/-! ## data -/
inductive D where
  | non | bl (b : Bool) | int (i : Int) | str (s : Str) | tup (l : List D) | lst (l : List D)
def okD : Nat → D → Prop
  | 0, .tup _ => False
  | 0, .lst _ => False
  | n + 1, .tup l => l.length < 2 ^ 61 ∧ ∀ d ∈ l, okD n d
  | n + 1, .lst l => l.length < 2 ^ 61 ∧ ∀ d ∈ l, okD n d
  | _, _ => True
inductive Rep (H : Hp) : V → D → Prop where
  | non : Rep H .non .non
  | bl (b : Bool) : Rep H (.bl b) (.bl b)
  | int (i : Int) : Rep H (.int i) (.int i)
  | str (s : Str) : Rep H (.str s) (.str s)
  | tup {a : Addr} {xs : List V} {ds : List D} (h : H a = some (.tup xs)) (hl : xs.length = ds.length) (hr : ∀ (i : Nat) (x : V) (d : D), xs[i]? = some x → ds[i]? = some d → Rep H x d) : Rep H (.ref a) (.tup ds)
  | lst {a : Addr} {xs : List V} {ds : List D} (h : H a = some (.lst xs)) (hl : xs.length = ds.length) (hr : ∀ (i : Nat) (x : V) (d : D), xs[i]? = some x → ds[i]? = some d → Rep H x d) : Rep H (.ref a) (.lst ds)
theorem Rep.ex {H H' : Hp} (e : Ex H H') {x : V} {d : D} (r : Rep H x d) : Rep H' x d := by
  induction r with
  | non => exact .non
  | bl b => exact .bl b
  | int i => exact .int i
  | str s => exact .str s
  | tup h hl _ ih => exact .tup (e _ _ h) hl ih
  | lst h hl _ ih => exact .lst (e _ _ h) hl ih
theorem okD.mono : ∀ {n m : Nat} {d : D}, n ≤ m → okD n d → okD m d
  | 0, 0, d, _, h => h
  | 0, m + 1, .non, _, _ => trivial
  | 0, m + 1, .bl _, _, _ => trivial
  | 0, m + 1, .int _, _, _ => trivial
  | 0, m + 1, .str _, _, _ => trivial
  | 0, m + 1, .tup _, _, h => h.elim
  | 0, m + 1, .lst _, _, h => h.elim
  | n + 1, m + 1, .non, _, _ => trivial
  | n + 1, m + 1, .bl _, _, _ => trivial
  | n + 1, m + 1, .int _, _, _ => trivial
  | n + 1, m + 1, .str _, _, _ => trivial
  | n + 1, m + 1, .tup l, le, h => ⟨h.1, fun d hd => okD.mono (Nat.le_of_succ_le_succ le) (h.2 d hd)⟩
  | n + 1, m + 1, .lst l, le, h => ⟨h.1, fun d hd => okD.mono (Nat.le_of_succ_le_succ le) (h.2 d hd)⟩
structure TxtS (mg : Str → Option Value) : Prop where
  isinstance : mg "isinstance" = none
  tuple : mg "tuple" = none
  list : mg "list" = none
  len : mg "len" = none
  range : mg "range" = none
  bool : mg "bool" = none
  int : mg "int" = none
  str : mg "str" = none
section
variable {P : Program} {w : World} {K : PySem.W.Frag} {mg : Str → Option Value} {base : Heap}
/-- equal data: the answer is True -/
def spSame : Nat → Sp
  | 0 => fun _ _ _ _ => False
  | n + 1 => fun vs H Q _ => ∃ (x y : V) (d : D), vs = [x, y] ∧ Rep H x d ∧ Rep H y d ∧ okD n d ∧ Q (.bl true) H
theorem sc_law_same : FnScope ["actual", "due", "k"] ["actual", "due"] (defScope s_law_same) := ⟨rfl, rfl, rfl, by decide +kernel, rfl, by decide +kernel, by decide +kernel⟩
theorem fn_law_same {f : Addr} {fd : FuncData} (F : Fun K "_law_same" "_law_same" s_law_same f fd) (g_law_same : mg "_law_same" = some (.ref f)) (b_law_same : Binds K fd ["actual", "due"] []) (T : TxtS mg) : ∀ n, FnOk P w K mg base CX0 n f fd ["actual", "due"] (spSame n)
  | 0 => ⟨fun _ _ _ _ h => h.elim, fun _ _ _ _ _ _ _ _ _ _ _ _ _ h => h.elim⟩
  | n + 1 => by
    have G_law_same := fn_law_same F g_law_same b_law_same T n
    have k_law_same := F.kp
    refine F.ok sc_law_same (fun vs H Q E h => ?_) (fun cdv A outer s H vs Q E hr h => ?_)
    · obtain ⟨x, y, d, rfl, _⟩ := h
      rfl
    · obtain ⟨x, y, d, rfl, rx, ry, hd, q⟩ := h
      refine ⟨_, (pss_cons (ps_if (PW.pt (pw_or (pt_val (pe_callB call_isi (by rfl) T.isinstance (by decide +kernel) (pa_cons (pv 1) (pa_cons (pe_bltn (v := .ty "tuple") (by rfl) T.tuple (by decide +kernel) rfl) pa_nil)))) (pw_or1 (pt_val (pe_callB call_isi (by rfl) T.isinstance (by decide +kernel) (pa_cons (pv 1) (pa_cons (pe_bltn (v := .ty "list") (by rfl) T.list (by decide +kernel) rfl) pa_nil)))))))
      (pss_cons (ps_if (PW.pt (pw_or (pt_cmpR op_ne (pe_callB call_isi (by rfl) T.isinstance (by decide +kernel) (pa_cons (pv 1) (pa_cons (pe_bltn (v := .ty "tuple") (by rfl) T.tuple (by decide +kernel) rfl) pa_nil))) (pe_callB call_isi (by rfl) T.isinstance (by decide +kernel) (pa_cons (pv 0) (pa_cons (pe_bltn (v := .ty "tuple") (by rfl) T.tuple (by decide +kernel) rfl) pa_nil))) (nomark _)) (pw_or1 (pt_cmpR op_ne (pe_callB call_isi (by rfl) T.isinstance (by decide +kernel) (pa_cons (pv 1) (pa_cons (pe_bltn (v := .ty "list") (by rfl) T.list (by decide +kernel) rfl) pa_nil))) (pe_callB call_isi (by rfl) T.isinstance (by decide +kernel) (pa_cons (pv 0) (pa_cons (pe_bltn (v := .ty "list") (by rfl) T.list (by decide +kernel) rfl) pa_nil))) (nomark _)))))
        (pss_one (ps_ret pe_bl))
        pss_nil)
      (pss_cons (ps_if (pt_cmpR op_ne (pe_callB call_len_seq (by rfl) T.len (by decide +kernel) (pa_cons (pv 0) pa_nil)) (pe_callB call_len_seq (by rfl) T.len (by decide +kernel) (pa_cons (pv 1) pa_nil)) (nomark _))
        (pss_one (ps_ret pe_bl))
        pss_nil)
      (pss_cons (ps_for PassesOwn.never rfl (pi_range1 rfl T.range (pa_cons (pe_callB call_len_seq (by rfl) T.len (by decide +kernel) (pa_cons (pv 1) pa_nil)) pa_nil)) (pg_name (i := 2) sc_law_same.nd rfl (.inl rfl))
        (pss_one (ps_if (pt_not (pt_val (pe_call G_law_same hr (by rfl) g_law_same k_law_same b_law_same .nil pass0 (pa_cons (pe_ix ix_seq (pv 0) (pv 2) (fun _ _ => rfl)) (pa_cons (pe_ix ix_seq (pv 1) (pv 2) (fun _ _ => rfl)) pa_nil)))))
          (pss_one (ps_ret pe_bl))
          pss_nil)))
      (pss_one (ps_ret pe_bl)))))
      pss_nil)
    (pss_cons (ps_if (pt_cmpR op_isN (pv 1) pe_non (nomark _))
      (pss_one (ps_ret (pe_cmpR op_isN (pv 0) pe_non (nomark _))))
      pss_nil)
    (pss_cons (ps_if (pt_val (pe_callB call_isi (by rfl) T.isinstance (by decide +kernel) (pa_cons (pv 1) (pa_cons (pe_bltn (v := .ty "bool") (by rfl) T.bool (by decide +kernel) rfl) pa_nil))))
      (pss_one (ps_ret (pe_and (pe_callB call_isi (by rfl) T.isinstance (by decide +kernel) (pa_cons (pv 0) (pa_cons (pe_bltn (v := .ty "bool") (by rfl) T.bool (by decide +kernel) rfl) pa_nil))) (pe_one (pe_cmpR op_eq (pv 0) (pv 1) (nomark _))))))
      pss_nil)
    (pss_cons (ps_if (pt_val (pe_callB call_isi (by rfl) T.isinstance (by decide +kernel) (pa_cons (pv 1) (pa_cons (pe_bltn (v := .ty "int") (by rfl) T.int (by decide +kernel) rfl) pa_nil))))
      (pss_one (ps_ret (pe_and (pe_callB call_isi (by rfl) T.isinstance (by decide +kernel) (pa_cons (pv 0) (pa_cons (pe_bltn (v := .ty "int") (by rfl) T.int (by decide +kernel) rfl) pa_nil))) (pe_and (pe_not (pe_callB call_isi (by rfl) T.isinstance (by decide +kernel) (pa_cons (pv 0) (pa_cons (pe_bltn (v := .ty "bool") (by rfl) T.bool (by decide +kernel) rfl) pa_nil)))) (pe_one (pe_cmpR op_eq (pv 0) (pv 1) (nomark _)))))))
      pss_nil)
    (pss_one (ps_ret (pe_and (pe_callB call_isi (by rfl) T.isinstance (by decide +kernel) (pa_cons (pv 0) (pa_cons (pe_bltn (v := .ty "str") (by rfl) T.str (by decide +kernel) rfl) pa_nil))) (pe_one (pe_cmpR op_eq (pv 0) (pv 1) (nomark _)))))))))), ?_⟩
      cases rx with
      | non =>
        cases ry
        refine ⟨_, rfl, _, _, _, _, _, rfl, .ty "tuple", .base .non, kit_ty (a := "NoneType") (r := false) (by decide +kernel), _, rfl, iteF ⟨_, rfl, _, _, _, _, _, rfl, .ty "list", .base .non, kit_ty (a := "NoneType") (r := false) (by decide +kernel), _, rfl, iteF ⟨_, rfl, rfl, _, rfl, iteT ⟨_, rfl, rfl, ?_⟩⟩⟩⟩
        exact q
      | bl b =>
        cases ry
        refine ⟨_, rfl, _, _, _, _, _, rfl, .ty "tuple", .base (.bl _), kit_ty (a := "bool") (r := false) (by decide +kernel), _, rfl, iteF ⟨_, rfl, _, _, _, _, _, rfl, .ty "list", .base (.bl _), kit_ty (a := "bool") (r := false) (by decide +kernel), _, rfl, iteF ⟨_, rfl, rfl, _, rfl, iteF ⟨_, rfl, _, _, _, _, _, rfl, .ty "bool", .base (.bl _), kit_ty (a := "bool") (r := true) (by decide +kernel), _, rfl, iteT ⟨_, rfl, _, _, _, _, _, rfl, .ty "bool", .base (.bl _), kit_ty (a := "bool") (r := true) (by decide +kernel), _, rfl, iteT ⟨_, rfl, _, rfl, rfl, ?_⟩⟩⟩⟩⟩⟩
        rw [decide_eq_true rfl]
        exact q
      | int b =>
        cases ry
        refine ⟨_, rfl, _, _, _, _, _, rfl, .ty "tuple", .base (.int _), kit_ty (a := "int") (r := false) (by decide +kernel), _, rfl, iteF ⟨_, rfl, _, _, _, _, _, rfl, .ty "list", .base (.int _), kit_ty (a := "int") (r := false) (by decide +kernel), _, rfl, iteF ⟨_, rfl, rfl, _, rfl, iteF ⟨_, rfl, _, _, _, _, _, rfl, .ty "bool", .base (.int _), kit_ty (a := "int") (r := false) (by decide +kernel), _, rfl, iteF ⟨_, rfl, _, _, _, _, _, rfl, .ty "int", .base (.int _), kit_ty (a := "int") (r := true) (by decide +kernel), _, rfl, iteT ⟨_, rfl, _, _, _, _, _, rfl, .ty "int", .base (.int _), kit_ty (a := "int") (r := true) (by decide +kernel), _, rfl, iteT ⟨_, rfl, _, _, _, _, _, rfl, .ty "bool", .base (.int _), kit_ty (a := "int") (r := false) (by decide +kernel), _, rfl, _, rfl, iteT ⟨_, rfl, _, rfl, rfl, ?_⟩⟩⟩⟩⟩⟩⟩⟩
        rw [decide_eq_true rfl]
        exact q
      | str b =>
        cases ry
        refine ⟨_, rfl, _, _, _, _, _, rfl, .ty "tuple", .base (.str _), kit_ty (a := "str") (r := false) (by decide +kernel), _, rfl, iteF ⟨_, rfl, _, _, _, _, _, rfl, .ty "list", .base (.str _), kit_ty (a := "str") (r := false) (by decide +kernel), _, rfl, iteF ⟨_, rfl, rfl, _, rfl, iteF ⟨_, rfl, _, _, _, _, _, rfl, .ty "bool", .base (.str _), kit_ty (a := "str") (r := false) (by decide +kernel), _, rfl, iteF ⟨_, rfl, _, _, _, _, _, rfl, .ty "int", .base (.str _), kit_ty (a := "str") (r := false) (by decide +kernel), _, rfl, iteF ⟨_, rfl, _, _, _, _, _, rfl, .ty "str", .base (.str _), kit_ty (a := "str") (r := true) (by decide +kernel), _, rfl, iteT ⟨_, rfl, _, rfl, rfl, ?_⟩⟩⟩⟩⟩⟩⟩
        rw [decide_eq_true rfl]
        exact q
      | @tup a xs ds hx lx rx =>
        cases ry with
        | @tup b ys _ hy ly ry =>
          cases n with
          | zero => exact hd.elim
          | succ m =>
            obtain ⟨hlen, hall⟩ := hd
            refine ⟨_, rfl, _, _, _, _, _, rfl, .ty "tuple", .base (.tup hy), kit_ty (a := "tuple") (r := true) (by decide +kernel), _, rfl, iteT (iteT ⟨_, rfl, _, _, _, _, _, rfl, .ty "tuple", .base (.tup hy), kit_ty (a := "tuple") (r := true) (by decide +kernel), _, rfl, _, _, _, _, _, rfl, .ty "tuple", .base (.tup hx), kit_ty (a := "tuple") (r := true) (by decide +kernel), rfl, _, rfl, iteF ⟨_, rfl, _, _, _, _, _, rfl, .ty "list", .base (.tup hy), kit_ty (a := "tuple") (r := false) (by decide +kernel), _, rfl, _, _, _, _, _, rfl, .ty "list", .base (.tup hx), kit_ty (a := "tuple") (r := false) (by decide +kernel), rfl, _, rfl, iteF ⟨_, rfl, _, _, rfl, .inr (SqT.of hx), _, rfl, _, _, rfl, .inr (SqT.of hy), rfl, _, rfl, ?_⟩⟩⟩)⟩
            have el : decide (V.int (xs.length : Int) = V.int (ys.length : Int)) = true := decide_eq_true (by rw [lx, ly])
            rw [el]
            refine ⟨_, rfl, _, _, rfl, .inr (SqT.of hy), _, rfl, by omega, by omega, for_range (n := (ys.length : Int).toNat) (fun _ σ H' => H' = H ∧ ∃ z : Option V, σ = [some (.ref a), some (.ref b), z]) ⟨rfl, _, rfl⟩ ?_ ?_⟩
            · rintro i σ H' hi ⟨rfl, z, rfl⟩
              have hi' : i < ds.length := by omega
              have e0 : (0 : Int) + (i : Int) = (i : Int) := Int.zero_add _
              have g1 : xs[i]? = some xs[i] := List.getElem?_eq_getElem (by omega)
              have g2 : ys[i]? = some ys[i] := List.getElem?_eq_getElem (by omega)
              have g3 : ds[i]? = some ds[i] := List.getElem?_eq_getElem hi'
              rw [e0]
              refine ⟨_, rfl, _, rfl, .inr (.inl ⟨_, _, _, _, rfl, rfl, SqT.of hx, atI_nat g1, _, rfl, _, rfl, .inr (.inl ⟨_, _, _, _, rfl, rfl, SqT.of hy, atI_nat g2, ?_⟩)⟩)⟩
              exact ⟨_, _, ds[i], rfl, rx i _ _ g1 g3, ry i _ _ g2 g3, hall _ (List.getElem_mem hi'), _, rfl, rfl, _, rfl⟩
            · rintro σ H' ⟨rfl, z, rfl⟩
              exact q
      | @lst a xs ds hx lx rx =>
        cases ry with
        | @lst b ys _ hy ly ry =>
          cases n with
          | zero => exact hd.elim
          | succ m =>
            obtain ⟨hlen, hall⟩ := hd
            refine ⟨_, rfl, _, _, _, _, _, rfl, .ty "tuple", .base (.lst hy), kit_ty (a := "list") (r := false) (by decide +kernel), _, rfl, iteF ⟨_, rfl, _, _, _, _, _, rfl, .ty "list", .base (.lst hy), kit_ty (a := "list") (r := true) (by decide +kernel), _, rfl, iteT ⟨_, rfl, _, _, _, _, _, rfl, .ty "tuple", .base (.lst hy), kit_ty (a := "list") (r := false) (by decide +kernel), _, rfl, _, _, _, _, _, rfl, .ty "tuple", .base (.lst hx), kit_ty (a := "list") (r := false) (by decide +kernel), rfl, _, rfl, iteF ⟨_, rfl, _, _, _, _, _, rfl, .ty "list", .base (.lst hy), kit_ty (a := "list") (r := true) (by decide +kernel), _, rfl, _, _, _, _, _, rfl, .ty "list", .base (.lst hx), kit_ty (a := "list") (r := true) (by decide +kernel), rfl, _, rfl, iteF ⟨_, rfl, _, _, rfl, .inl (SqL.of hx), _, rfl, _, _, rfl, .inl (SqL.of hy), rfl, _, rfl, ?_⟩⟩⟩⟩⟩
            have el : decide (V.int (xs.length : Int) = V.int (ys.length : Int)) = true := decide_eq_true (by rw [lx, ly])
            rw [el]
            refine ⟨_, rfl, _, _, rfl, .inl (SqL.of hy), _, rfl, by omega, by omega, for_range (n := (ys.length : Int).toNat) (fun _ σ H' => H' = H ∧ ∃ z : Option V, σ = [some (.ref a), some (.ref b), z]) ⟨rfl, _, rfl⟩ ?_ ?_⟩
            · rintro i σ H' hi ⟨rfl, z, rfl⟩
              have hi' : i < ds.length := by omega
              have e0 : (0 : Int) + (i : Int) = (i : Int) := Int.zero_add _
              have g1 : xs[i]? = some xs[i] := List.getElem?_eq_getElem (by omega)
              have g2 : ys[i]? = some ys[i] := List.getElem?_eq_getElem (by omega)
              have g3 : ds[i]? = some ds[i] := List.getElem?_eq_getElem hi'
              rw [e0]
              refine ⟨_, rfl, _, rfl, .inl ⟨_, _, _, _, rfl, rfl, SqL.of hx, atI_nat g1, _, rfl, _, rfl, .inl ⟨_, _, _, _, rfl, rfl, SqL.of hy, atI_nat g2, ?_⟩⟩⟩
              exact ⟨_, _, ds[i], rfl, rx i _ _ g1 g3, ry i _ _ g2 g3, hall _ (List.getElem_mem hi'), _, rfl, rfl, _, rfl⟩
            · rintro σ H' ⟨rfl, z, rfl⟩
              exact q
theorem ok_law_same (D : Dfd K mg "_law_same" s_law_same ["actual", "due"]) (T : TxtS mg) (n : Nat) : Has P w K mg base n "_law_same" ["actual", "due"] (spSame n) := by
  obtain ⟨f, fd, F, g, b⟩ := D
  exact ⟨f, fd, fn_law_same F g b T n, g, F.kp, b⟩
end
/-! ## data made of flat lists -/
theorem rep_map {H : Hp} {α : Type} {f : α → V} {g : α → D} {l : List α} (h : ∀ x, Rep H (f x) (g x)) : (l.map f).length = (l.map g).length ∧ ∀ (i : Nat) (x : V) (d : D), (l.map f)[i]? = some x → (l.map g)[i]? = some d → Rep H x d := by
  refine ⟨by rw [List.length_map, List.length_map], fun i x d hx hd => ?_⟩
  rw [List.getElem?_map] at hx hd
  cases e : l[i]? with
  | none => rw [e] at hx; cases hx
  | some y =>
    rw [e] at hx hd
    have e1 : f y = x := Option.some.inj hx
    have e2 : g y = d := Option.some.inj hd
    rw [← e1, ← e2]
    exact h y
theorem rep_ints {H : Hp} {a : Addr} {l : List Int} (h : H a = some (.lst (l.map V.int))) : Rep H (.ref a) (.lst (l.map D.int)) :=
  let r := rep_map (H := H) (f := V.int) (g := D.int) (l := l) fun i => .int i
  .lst h r.1 r.2
theorem rep_bls {H : Hp} {a : Addr} {l : List Bool} (h : H a = some (.tup (l.map V.bl))) : Rep H (.ref a) (.tup (l.map D.bl)) :=
  let r := rep_map (H := H) (f := V.bl) (g := D.bl) (l := l) fun i => .bl i
  .tup h r.1 r.2
theorem okD_ints {l : List Int} (h : l.length < 2 ^ 61) : okD 1 (.lst (l.map D.int)) := ⟨by rw [List.length_map]; exact h, fun d hd => by obtain ⟨_, _, rfl⟩ := List.mem_map.mp hd; trivial⟩
end G
namespace G
open PySem PySem.Spec PyProof.Rows L2 Evl
def bitsOf (x m : Nat) : List Bool := (List.range m).map fun k => x.testBit k
theorem bitsOf_len (x m : Nat) : (bitsOf x m).length = m := by unfold bitsOf; rw [List.length_map, List.length_range]
theorem bitsOf_succ (x m : Nat) : bitsOf x (m + 1) = bitsOf x m ++ [x.testBit m] := by unfold bitsOf; rw [List.range_succ, List.map_append]; rfl
theorem bit_at (x i : Nat) : decide (V.int (((x / 2 ^ i : Nat) : Int) % 2) = V.int 1) = x.testBit i := by
  rw [Nat.testBit_eq_decide_div_mod_eq, Bool.eq_iff_iff, decide_eq_true_iff, decide_eq_true_iff, V.int.injEq]
  omega
theorem half_at (x i : Nat) : ((x / 2 ^ i : Nat) : Int) / 2 = ((x / 2 ^ (i + 1) : Nat) : Int) := by
  rw [Nat.pow_succ, ← Nat.div_div_eq_div_mul]
  omega
section
variable {P : Program} {w : World} {K : PySem.W.Frag} {mg : Str → Option Value} {base : Heap}
def spBits : Sp := fun vs H Q _ => ∃ (x m : Nat), vs = [.int x, .int m] ∧ m ≤ 1000 ∧ ∀ (t : Addr) (H' : Hp), H t = none → Ex H H' → H' t = some (.tup ((bitsOf x m).map V.bl)) → Q (.ref t) H'
theorem sc_law_bits : FnScope ["index", "many", "out", "k"] ["index", "many"] (defScope s_law_bits) := ⟨rfl, rfl, rfl, by decide +kernel, rfl, by decide +kernel, by decide +kernel⟩
theorem ok_law_bits (D : Dfd K mg "_law_bits" s_law_bits ["index", "many"]) (T : TxtS mg) : Has P w K mg base 1 "_law_bits" ["index", "many"] spBits := by
  refine D.has fun f fd F => F.ok sc_law_bits (fun vs H Q E h => ?_) (fun cdv A outer s H vs Q E hr h => ?_)
  · obtain ⟨c, _, rfl, _⟩ := h
    rfl
  · obtain ⟨x, m, rfl, hm, q⟩ := h
    refine ⟨_, (pss_cons (ps_set (i := 2) sc_law_bits.nd rfl (.inl rfl) (pe_lst pa_nil))
    (pss_cons (ps_for PassesOwn.never rfl (pi_range1 rfl T.range (pa_cons (pv 1) pa_nil)) (pg_name (i := 3) sc_law_bits.nd rfl (.inl rfl))
      (pss_cons (ps_expr (pe_bm PySem.F.plainAttrs_list PySem.F.slot_list_append PySem.F.type_list_append mt_append (pv 2) (pa_cons (pe_cmpR op_eq (pe_op op_mod (pe_callTy call_int1 (by rfl) T.int (by decide +kernel) (pa_cons (pv 0) pa_nil)) pe_int) pe_int (nomark _)) pa_nil)))
      (pss_one (ps_set (i := 0) sc_law_bits.nd rfl (.inl rfl) (pe_op op_fdiv (pv 0) pe_int)))))
    (pss_one (ps_ret (pe_callTy call_tuple_of (by rfl) T.tuple (by decide +kernel) (pa_cons (pv 2) pa_nil)))))), ?_⟩
    refine ⟨Nat.zero_le _, fun o no => ⟨_, rfl, _, rfl, by omega, by omega, for_range (n := ((m : Int)).toNat) (fun i σ H' => H' = upd H o (.lst ((bitsOf x i).map V.bl)) ∧ ∃ z : Option V, σ = [some (.int ((x / 2 ^ i : Nat) : Int)), some (.int m), some (.ref o), z]) ⟨rfl, _, by rw [Nat.pow_zero, Nat.div_one]; rfl⟩ ?_ ?_⟩⟩
    · rintro i σ H' hi ⟨rfl, z, rfl⟩
      refine ⟨_, rfl, .inl ⟨rfl, _, SqL.of upd_same⟩, _, rfl, .inl ⟨_, rfl, _, _, rfl, rfl, (by show (0 : Int) < 2; decide), rfl, o, _, _, rfl, rfl, upd_same, ?_, _, rfl, _, _, rfl, rfl, ⟨by decide, by decide⟩, ?_, some (.int (0 + (i : Int))), ?_⟩⟩
      · exact sz_lt (by rw [List.length_map, bitsOf_len]; omega)
      · rw [upd_upd, bit_at, bitsOf_succ, List.map_append]; rfl
      · rw [← half_at]; rfl
    · rintro σ H' ⟨rfl, z, rfl⟩
      refine ⟨_, rfl, _, _, rfl, .inl ⟨SqL.of upd_same, fun t nt => ?_⟩⟩
      have e1 : Ex H (upd H o (.lst ((bitsOf x ((m : Int)).toNat).map V.bl))) := Ex.new no
      exact q t _ (fresh_back e1 nt) (e1.trans (Ex.new nt)) upd_same
end
end G
namespace G
open PySem PySem.Spec PyProof.Rows L2 Evl
theorem pow7 : ∀ {m : Nat}, m ≤ 6 → ([.int 1, .int 2, .int 4, .int 8, .int 16, .int 32, .int 64] : List V)[m]? = some (.int ((2 ^ m : Nat) : Int))
  | 0, _ => rfl | 1, _ => rfl | 2, _ => rfl | 3, _ => rfl | 4, _ => rfl | 5, _ => rfl | 6, _ => rfl
  | n + 7, h => by omega
theorem pow6 : ∀ {m : Nat}, m ≤ 5 → ([.int 1, .int 2, .int 4, .int 8, .int 16, .int 32] : List V)[m]? = some (.int ((2 ^ m : Nat) : Int))
  | 0, _ => rfl | 1, _ => rfl | 2, _ => rfl | 3, _ => rfl | 4, _ => rfl | 5, _ => rfl
  | n + 6, h => by omega
theorem pow_le64 {m : Nat} (h : m ≤ 6) : 2 ^ m ≤ 64 := Nat.le_trans (Nat.pow_le_pow_right (by decide) h) (by decide)
theorem pow_pos2 (m : Nat) : 0 < 2 ^ m := Nat.pow_pos (by decide)
theorem divW_small {i : Int} {j : Nat} (h : 0 < j) (h9 : j ≤ 1000) : CDivW i (j : Int) := wide_div (b := 20) (by omega) (by
  rw [Int.natAbs_natCast]
  exact Nat.lt_of_le_of_lt h9 (by decide)) (by decide) (by decide)
section
variable {P : Program} {w : World} {K : PySem.W.Frag} {mg : Str → Option Value} {base : Heap}
/-- a table of m inputs -/
def spTable : Sp := fun vs H Q _ => ∃ (p a : Addr) (m : Nat), vs = [.ref p, .int m] ∧ m ≤ 6 ∧ PoolOk p a H ∧ ∀ (t : Addr) (bs : List Bool) (H' : Hp), bs.length = 2 ^ m → Px p a H H' → H t = none → H' t = some (.tup (bs.map V.bl)) → Q (.ref t) H'
theorem sc_law_table : FnScope ["pool", "many", "size", "kind", "value", "low", "place", "number", "bit", "k"] ["pool", "many"] (defScope s_law_table) := ⟨rfl, rfl, rfl, by decide +kernel, rfl, by decide +kernel, by decide +kernel⟩
theorem ok_law_table (D : Dfd K mg "_law_table" s_law_table ["pool", "many"]) (T : TxtS mg) (C : Has P w K mg base 2 "_law_draw" ["pool", "many"] spDrawX) (C2 : Has P w K mg base 1 "_law_bits" ["index", "many"] spBits) : Has P w K mg base 3 "_law_table" ["pool", "many"] spTable := by
  obtain ⟨f_law_draw, d_law_draw, G_law_draw, g_law_draw, k_law_draw, b_law_draw⟩ := C
  obtain ⟨f_law_bits, d_law_bits, G_law_bits, g_law_bits, k_law_bits, b_law_bits⟩ := C2
  refine D.has fun f fd F => F.ok sc_law_table (fun vs H Q E h => ?_) (fun cdv A outer s H vs Q E hr h => ?_)
  · obtain ⟨c, _, _, rfl, _⟩ := h
    rfl
  · obtain ⟨p, a, m, rfl, hm, hp, q⟩ := h
    have h64 := pow_le64 hm
    have hpos := pow_pos2 m
    refine ⟨_, (pss_cons (ps_set (i := 2) sc_law_table.nd rfl (.inl rfl) (pe_ix ix_list (pe_lst (pa_cons pe_int (pa_cons pe_int (pa_cons pe_int (pa_cons pe_int (pa_cons pe_int (pa_cons pe_int (pa_cons pe_int pa_nil)))))))) (pv 1) (fun _ _ => rfl)))
    (pss_cons (ps_set (i := 3) sc_law_table.nd rfl (.inl rfl) (pe_call G_law_draw hr (by rfl) g_law_draw k_law_draw b_law_draw .nil pass0 (pa_cons (pv 0) (pa_cons pe_int pa_nil))))
    (pss_cons (ps_if (pt_cmpR op_eq (pv 3) pe_int (nomark _))
      (pss_cons (ps_set (i := 4) sc_law_table.nd rfl (.inr rfl) (pe_cmpR op_eq (pe_call G_law_draw hr (by rfl) g_law_draw k_law_draw b_law_draw .nil pass0 (pa_cons (pv 0) (pa_cons pe_int pa_nil))) pe_int (nomark _)))
      (pss_one (ps_ret (pe_callTy call_tuple_of (by rfl) T.tuple (by decide +kernel) (pa_cons (pe_lc (own := [("k", 9)]) (g := gName 9) (tt := tYes) rfl sc_law_table.nd (pi_range1 rfl T.range (pa_cons (pv 2) pa_nil)) (blkOk_by (N := ["pool", "many", "size", "kind", "value", "low", "place", "number", "bit", "k"]) (sc := defScope s_law_table) (own := [("k", 9)]) (by decide +kernel)) (fun _ _ _ _ _ => (pg_name (i := 9) sc_law_table.nd rfl (.inl rfl))) (fun _ _ _ _ _ => pts_nil) (fun _ _ _ _ _ => (pv 4))) pa_nil)))))
      pss_nil)
    (pss_cut (ps_if (PW.pt (pw_and (pt_cmpR op_eq (pv 3) pe_int (nomark _)) (pw_and1 (pt_cmpR op_gt (pv 1) pe_int (nomark _)))))
      (pss_cons (ps_set (i := 5) sc_law_table.nd rfl (.inr rfl) (pe_ix ix_list (pe_lst (pa_cons pe_int (pa_cons pe_int (pa_cons pe_int (pa_cons pe_int (pa_cons pe_int (pa_cons pe_int pa_nil))))))) (pe_call G_law_draw hr (by rfl) g_law_draw k_law_draw b_law_draw .nil pass0 (pa_cons (pv 0) (pa_cons (pv 1) pa_nil))) (fun _ _ => rfl)))
      (pss_one (ps_ret (pe_callTy call_tuple_of (by rfl) T.tuple (by decide +kernel) (pa_cons (pe_lc (own := [("k", 9)]) (g := gName 9) (tt := tYes) rfl sc_law_table.nd (pi_range1 rfl T.range (pa_cons (pv 2) pa_nil)) (blkOk_by (N := ["pool", "many", "size", "kind", "value", "low", "place", "number", "bit", "k"]) (sc := defScope s_law_table) (own := [("k", 9)]) (by decide +kernel)) (fun _ _ _ _ _ => (pg_name (i := 9) sc_law_table.nd rfl (.inl rfl))) (fun _ _ _ _ _ => pts_nil) (fun _ _ _ _ _ => (pe_cmpR op_eq (pe_op op_mod (pe_callTy call_int1 (by rfl) T.int (by decide +kernel) (pa_cons (pe_op op_fdivW (pv 9) (pv 5)) pa_nil)) pe_int) pe_int (nomark _)))) pa_nil)))))
      pss_nil)
    (pss_cons (ps_if (pt_cmpR op_eq (pv 3) pe_int (nomark _))
      (pss_cons (ps_set (i := 6) sc_law_table.nd rfl (.inr rfl) (pe_call G_law_draw hr (by rfl) g_law_draw k_law_draw b_law_draw .nil pass0 (pa_cons (pv 0) (pa_cons (pv 2) pa_nil))))
      (pss_one (ps_ret (pe_callTy call_tuple_of (by rfl) T.tuple (by decide +kernel) (pa_cons (pe_lc (own := [("k", 9)]) (g := gName 9) (tt := tYes) rfl sc_law_table.nd (pi_range1 rfl T.range (pa_cons (pv 2) pa_nil)) (blkOk_by (N := ["pool", "many", "size", "kind", "value", "low", "place", "number", "bit", "k"]) (sc := defScope s_law_table) (own := [("k", 9)]) (by decide +kernel)) (fun _ _ _ _ _ => (pg_name (i := 9) sc_law_table.nd rfl (.inl rfl))) (fun _ _ _ _ _ => pts_nil) (fun _ _ _ _ _ => (pe_cmpR op_eq (pv 9) (pv 6) (nomark _)))) pa_nil)))))
      pss_nil)
    (pss_cons (ps_set (i := 7) sc_law_table.nd rfl (.inl rfl) (pe_call G_law_draw hr (by rfl) g_law_draw k_law_draw b_law_draw .nil pass0 (pa_cons (pv 0) (pa_cons (pe_op op_pow pe_int pe_int) pa_nil))))
    (pss_one (ps_ret (pe_callTy call_tuple_of (by rfl) T.tuple (by decide +kernel) (pa_cons (pe_lc (own := [("bit", 8)]) (g := gName 8) (tt := tYes) rfl sc_law_table.nd (pi_tup (pe_call G_law_bits (hr.mono (by decide)) (by rfl) g_law_bits k_law_bits b_law_bits .nil pass0 (pa_cons (pv 7) (pa_cons (pv 2) pa_nil)))) (blkOk_by (N := ["pool", "many", "size", "kind", "value", "low", "place", "number", "bit", "k"]) (sc := defScope s_law_table) (own := [("bit", 8)]) (by decide +kernel)) (fun _ _ _ _ _ => (pg_name (i := 8) sc_law_table.nd rfl (.inl rfl))) (fun _ _ _ _ _ => pts_nil) (fun _ _ _ _ _ => (pv 8))) pa_nil)))))))))), ?_⟩
    refine ⟨(by show 7 ≤ sizeLine; decide), fun l nl => ⟨_, rfl, _, _, _, _, rfl, rfl, SqL.of upd_same, atI_nat (pow7 hm), ?_⟩⟩
    have X1 : Px p a H (upd H l (.lst [.int 1, .int 2, .int 4, .int 8, .int 16, .int 32, .int 64])) := (Px.refl hp).new nl
    refine ⟨_, rfl, p, a, 6, rfl, by decide, by decide, X1.pool, fun kind H2 hk X2 _ => ?_⟩
    have Y2 := X1.trans X2
    refine ⟨_, rfl, rfl, _, rfl, ite2 (fun e => ?_) (fun e => ?_)⟩
    · refine ⟨_, rfl, p, a, 2, rfl, by decide, by decide, Y2.pool, fun v H3 hv X3 _ => ⟨rfl, ?_⟩⟩
      have Y3 := Y2.trans X3
      refine ⟨_, rfl, _, rfl, by omega, by omega, fun L nL => lcRv (fun _ => .bl (decide (V.int v = V.int 1))) (by omega) (fun _ => rfl) (fun i H4 _ _ Q q => ⟨_, rfl, q⟩) ⟨_, _, rfl, .inl ⟨SqL.of upd_same, fun t nt => ?_⟩⟩⟩
      exact q t ((List.range ((2 ^ m : Nat) : Int).toNat).map fun _ => decide (V.int v = V.int 1)) _ (by rw [List.length_map, List.length_range]; omega) ((Y3.new nL).new nt) ((Y3.new nL).free nt) (by rw [upd_same, List.map_map]; rfl)
    · refine ⟨fun σ H' => σ = [some (.ref p), some (.int m), some (.int ((2 ^ m : Nat) : Int)), some (.int kind), none, none, none, none, none, none] ∧ H' = H2, ?_, ?_⟩
      · refine ⟨_, rfl, rfl, _, rfl, ite2 (fun e1 => ?_) (fun e1 => iteF ⟨rfl, rfl⟩)⟩
        refine ⟨_, rfl, _, _, rfl, rfl, _, rfl, ite2 (fun e2 => ?_) (fun e2 => ⟨rfl, rfl⟩)⟩
        have hm0 : 0 < m := by have := of_decide_eq_true e2; omega
        refine ⟨(by show 6 ≤ sizeLine; decide), fun l2 nl2 => ⟨_, rfl, _, rfl, p, a, m, rfl, by omega, by omega, (Y2.new nl2).pool, fun v H3 hv X3 hk3 => ?_⟩⟩
        have Y3 := (Y2.new nl2).trans X3
        have h2 : H3 l2 = some (.lst [.int 1, .int 2, .int 4, .int 8, .int 16, .int 32]) := by rw [hk3 _ (Y2.pool.ne nl2)]; exact upd_same
        refine ⟨_, _, _, _, rfl, rfl, SqL.of h2, atI_nat (pow6 (by omega)), ?_⟩
        refine ⟨_, rfl, _, rfl, by omega, by omega, fun L nL => lcRv (fun (i : Nat) => .bl (decide (V.int ((0 + (i : Int)) / ((2 ^ v : Nat) : Int) % 2) = V.int 1))) (by omega) (fun _ => rfl) (fun i H4 _ _ Q q => ⟨_, rfl, _, rfl, _, _, rfl, rfl, divW_small (pow_pos2 v) (Nat.le_trans (pow_le64 (by omega)) (by decide)), .inl ⟨_, rfl, _, _, rfl, rfl, (by show (0 : Int) < 2; decide), rfl, q⟩⟩) ⟨_, _, rfl, .inl ⟨SqL.of upd_same, fun t nt => ?_⟩⟩⟩
        exact q t ((List.range ((2 ^ m : Nat) : Int).toNat).map fun (i : Nat) => decide (V.int ((0 + (i : Int)) / ((2 ^ v : Nat) : Int) % 2) = V.int 1)) _ (by rw [List.length_map, List.length_range]; omega) ((Y3.new nL).new nt) ((Y3.new nL).free nt) (by rw [upd_same, List.map_map]; rfl)
      · rintro σ H' ⟨rfl, rfl⟩
        refine ⟨_, rfl, rfl, _, rfl, ite2 (fun e1 => ?_) (fun e1 => ?_)⟩
        · refine ⟨_, rfl, _, rfl, p, a, ((2 ^ m : Nat) : Int), rfl, by omega, by omega, Y2.pool, fun v H3 hv X3 _ => ?_⟩
          have Y3 := Y2.trans X3
          refine ⟨_, rfl, _, rfl, by omega, by omega, fun L nL => lcRv (fun (i : Nat) => .bl (decide (V.int (0 + (i : Int)) = V.int v))) (by omega) (fun _ => rfl) (fun i H4 _ _ Q q => ⟨_, rfl, _, rfl, rfl, q⟩) ⟨_, _, rfl, .inl ⟨SqL.of upd_same, fun t nt => ?_⟩⟩⟩
          exact q t ((List.range ((2 ^ m : Nat) : Int).toNat).map fun (i : Nat) => decide (V.int (0 + (i : Int)) = V.int v)) _ (by rw [List.length_map, List.length_range]; omega) ((Y3.new nL).new nt) ((Y3.new nL).free nt) (by rw [upd_same, List.map_map]; rfl)
        · refine ⟨_, rfl, _, _, rfl, rfl, ⟨by decide, by decide, by decide⟩, p, a, _, rfl, by decide, by decide, Y2.pool, fun v H3 hv X3 _ => ?_⟩
          have Y3 := Y2.trans X3
          refine ⟨_, rfl, _, rfl, v, 2 ^ m, rfl, by omega, fun t1 H4 n1 E1 h1 => ⟨t1, rfl, ⟨_, SqT.of h1⟩, fun L nL => lcTm (xs := (bitsOf v (2 ^ m)).map V.bl) id (SqT.of h1) nL (by rw [List.length_map, bitsOf_len]; omega) (fun _ => rfl) (fun i x H4 _ _ Q q => ⟨_, rfl, q⟩) ⟨_, _, rfl, .inl ⟨SqL.of upd_same, fun t nt => ?_⟩⟩⟩⟩
          have Y4 := Y3.more E1
          exact q t (bitsOf v (2 ^ m)) _ (bitsOf_len _ _) ((Y4.new nL).new nt) ((Y4.new nL).free nt) (by rw [upd_same, List.map_id])
end
end G
namespace G
open PySem PySem.Spec PyProof.Rows L2 Evl
theorem tYes_in {σ : L2.St} {H : Hp} {A B : Hp → Prop} (h : A H) : tYes σ H (fun b H3 => if b = true then A H3 else B H3) := by
  show if true = true then A H else B H
  exact iteT h
def tabV (bs : List Bool) : HO := .tup (bs.map V.bl)
theorem inV_ints {k : Int} {l : List Int} : inV (.int k) (l.map V.int) = l.contains k := by
  unfold inV
  rw [List.any_map, List.contains_eq_any_beq]
  congr 1
  funext y
  show (y == k) = (k == y)
  rw [Bool.eq_iff_iff]; simp; exact eq_comm
theorem inV_bls {k : Bool} {l : List Bool} : inV (.bl k) (l.map V.bl) = l.contains k := by
  unfold inV
  rw [List.any_map, List.contains_eq_any_beq]
  congr 1
  funext y
  show (y == k) = (k == y)
  cases y <;> cases k <;> rfl
theorem flat_map {α : Type} {f : α → V} (h : ∀ x, flatV (f x) = true) (l : List α) : (l.map f).all flatV = true := by
  rw [List.all_map]
  exact List.all_eq_true.mpr fun x _ => h x
end G
namespace G
open PySem PySem.Spec PyProof.Rows L2 Evl
theorem bits_pow (m : Nat) : PySem.Builtin.Int.intBits ((2 ^ m : Nat) : Int) = m + 1 := by
  unfold PySem.Builtin.Int.intBits
  have hp : 0 < 2 ^ m := Nat.pow_pos (by decide)
  rw [if_neg (by intro e; have := eq_of_beq e; omega), Int.natAbs_natCast, Nat.log2_two_pow]
structure TxtI (mg : Str → Option Value) : Prop where
  len : mg "len" = none
section
variable {P : Program} {w : World} {K : PySem.W.Frag} {mg : Str → Option Value} {base : Heap}
def spInputs : Sp := fun vs H Q _ => ∃ (t : Addr) (bs : List Bool) (m : Nat), vs = [.ref t] ∧ H t = some (tabV bs) ∧ bs.length = 2 ^ m ∧ Q (.int m) H
theorem sc_inputs_of : FnScope ["table"] ["table"] (defScope s_inputs_of) := ⟨rfl, rfl, rfl, by decide +kernel, rfl, by decide +kernel, by decide +kernel⟩
theorem ok_inputs_of (D : Dfd K mg "inputs_of" s_inputs_of ["table"]) (T : TxtI mg) : Has P w K mg base 1 "inputs_of" ["table"] spInputs := by
  refine D.has fun f fd F => F.ok sc_inputs_of (fun vs H Q E h => ?_) (fun cdv A outer s H vs Q E hr h => ?_)
  · obtain ⟨t, bs, m, rfl, _⟩ := h
    rfl
  · obtain ⟨t, bs, m, rfl, ht, hl, q⟩ := h
    refine ⟨_, (pss_one (ps_ret (pe_op op_sub (pe_bits (pe_callB call_len_seq (by rfl) T.len (by decide +kernel) (pa_cons (pv 0) pa_nil))) pe_int))), ?_⟩
    refine ⟨_, rfl, _, _, rfl, .inr (SqT.of ht), _, rfl, _, _, rfl, rfl, ?_⟩
    have e : ((Builtin.Int.intBits (((bs.map V.bl).length : Nat) : Int) : Nat) : Int) - 1 = (m : Int) := by
      rw [List.length_map, hl, bits_pow]; omega
    show Q (.int _) H
    rw [e]
    exact q
end
end G
namespace G
open PySem PySem.Spec PyProof.Rows L2 Evl
structure TxtP (mg : Str → Option Value) : Prop where
  len : mg "len" = none
  range : mg "range" = none
  any : mg "any" = none
  enumerate : mg "enumerate" = none
theorem tb_at {bs : List Bool} {r : Nat} (h : r < bs.length) : (bs.map V.bl)[r]? = some (.bl (tb bs r)) := by
  rw [List.getElem?_map, List.getElem?_eq_getElem h]
  unfold tb
  rw [List.getD_eq_getElem?_getD, List.getElem?_eq_getElem h]
  rfl
section
variable {P : Program} {w : World} {K : PySem.W.Frag} {mg : Str → Option Value} {base : Heap}
def spChanges : Sp := fun vs H Q _ => ∃ (t : Addr) (bs : List Bool) (m k : Nat), vs = [.ref t, .int k] ∧ H t = some (tabV bs) ∧ bs.length = 2 ^ m ∧ k < m ∧ m ≤ 10 ∧ ∀ H', Ex H H' → Q (.bl (flips bs k)) H'
theorem sc_changes_with : FnScope ["table", "k", "row", "value"] ["table", "k"] (defScope s_changes_with) := ⟨rfl, rfl, rfl, by decide +kernel, rfl, by decide +kernel, by decide +kernel⟩
theorem ok_changes_with (D : Dfd K mg "_changes_with" s_changes_with ["table", "k"]) (T : TxtP mg) : Has P w K mg base 1 "_changes_with" ["table", "k"] spChanges := by
  refine D.has fun f fd F => F.ok sc_changes_with (fun vs H Q E h => ?_) (fun cdv A outer s H vs Q E hr h => ?_)
  · obtain ⟨t, bs, m, k, rfl, _⟩ := h
    rfl
  · obtain ⟨t, bs, m, k, rfl, ht, hl, hk, hm, q⟩ := h
    have hle : bs.length ≤ 1024 := by rw [hl]; exact Nat.le_trans (Nat.pow_le_pow_right (by decide) hm) (by decide)
    refine ⟨_, (pss_one (ps_ret (pe_callB (cr_any rfl) (by rfl) T.any (by decide +kernel) (pa_cons (pe_lc (own := [("row", 2), ("value", 3)]) (g := gTup K 2 (gCons (gName 2) (gCons (gName 3) gNil))) (tt := tYes) rfl sc_changes_with.nd (pi_enumT (by rfl) T.enumerate (pa_cons (pv 0) pa_nil)) (blkOk_by (N := ["table", "k", "row", "value"]) (sc := defScope s_changes_with) (own := [("row", 2), ("value", 3)]) (by decide +kernel)) (fun _ _ _ _ _ => (pg_tup rfl (pgs_cons (pg_name (i := 2) sc_changes_with.nd rfl (.inl rfl)) (pgs_cons (pg_name (i := 3) sc_changes_with.nd rfl (.inl rfl)) pgs_nil)))) (fun _ _ _ _ _ => pts_nil) (fun _ _ _ _ _ => (pe_cmpR op_ne (pv 3) (pe_ix (kIxT (K := K) rfl) (pv 0) (pe_op op_xor (pv 2) (pe_op op_shl pe_int (pv 1))) (fun _ _ => rfl)) (nomark _)))) pa_nil)))), ?_⟩
    refine ⟨_, rfl, t, _, rfl, SqT.of ht, fun L nL => lc_it walk_enumT (fun i H' => Ex H H' ∧ H' L = some (.lst (((List.range i).map fun r => tb bs r != tb bs (r ^^^ 2 ^ k)).map V.bl))) ⟨Ex.new nL, upd_same⟩ (fun i H' _ h => ex_t h.1 (SqT.of ht)) ?_ ?_⟩
    · rintro i x H1 H2 hi ⟨e1, hL⟩ ⟨A1, x0, y0, rfl, nA, rfl, hx, hy⟩
      have hi' : i < bs.length := by rw [List.length_map] at hi; exact hi
      cases hx
      have ey : y0 = .bl (tb bs i) := Option.some.inj (hy.symm.trans (tb_at hi'))
      subst ey
      have e2 : Ex H (upd H1 A1 (.tup [.int i, .bl (tb bs i)])) := e1.trans (Ex.new nA)
      have hxor : i ^^^ 2 ^ k < bs.length := by rw [hl] at hi' ⊢; exact xor_lt hi' hk
      have ex : Builtin.bitXor (i : Int) (1 * 2 ^ ((k : Nat) : Int).toNat) = ((i ^^^ 2 ^ k : Nat) : Int) := by
        have e0 : (1 * 2 ^ ((k : Nat) : Int).toNat : Int) = ((2 ^ k : Nat) : Int) := by
          rw [Int.toNat_natCast, Int.one_mul, Int.natCast_pow]; rfl
        rw [e0, Bits.bitXor_pp (Int.natCast_nonneg _) (Int.natCast_nonneg _), Int.toNat_natCast, Int.toNat_natCast]
      have nLA : L ≠ A1 := ne_of_none hL nA
      refine ⟨A1, _, rfl, SqT.of upd_same, rfl, _, _, rfl, _, _, rfl, rfl, rfl, tYes_in ?_⟩
      refine ⟨_, rfl, _, rfl, _, rfl, _, rfl, _, _, rfl, rfl, ⟨by omega, by omega, by decide⟩, _, _, rfl, rfl, _, _, _, _, rfl, rfl, SqT.of (e2 _ _ ht), at_of ex (tb_at hxor), rfl, _, (upd_ne nLA).trans hL, sz_lt (by rw [List.length_map, List.length_map, List.length_range]; omega), Ex.mut e2 nL, ?_⟩
      rw [upd_same, List.range_succ, List.map_append, List.map_append]
      have eb : (!decide (V.bl (tb bs i) = V.bl (tb bs (i ^^^ 2 ^ k)))) = (tb bs i != tb bs (i ^^^ 2 ^ k)) := by
        cases tb bs i <;> cases tb bs (i ^^^ 2 ^ k) <;> rfl
      rw [eb]; rfl
    · rintro H1 ⟨e1, hL⟩
      refine ⟨_, _, rfl, SqL.of hL, ?_⟩
      have eq : ((List.range (bs.map V.bl).length).map fun r => tb bs r != tb bs (r ^^^ 2 ^ k)).any id = flips bs k := by
        rw [List.any_map, List.length_map]; rfl
      show Q (.bl _) H1
      rw [eq]
      exact q H1 e1
def depL (bs : List Bool) (m : Nat) : List Int := ((List.range m).filter (flips bs)).map fun (k : Nat) => (k : Int)
theorem depL_len (bs : List Bool) (m : Nat) : (depL bs m).length ≤ m := by
  unfold depL; rw [List.length_map]
  have := List.length_filter_le (flips bs) (List.range m)
  rw [List.length_range] at this; exact this
def spDepends : Sp := fun vs H Q _ => ∃ (t : Addr) (bs : List Bool) (m : Nat), vs = [.ref t] ∧ H t = some (tabV bs) ∧ bs.length = 2 ^ m ∧ m ≤ 10 ∧ ∀ p H', H p = none → Ex H H' → H' p = some (.lst ((depL bs m).map V.int)) → Q (.ref p) H'
theorem sc_depends_on : FnScope ["table", "k"] ["table"] (defScope s_depends_on) := ⟨rfl, rfl, rfl, by decide +kernel, rfl, by decide +kernel, by decide +kernel⟩
theorem ok_depends_on (D : Dfd K mg "depends_on" s_depends_on ["table"]) (T : TxtP mg) (C1 : Has P w K mg base 1 "inputs_of" ["table"] spInputs) (C2 : Has P w K mg base 1 "_changes_with" ["table", "k"] spChanges) : Has P w K mg base 2 "depends_on" ["table"] spDepends := by
  obtain ⟨f_inputs_of, d_inputs_of, G_inputs_of, g_inputs_of, k_inputs_of, b_inputs_of⟩ := C1
  obtain ⟨f_changes_with, d_changes_with, G_changes_with, g_changes_with, k_changes_with, b_changes_with⟩ := C2
  refine D.has fun f fd F => F.ok sc_depends_on (fun vs H Q E h => ?_) (fun cdv A outer s H vs Q E hr h => ?_)
  · obtain ⟨t, bs, m, rfl, _⟩ := h
    rfl
  · obtain ⟨t, bs, m, rfl, ht, hl, hm, q⟩ := h
    refine ⟨_, (pss_one (ps_ret (pe_lc (own := [("k", 1)]) (g := gName 1) (tt := _) rfl sc_depends_on.nd (pi_range1 rfl T.range (pa_cons (pe_call G_inputs_of (hr.mono (by omega)) (by rfl) g_inputs_of k_inputs_of b_inputs_of .nil pass0 (pa_cons (pv 0) pa_nil)) pa_nil)) (blkOk_by (N := ["table", "k"]) (sc := defScope s_depends_on) (own := [("k", 1)]) (by decide +kernel)) (fun _ _ _ _ _ => (pg_name (i := 1) sc_depends_on.nd rfl (.inl rfl))) (fun _ _ _ _ _ => pts_one (pt_val (pe_call G_changes_with (hr.mono (by omega)) (by rfl) g_changes_with k_changes_with b_changes_with .nil pass0 (pa_cons (pv 0) (pa_cons (pv 1) pa_nil))))) (fun _ _ _ _ _ => (pv 1))))), ?_⟩
    refine s_retL (el_lcR1 (n := (m : Int)) (flips bs) (fun k => .int k) (ea_cons (ev_call (ea_cons (ev_var rfl) ea_nil) fun H1 e1 Q k E => ⟨t, bs, m, rfl, e1 _ _ ht, hl, k H1 (Ex.refl H1)⟩) ea_nil) (by omega) (fun _ => rfl) (fun i H1 e1 hi => et_B (ev_call (ea_cons (ev_var rfl) (ea_cons (ev_var rfl) ea_nil)) fun H2 e2 Q k E => ⟨t, bs, m, i, rfl, e2 _ _ (e1 _ _ ht), hl, by omega, hm, fun H3 e3 => k H3 e3⟩)) (fun i H1 e1 hi _ => ev_var rfl)) ?_
    intro p H1 np e1 h1
    refine q p H1 np e1 ?_
    rw [h1]
    unfold given depL
    rw [List.map_map, Int.toNat_natCast]
    rfl
end
end G
namespace G
open PySem PySem.Spec PyProof.Rows L2 Evl
section
variable {P : Program} {w : World} {K : PySem.W.Frag} {mg : Str → Option Value} {base : Heap}
theorem six_in (m : Nat) : (6 : Nat) ≤ sizeLine := by decide
def spWidened : Sp := fun vs H Q _ => ∃ (t : Addr) (bs : List Bool) (m k : Nat), vs = [.ref t, .int k] ∧ H t = some (tabV bs) ∧ bs.length = 2 ^ m ∧ m ≤ 5 ∧ k ≤ m ∧ ∀ (p : Addr) (H' : Hp), H p = none → Ex H H' → H' p = some (tabV (widened bs k)) → Q (.ref p) H'
theorem sc_law_widened : FnScope ["table", "k", "low", "out", "index"] ["table", "k"] (defScope s_law_widened) := ⟨rfl, rfl, rfl, by decide +kernel, rfl, by decide +kernel, by decide +kernel⟩
theorem ok_law_widened (D : Dfd K mg "_law_widened" s_law_widened ["table", "k"]) (T : TxtS mg) : Has P w K mg base 1 "_law_widened" ["table", "k"] spWidened := by
  refine D.has fun f fd F => F.ok sc_law_widened (fun vs H Q E h => ?_) (fun cdv A outer s H vs Q E hr h => ?_)
  · obtain ⟨t, bs, m, k, rfl, _⟩ := h
    rfl
  · obtain ⟨t, bs, m, k, rfl, ht, hl, hm, hk, q⟩ := h
    have h64 := pow_le64 (m := m) (by omega)
    have hpos := pow_pos2 k
    have hk64 := pow_le64 (m := k) (by omega)
    have hlen : (bs.map V.bl).length = 2 ^ m := by rw [List.length_map, hl]
    refine ⟨_, (pss_cons (ps_set (i := 2) sc_law_widened.nd rfl (.inl rfl) (pe_ix ix_list (pe_lst (pa_cons pe_int (pa_cons pe_int (pa_cons pe_int (pa_cons pe_int (pa_cons pe_int (pa_cons pe_int pa_nil))))))) (pv 1) (fun _ _ => rfl)))
    (pss_cons (ps_set (i := 3) sc_law_widened.nd rfl (.inl rfl) (pe_lst pa_nil))
    (pss_cons (ps_for PassesOwn.never rfl (pi_range1 rfl T.range (pa_cons (pe_op op_mul pe_int (pe_callB call_len_seq (by rfl) T.len (by decide +kernel) (pa_cons (pv 0) pa_nil))) pa_nil)) (pg_name (i := 4) sc_law_widened.nd rfl (.inl rfl))
      (pss_one (ps_expr (pe_bm PySem.F.plainAttrs_list PySem.F.slot_list_append PySem.F.type_list_append mt_append (pv 3) (pa_cons (pe_ix ix_tup (pv 0) (pe_op op_add (pe_op op_mul (pe_op op_fdivW (pv 4) (pe_op op_mul pe_int (pv 2))) (pv 2)) (pe_op op_mod (pe_callTy call_int1 (by rfl) T.int (by decide +kernel) (pa_cons (pv 4) pa_nil)) (pv 2))) (fun _ _ => rfl)) pa_nil)))))
    (pss_one (ps_ret (pe_callTy call_tuple_of (by rfl) T.tuple (by decide +kernel) (pa_cons (pv 3) pa_nil))))))), ?_⟩
    refine ⟨(by show 6 ≤ sizeLine; decide), fun l nl => ⟨_, rfl, _, _, _, _, rfl, rfl, SqL.of upd_same, atI_nat (pow6 (by omega)), Nat.zero_le _, fun o no => ?_⟩⟩
    have e1 : Ex H (upd H l (.lst [.int 1, .int 2, .int 4, .int 8, .int 16, .int 32])) := Ex.new nl
    have no' : H o = none := fresh_back e1 no
    generalize upd H l (.lst [.int 1, .int 2, .int 4, .int 8, .int 16, .int 32]) = H2 at *
    have e2 : Ex H (upd H2 o (.lst [])) := e1.trans (Ex.new no)
    refine ⟨_, rfl, _, _, rfl, .inr (SqT.of (e2 _ _ ht)), _, _, rfl, rfl, .inl ⟨by decide, by decide⟩, _, rfl, by omega, by omega, for_range (n := (2 * (((bs.map V.bl).length : Nat) : Int)).toNat)
      (fun i σ H' => H' = upd H2 o (.lst (((List.range i).map fun r => tb bs (r / (2 * 2 ^ k) * 2 ^ k + r % 2 ^ k)).map V.bl)) ∧ ∃ z : Option V, σ = [some (.ref t), some (.int k), some (.int ((2 ^ k : Nat) : Int)), some (.ref o), z]) ⟨rfl, _, rfl⟩ ?_ ?_⟩
    · rintro i σ H' hi ⟨rfl, z, rfl⟩
      have hi' : i < 2 * 2 ^ m := by omega
      have hlow := low_lt hk hi'
      have ei : (0 + (i : Int)) / (2 * ((2 ^ k : Nat) : Int)) * ((2 ^ k : Nat) : Int) + (0 + (i : Int)) % ((2 ^ k : Nat) : Int) = ((i / (2 * 2 ^ k) * 2 ^ k + i % 2 ^ k : Nat) : Int) := by
        simp only [Int.zero_add]
        norm_cast
      refine ⟨_, rfl, .inl ⟨rfl, _, SqL.of upd_same⟩, _, rfl, _, rfl, _, rfl, _, _, rfl, rfl, .inl ⟨by decide, by decide⟩, _, _, rfl, rfl, ?_, _, rfl, _, _, rfl, rfl, .inr ⟨by omega, by omega⟩, _, rfl, .inl ⟨_, rfl, _, rfl, _, _, rfl, rfl, ?_, _, _, rfl, rfl, _, _, _, _, rfl, rfl, SqT.of ((e1.mut no') _ _ ht), at_of ei (tb_at (by rw [hl]; exact hlow)), o, _, _, rfl, rfl, upd_same, ?_, ?_, _, rfl⟩⟩
      · have e : (2 * ((2 ^ k : Nat) : Int)) = ((2 * 2 ^ k : Nat) : Int) := by omega
        rw [e]
        exact divW_small (by omega) (by omega)
      · show (0 : Int) < ((2 ^ k : Nat) : Int); omega
      · exact sz_lt (by rw [List.length_map, List.length_map, List.length_range]; omega)
      · rw [upd_upd, List.range_succ, List.map_append, List.map_append]; rfl
    · rintro σ H' ⟨rfl, z, rfl⟩
      refine ⟨_, rfl, _, _, rfl, .inl ⟨SqL.of upd_same, fun p np => ?_⟩⟩
      have e3 := e1.mut (o := .lst (((List.range (2 * (((bs.map V.bl).length : Nat) : Int)).toNat).map fun r => tb bs (r / (2 * 2 ^ k) * 2 ^ k + r % 2 ^ k)).map V.bl)) no'
      refine q p _ (fresh_back e3 np) (e3.trans (Ex.new np)) ?_
      have en : (2 * (((bs.map V.bl).length : Nat) : Int)).toNat = 2 * bs.length := by rw [List.length_map]; omega
      rw [upd_same, en]
      rfl
def spDue : Sp := fun vs H Q _ => ∃ (t : Addr) (bs : List Bool) (m : Nat), vs = [.ref t, .int m] ∧ H t = some (tabV bs) ∧ bs.length = 2 ^ m ∧ m ≤ 6 ∧ ∀ (p : Addr) (H' : Hp), H p = none → Ex H H' → H' p = some (.lst ((depL bs m).map V.int)) → Q (.ref p) H'
def dueL (bs : List Bool) (m : Nat) : List Int := ((List.range m).filter (dueFlips bs)).map fun (k : Nat) => (k : Int)
theorem dueL_dep {bs : List Bool} {m : Nat} (hl : bs.length = 2 ^ m) : dueL bs m = depL bs m := by
  unfold dueL depL
  rw [List.filter_congr fun k hk => (flips_due hl (List.mem_range.mp hk)).symm]
theorem dueL_yes {bs : List Bool} {k : Nat} (h : dueFlips bs k = true) : dueL bs (k + 1) = dueL bs k ++ [(k : Int)] := by
  unfold dueL; rw [List.range_succ, List.filter_append, List.map_append]; simp [h]
theorem dueL_no {bs : List Bool} {k : Nat} (h : dueFlips bs k = false) : dueL bs (k + 1) = dueL bs k := by
  unfold dueL; rw [List.range_succ, List.filter_append, List.map_append]; simp [h]
theorem dueL_len (bs : List Bool) (m : Nat) : (dueL bs m).length ≤ m := by
  unfold dueL; rw [List.length_map]
  have := List.length_filter_le (dueFlips bs) (List.range m)
  rw [List.length_range] at this; exact this
theorem sc_law_due : FnScope ["table", "many", "found", "k", "low", "index"] ["table", "many"] (defScope s_law_due) := ⟨rfl, rfl, rfl, by decide +kernel, rfl, by decide +kernel, by decide +kernel⟩
theorem ok_law_due (D : Dfd K mg "_law_due" s_law_due ["table", "many"]) (T : TxtS mg) : Has P w K mg base 1 "_law_due" ["table", "many"] spDue := by
  refine D.has fun f fd F => F.ok sc_law_due (fun vs H Q E h => ?_) (fun cdv A outer s H vs Q E hr h => ?_)
  · obtain ⟨t, bs, m, rfl, _⟩ := h
    rfl
  · obtain ⟨t, bs, m, rfl, ht, hl, hm, q⟩ := h
    have h64 := pow_le64 hm
    have hlen : (bs.map V.bl).length = 2 ^ m := by rw [List.length_map, hl]
    refine ⟨_, (pss_cons (ps_set (i := 2) sc_law_due.nd rfl (.inl rfl) (pe_lst pa_nil))
    (pss_cons (ps_for PassesOwn.never rfl (pi_range1 rfl T.range (pa_cons (pv 1) pa_nil)) (pg_name (i := 3) sc_law_due.nd rfl (.inl rfl))
      (pss_cons (ps_set (i := 4) sc_law_due.nd rfl (.inl rfl) (pe_ix ix_list (pe_lst (pa_cons pe_int (pa_cons pe_int (pa_cons pe_int (pa_cons pe_int (pa_cons pe_int (pa_cons pe_int pa_nil))))))) (pv 3) (fun _ _ => rfl)))
      (pss_one (ps_for PassesOwn.never rfl (pi_range1 rfl T.range (pa_cons (pe_callB call_len_seq (by rfl) T.len (by decide +kernel) (pa_cons (pv 0) pa_nil)) pa_nil)) (pg_name (i := 5) sc_law_due.nd rfl (.inl rfl))
        (pss_one (ps_if (PW.pt (pw_and (pt_cmpR op_eq (pe_op op_mod (pe_callTy call_int1 (by rfl) T.int (by decide +kernel) (pa_cons (pe_op op_fdivW (pv 5) (pv 4)) pa_nil)) pe_int) pe_int (nomark _)) (pw_and1 (pt_cmpR op_ne (pe_ix ix_tup (pv 0) (pv 5) (fun _ _ => rfl)) (pe_ix ix_tup (pv 0) (pe_op op_add (pv 5) (pv 4)) (fun _ _ => rfl)) (nomark _)))))
          (pss_cons (ps_expr (pe_bm PySem.F.plainAttrs_list PySem.F.slot_list_append PySem.F.type_list_append mt_append (pv 2) (pa_cons (pv 3) pa_nil)))
          (pss_one ps_break))
          pss_nil))))))
    (pss_one (ps_ret (pv 2))))), ?_⟩
    refine ⟨Nat.zero_le _, fun o no => ⟨_, rfl, _, rfl, by omega, by omega, for_range (n := ((m : Nat) : Int).toNat)
      (fun i σ H' => Ex H H' ∧ H' o = some (.lst ((dueL bs i).map V.int)) ∧ ∃ (x y z : Option V), σ = [some (.ref t), some (.int m), some (.ref o), x, y, z]) ⟨Ex.new no, upd_same, _, _, _, rfl⟩ ?_ ?_⟩⟩
    · rintro i σ H1 hi ⟨e1, ho, x, y, z, rfl⟩
      have hi' : i < m := by omega
      have e0 : (0 : Int) + (i : Int) = (i : Int) := Int.zero_add _
      rw [e0]
      refine ⟨(by show 6 ≤ sizeLine; decide), fun l nl => ⟨_, rfl, _, _, _, _, rfl, rfl, SqL.of upd_same, atI_nat (pow6 (by omega)), ?_⟩⟩
      have e2 : Ex H (upd H1 l (.lst [.int 1, .int 2, .int 4, .int 8, .int 16, .int 32])) := e1.trans (Ex.new nl)
      have ho2 : upd H1 l (.lst [.int 1, .int 2, .int 4, .int 8, .int 16, .int 32]) o = some (.lst ((dueL bs i).map V.int)) := by rw [upd_ne (ne_of_none ho nl)]; exact ho
      generalize upd H1 l (.lst [.int 1, .int 2, .int 4, .int 8, .int 16, .int 32]) = H2 at *
      have hk64 := pow_le64 (m := i) (by omega)
      have hpos := pow_pos2 i
      refine ⟨_, rfl, _, _, rfl, .inr (SqT.of (e2 _ _ ht)), _, rfl, by omega, by omega, for_range (n := (((bs.map V.bl).length : Nat) : Int).toNat)
        (fun j σ H' => H' = H2 ∧ (∀ r, r < j → (bit0 r i && (tb bs r != tb bs (r + 2 ^ i))) = false) ∧ ∃ z : Option V, σ = [some (.ref t), some (.int m), some (.ref o), some (.int i), some (.int ((2 ^ i : Nat) : Int)), z]) ⟨rfl, fun r hr => by omega, _, rfl⟩ ?_ ?_⟩
      · rintro j σ H' hj ⟨rfl, hno, z, rfl⟩
        have hj' : j < 2 ^ m := by omega
        have j0 : (0 : Int) + (j : Int) = (j : Int) := Int.zero_add _
        rw [j0]
        have eb : decide (V.int ((j : Int) / ((2 ^ i : Nat) : Int) % 2) = V.int 0) = bit0 j i := by
          have : ((j : Int) / ((2 ^ i : Nat) : Int) % 2) = ((j / 2 ^ i % 2 : Nat) : Int) := by norm_cast
          rw [this, Bool.eq_iff_iff, decide_eq_true_iff, V.int.injEq]
          unfold bit0
          rw [decide_eq_true_iff]
          omega
        have next : (bit0 j i && (tb bs j != tb bs (j + 2 ^ i))) = false → ∀ r, r < j + 1 → (bit0 r i && (tb bs r != tb bs (r + 2 ^ i))) = false := fun h r hr => by
          by_cases c : r = j
          · subst c; exact h
          · exact hno r (by omega)
        refine ⟨_, rfl, _, rfl, _, _, rfl, rfl, divW_small hpos (by omega), .inl ⟨_, rfl, _, _, rfl, rfl, (by show (0 : Int) < 2; decide), rfl, _, rfl, ?_⟩⟩
        rw [eb]
        cases hb : bit0 j i with
        | false => exact iteF (iteF ⟨rfl, next (by rw [hb]; rfl), _, rfl⟩)
        | true =>
          have hlt := add_lt hj' hi' hb
          have ej : (j : Int) + ((2 ^ i : Nat) : Int) = ((j + 2 ^ i : Nat) : Int) := by norm_cast
          refine iteT ⟨_, rfl, _, rfl, _, _, _, _, rfl, rfl, SqT.of (e2 _ _ ht), atI_nat (tb_at (by rw [hl]; exact hj')), _, rfl, _, rfl, _, rfl, _, _, rfl, rfl, _, _, _, _, rfl, rfl, SqT.of (e2 _ _ ht), at_of ej (tb_at (by rw [hl]; exact hlt)), rfl, _, rfl, ?_⟩
          have ec : (!decide (V.bl (tb bs j) = V.bl (tb bs (j + 2 ^ i)))) = (tb bs j != tb bs (j + 2 ^ i)) := by
            cases tb bs j <;> cases tb bs (j + 2 ^ i) <;> rfl
          rw [ec]
          cases hc : (tb bs j != tb bs (j + 2 ^ i)) with
          | false => exact iteF ⟨rfl, next (by rw [hb, hc]; rfl), _, rfl⟩
          | true =>
            have hd : dueFlips bs i = true := by
              unfold dueFlips
              rw [List.any_eq_true]
              exact ⟨j, List.mem_range.mpr (by rw [hl]; exact hj'), by rw [hb, hc]; rfl⟩
            refine iteT ⟨_, rfl, .inl ⟨rfl, _, SqL.of ho2⟩, _, rfl, o, _, _, rfl, rfl, ho2, ?_, e2.mut no, ?_, _, _, _, rfl⟩
            · exact sz_lt (by rw [List.length_map]; have := dueL_len bs i; omega)
            · rw [upd_same, dueL_yes hd, List.map_append]; rfl
      · rintro σ H' ⟨rfl, hno, z, rfl⟩
        have hd : dueFlips bs i = false := by
          unfold dueFlips
          rw [List.any_eq_false]
          intro r hr
          have := List.mem_range.mp hr
          rw [hno r (by omega)]
          decide
        exact ⟨e2, by rw [dueL_no hd]; exact ho2, _, _, _, rfl⟩
    · rintro σ H1 ⟨e1, ho, x, y, z, rfl⟩
      refine ⟨_, rfl, q o H1 no e1 ?_⟩
      rw [ho, ← dueL_dep hl, Int.toNat_natCast]
def spLaw (K : PySem.W.Frag) : Sp := fun vs H Q _ => ∃ (a : Addr) (ns : List Int), vs = [.ref a] ∧ SqL K H a (ns.map V.int) ∧ ns.length ≤ 63 ∧ ∀ H', Q (.bl true) H'
theorem sc_law : FnScope ["script", "pool", "turn", "many", "table", "k", "at"] ["script"] (defScope s_law) := ⟨rfl, rfl, rfl, by decide +kernel, rfl, by decide +kernel, by decide +kernel⟩
theorem fn_law {f : Addr} {fd : FuncData} (F : Fun K "law" "law" s_law f fd) (T : TxtS mg) (C1 : Has P w K mg base 1 "_law_pool" ["script"] (spPool K)) (C2 : Has P w K mg base 2 "_law_draw" ["pool", "many"] spDrawX) (C3 : Has P w K mg base 3 "_law_table" ["pool", "many"] spTable)
    (C4 : Has P w K mg base 1 "_law_widened" ["table", "k"] spWidened) (C5 : Has P w K mg base 2 "depends_on" ["table"] spDepends) (C6 : Has P w K mg base 1 "_law_due" ["table", "many"] spDue) (C7 : Has P w K mg base 2 "_law_same" ["actual", "due"] (spSame 2)) :
    FnOk P w K mg base CX0 4 f fd ["script"] (spLaw K) := by
  obtain ⟨f_law_pool, d_law_pool, G_law_pool, g_law_pool, k_law_pool, b_law_pool⟩ := C1
  obtain ⟨f_law_draw, d_law_draw, G_law_draw, g_law_draw, k_law_draw, b_law_draw⟩ := C2
  obtain ⟨f_law_table, d_law_table, G_law_table, g_law_table, k_law_table, b_law_table⟩ := C3
  obtain ⟨f_law_widened, d_law_widened, G_law_widened, g_law_widened, k_law_widened, b_law_widened⟩ := C4
  obtain ⟨f_depends_on, d_depends_on, G_depends_on, g_depends_on, k_depends_on, b_depends_on⟩ := C5
  obtain ⟨f_law_due, d_law_due, G_law_due, g_law_due, k_law_due, b_law_due⟩ := C6
  obtain ⟨f_law_same, d_law_same, G_law_same, g_law_same, k_law_same, b_law_same⟩ := C7
  refine F.ok sc_law (fun vs H Q E h => ?_) (fun cdv A outer s H vs Q E hr h => ?_)
  · obtain ⟨a, ns, rfl, _⟩ := h
    rfl
  · obtain ⟨sa, ns, rfl, hs, hn, q⟩ := h
    refine ⟨_, (pss_cons (ps_set (i := 1) sc_law.nd rfl (.inl rfl) (pe_call G_law_pool (hr.mono (by omega)) (by rfl) g_law_pool k_law_pool b_law_pool .nil pass0 (pa_cons (pv 0) pa_nil)))
    (pss_cons (ps_for PassesOwn.never rfl (pi_range1 rfl T.range (pa_cons pe_int pa_nil)) (pg_name (i := 2) sc_law.nd rfl (.inl rfl))
      (pss_cons (ps_set (i := 3) sc_law.nd rfl (.inl rfl) (pe_call G_law_draw (hr.mono (by omega)) (by rfl) g_law_draw k_law_draw b_law_draw .nil pass0 (pa_cons (pv 1) (pa_cons pe_int pa_nil))))
      (pss_cons (ps_set (i := 4) sc_law.nd rfl (.inl rfl) (pe_call G_law_table (hr.mono (by omega)) (by rfl) g_law_table k_law_table b_law_table .nil pass0 (pa_cons (pv 1) (pa_cons (pv 3) pa_nil))))
      (pss_cons (ps_for PassesOwn.never rfl (pi_range1 rfl T.range (pa_cons (pe_call G_law_draw (hr.mono (by omega)) (by rfl) g_law_draw k_law_draw b_law_draw .nil pass0 (pa_cons (pv 1) (pa_cons pe_int pa_nil))) pa_nil)) (pg_name (i := 5) sc_law.nd rfl (.inl rfl))
        (pss_one (ps_if (pt_cmpR op_lt (pv 3) pe_int (nomark _))
          (pss_cons (ps_set (i := 6) sc_law.nd rfl (.inl rfl) (pe_call G_law_draw (hr.mono (by omega)) (by rfl) g_law_draw k_law_draw b_law_draw .nil pass0 (pa_cons (pv 1) (pa_cons (pe_op op_add (pv 3) pe_int) pa_nil))))
          (pss_cons (ps_set (i := 4) sc_law.nd rfl (.inl rfl) (pe_call G_law_widened (hr.mono (by omega)) (by rfl) g_law_widened k_law_widened b_law_widened .nil pass0 (pa_cons (pv 4) (pa_cons (pv 6) pa_nil))))
          (pss_cons (ps_set (i := 3) sc_law.nd rfl (.inl rfl) (pe_op op_add (pv 3) pe_int))
          (pss_one (ps_if (pt_cmpR op_in_seq (pv 6) (pe_call G_depends_on (hr.mono (by omega)) (by rfl) g_depends_on k_depends_on b_depends_on .nil pass0 (pa_cons (pv 4) pa_nil)) (by rfl))
            (pss_one (ps_ret pe_bl))
            pss_nil)))))
          pss_nil)))
      (pss_one (ps_if (pt_not (pt_val (pe_call G_law_same (hr.mono (by omega)) (by rfl) g_law_same k_law_same b_law_same .nil pass0 (pa_cons (pe_call G_depends_on (hr.mono (by omega)) (by rfl) g_depends_on k_depends_on b_depends_on .nil pass0 (pa_cons (pv 4) pa_nil)) (pa_cons (pe_call G_law_due (hr.mono (by omega)) (by rfl) g_law_due k_law_due b_law_due .nil pass0 (pa_cons (pv 4) (pa_cons (pv 3) pa_nil))) pa_nil)))))
        (pss_one (ps_ret pe_bl))
        pss_nil))))))
    (pss_one (ps_ret pe_bl)))), ?_⟩
    refine ⟨_, rfl, sa, ns, rfl, hs, by omega, fun p a H0 hp _ _ => ⟨8, rfl, by decide, by decide, for_range (n := 8)
      (fun _ σ H' => Px p a H0 H' ∧ ∃ (x2 x3 x4 x5 x6 : Option V), σ = [some (.ref sa), some (.ref p), x2, x3, x4, x5, x6]) ⟨Px.refl hp, _, _, _, _, _, rfl⟩ ?_ ?_⟩⟩
    · rintro i σ H1 _ ⟨X1, x2, x3, x4, x5, x6, rfl⟩
      refine ⟨_, rfl, p, a, 7, rfl, by decide, by decide, X1.pool, fun m0 H2 hm0 Y2 _ => ?_⟩
      have X2 := X1.trans Y2
      refine ⟨_, rfl, _, rfl, p, a, m0, rfl, by omega, X2.pool, fun t0 bs0 H3 hl0 Y3 nt0 ht0 => ?_⟩
      have X3 := X2.trans Y3
      refine ⟨_, rfl, p, a, 3, rfl, by decide, by decide, X3.pool, fun c H4 hc Y4 k4 => ⟨c, rfl, by omega, by omega, for_range (n := ((c : Nat) : Int).toNat)
        (fun _ σ H' => Px p a H0 H' ∧ ∃ (m : Nat) (bs : List Bool) (t : Addr) (x5 x6 : Option V), m ≤ 6 ∧ bs.length = 2 ^ m ∧ hid p H' t = some (tabV bs) ∧ σ = [some (.ref sa), some (.ref p), some (.int (0 + (i : Int))), some (.int m), some (.ref t), x5, x6]) ⟨X3.trans Y4, m0, bs0, t0, _, _, by omega, hl0, Y4.get (Y3.seen nt0 ht0), rfl⟩ ?_ ?_⟩⟩
      · rintro j σ H5 _ ⟨X5, m, bs, t, x5, x6, hm, hl, ht, rfl⟩
        refine ⟨_, rfl, _, _, rfl, rfl, _, rfl, ite2 (fun e1 => ?_) (fun e1 => ⟨X5, m, bs, t, _, _, hm, hl, ht, rfl⟩)⟩
        have hm5 : m < 6 := by have := of_decide_eq_true e1; omega
        refine ⟨_, rfl, _, rfl, _, _, rfl, rfl, p, a, (m : Int) + 1, rfl, by omega, by omega, X5.pool, fun at_ H6 hat Y6 _ => ?_⟩
        have X6 := X5.trans Y6
        have ht6 := Y6.get ht
        refine ⟨_, rfl, _, rfl, t, bs, m, at_, rfl, hid_get ht6, hl, by omega, by omega, fun t2 H7 n7 E7 h7 => ?_⟩
        have Y7 := Px.ofEx X6.pool E7
        have X7 := X6.trans Y7
        have ht7 := Y7.seen n7 h7
        have hl2 : (widened bs at_).length = 2 ^ (m + 1) := by rw [widened_len, hl, Nat.pow_succ, Nat.mul_comm]
        refine ⟨_, rfl, _, _, rfl, rfl, _, rfl, _, rfl, t2, widened bs at_, m + 1, rfl, h7, hl2, by omega, fun pl H8 n8 E8 h8 => ?_⟩
        have Y8 := Px.ofEx X7.pool E8
        refine ⟨pl, _, rfl, .inl (SqL.of h8), rfl, ?_, _, rfl, ?_⟩
        · rw [List.all_map]
          exact List.all_eq_true.mpr fun _ _ => rfl
        · have ein : inV (.int at_) ((depL (widened bs at_) (m + 1)).map V.int) = false := by
            unfold inV
            rw [List.any_map, List.any_eq_false]
            intro k hk
            unfold depL at hk
            obtain ⟨k', hk', rfl⟩ := List.mem_map.mp hk
            have hf := (List.mem_filter.mp hk').2
            intro hq
            have hq' : ((k' : Int) == (at_ : Int)) = true := hq
            have : k' = at_ := by have := eq_of_beq hq'; omega
            subst this
            rw [widened_flips hl (by omega)] at hf
            cases hf
          show if (if false = true then !inV (.int at_) ((depL (widened bs at_) (m + 1)).map V.int) else inV (.int at_) ((depL (widened bs at_) (m + 1)).map V.int)) = true then _ else _
          rw [ein]
          exact iteF ⟨X7.trans Y8, m + 1, widened bs at_, t2, _, _, by omega, hl2, Y8.get ht7, rfl⟩
      · rintro σ H5 ⟨X5, m, bs, t, x5, x6, hm, hl, ht, rfl⟩
        refine ⟨_, rfl, t, bs, m, rfl, hid_get ht, hl, by omega, fun d1 H6 n6 E6 h6 => ?_⟩
        have Y6 := Px.ofEx X5.pool E6
        refine ⟨_, rfl, _, rfl, t, bs, m, rfl, E6 _ _ (hid_get ht), hl, hm, fun d2 H7 n7 E7 h7 => ?_⟩
        have Y7 := Px.ofEx (X5.trans Y6).pool E7
        refine ⟨_, _, .lst ((depL bs m).map G.D.int), rfl, rep_ints (E7 _ _ h6), rep_ints h7, okD_ints ?_, _, rfl, ?_⟩
        · have := depL_len bs m; omega
        · exact iteF ⟨(X5.trans Y6).trans Y7, _, _, _, _, _, rfl⟩
    · rintro σ H1 ⟨X1, x2, x3, x4, x5, x6, rfl⟩
      exact q H1
end
end G
namespace G
open PySem PySem.Spec PyProof.Rows L2
/-- the defs and the built-in names as the top has left them -/
structure All (K : PySem.W.Frag) (mg : Str → Option Value) : Prop where
  d_inputs_of : Dfd K mg "inputs_of" s_inputs_of ["table"]
  d_depends_on : Dfd K mg "depends_on" s_depends_on ["table"]
  d_changes_with : Dfd K mg "_changes_with" s_changes_with ["table", "k"]
  d_law_pool : Dfd K mg "_law_pool" s_law_pool ["script"]
  d_law_spread : Dfd K mg "_law_spread" s_law_spread ["cell"]
  d_law_draw : Dfd K mg "_law_draw" s_law_draw ["pool", "many"]
  d_law_same : Dfd K mg "_law_same" s_law_same ["actual", "due"]
  d_law_bits : Dfd K mg "_law_bits" s_law_bits ["index", "many"]
  d_law_table : Dfd K mg "_law_table" s_law_table ["pool", "many"]
  d_law_widened : Dfd K mg "_law_widened" s_law_widened ["table", "k"]
  d_law_due : Dfd K mg "_law_due" s_law_due ["table", "many"]
  z_len : mg "len" = none
  z_range : mg "range" = none
  z_any : mg "any" = none
  z_enumerate : mg "enumerate" = none
  z_int : mg "int" = none
  z_list : mg "list" = none
  z_isinstance : mg "isinstance" = none
  z_tuple : mg "tuple" = none
  z_bool : mg "bool" = none
  z_str : mg "str" = none
end G
namespace G
open PySem PySem.Spec PyProof.Rows L2
theorem glue {P : Program} {w : World} {K : PySem.W.Frag} {mg : Str → Option Value} {base : Heap} (A : All K mg) {f : Addr} {fd : FuncData} (F : Fun K "law" "law" s_law f fd) : FnOk P w K mg base CX0 4 f fd ["script"] (spLaw K) := by
  have TL : TxtL mg := ⟨A.z_int, A.z_len, A.z_list, A.z_range⟩
  have TS : TxtS mg := ⟨A.z_isinstance, A.z_tuple, A.z_list, A.z_len, A.z_range, A.z_bool, A.z_int, A.z_str⟩
  have TP : TxtP mg := ⟨A.z_len, A.z_range, A.z_any, A.z_enumerate⟩
  have hd := drawX (P := P) (w := w) (base := base) (ok_law_draw A.d_law_draw TL (ok_law_spread A.d_law_spread TL))
  have hb := ok_law_bits (P := P) (w := w) (base := base) A.d_law_bits TS
  exact fn_law F TS (ok_law_pool A.d_law_pool TL) hd (ok_law_table A.d_law_table TS hd hb) (ok_law_widened A.d_law_widened TS)
    (ok_depends_on A.d_depends_on TP (ok_inputs_of A.d_inputs_of ⟨A.z_len⟩) (ok_changes_with A.d_changes_with TP)) (ok_law_due A.d_law_due TS) (ok_law_same A.d_law_same TS 2)
end G
namespace G
open PySem PySem.Spec PyProof.Rows L2
theorem all_mk {l : PySem.W.OpenLaw} {w : World} {K : PySem.W.Frag} {h : Heap} {mg : Str → Option Value} {fa f0 f1 f2 f3 f4 f5 f6 f7 f8 f9 f10 f11 : Addr} (X : K.In h) (G : h.Ns mainGlobals mg) (hfa : mg "law" = some (.ref fa))
    {od0 an0 od1 an1 od2 an2 od3 an3 od4 an4 od5 an5 od6 an6 od7 an7 od8 an8 od9 an9 od10 an10 od11 an11 : Option Addr} {sl0 sl1 sl2 sl3 sl4 sl5 sl6 sl7 sl8 sl9 sl10 sl11 : Array (Option Value)} {oc0 kv0 dc0 pm0 cd0 ct0 oc1 kv1 dc1 pm1 cd1 ct1 oc2 kv2 dc2 pm2 cd2 ct2 oc3 kv3 dc3 pm3 cd3 ct3 oc4 kv4 dc4 pm4 cd4 ct4 oc5 kv5 dc5 pm5 cd5 ct5 oc6 kv6 dc6 pm6 cd6 ct6 oc7 kv7 dc7 pm7 cd7 ct7 oc8 kv8 dc8 pm8 cd8 ct8 oc9 kv9 dc9 pm9 cd9 ct9 oc10 kv10 dc10 pm10 cd10 ct10 oc11 kv11 dc11 pm11 cd11 ct11 : Value}
    (a0 : PySem.W.nsIn K mainGlobals "inputs_of" = some (some (.ref f0))) (l0 : K.lookup f0 = some ⟨oc0, od0, .func (PySem.W.fnOf "inputs_of" "inputs_of" (defArgs s_inputs_of) (defBody s_inputs_of) (defScope s_inputs_of) .none kv0 dc0 pm0 an0 cd0 ct0), sl0⟩) (c0 : PySem.W.codeIn K cd0 "inputs_of" = true) (k0 : PySem.W.keepIn K (.ref f0) = true)
    (a1 : PySem.W.nsIn K mainGlobals "depends_on" = some (some (.ref f1))) (l1 : K.lookup f1 = some ⟨oc1, od1, .func (PySem.W.fnOf "depends_on" "depends_on" (defArgs s_depends_on) (defBody s_depends_on) (defScope s_depends_on) .none kv1 dc1 pm1 an1 cd1 ct1), sl1⟩) (c1 : PySem.W.codeIn K cd1 "depends_on" = true) (k1 : PySem.W.keepIn K (.ref f1) = true)
    (a2 : PySem.W.nsIn K mainGlobals "_changes_with" = some (some (.ref f2))) (l2 : K.lookup f2 = some ⟨oc2, od2, .func (PySem.W.fnOf "_changes_with" "_changes_with" (defArgs s_changes_with) (defBody s_changes_with) (defScope s_changes_with) .none kv2 dc2 pm2 an2 cd2 ct2), sl2⟩) (c2 : PySem.W.codeIn K cd2 "_changes_with" = true) (k2 : PySem.W.keepIn K (.ref f2) = true)
    (a3 : PySem.W.nsIn K mainGlobals "_law_pool" = some (some (.ref f3))) (l3 : K.lookup f3 = some ⟨oc3, od3, .func (PySem.W.fnOf "_law_pool" "_law_pool" (defArgs s_law_pool) (defBody s_law_pool) (defScope s_law_pool) .none kv3 dc3 pm3 an3 cd3 ct3), sl3⟩) (c3 : PySem.W.codeIn K cd3 "_law_pool" = true) (k3 : PySem.W.keepIn K (.ref f3) = true)
    (a4 : PySem.W.nsIn K mainGlobals "_law_spread" = some (some (.ref f4))) (l4 : K.lookup f4 = some ⟨oc4, od4, .func (PySem.W.fnOf "_law_spread" "_law_spread" (defArgs s_law_spread) (defBody s_law_spread) (defScope s_law_spread) .none kv4 dc4 pm4 an4 cd4 ct4), sl4⟩) (c4 : PySem.W.codeIn K cd4 "_law_spread" = true) (k4 : PySem.W.keepIn K (.ref f4) = true)
    (a5 : PySem.W.nsIn K mainGlobals "_law_draw" = some (some (.ref f5))) (l5 : K.lookup f5 = some ⟨oc5, od5, .func (PySem.W.fnOf "_law_draw" "_law_draw" (defArgs s_law_draw) (defBody s_law_draw) (defScope s_law_draw) .none kv5 dc5 pm5 an5 cd5 ct5), sl5⟩) (c5 : PySem.W.codeIn K cd5 "_law_draw" = true) (k5 : PySem.W.keepIn K (.ref f5) = true)
    (a6 : PySem.W.nsIn K mainGlobals "_law_same" = some (some (.ref f6))) (l6 : K.lookup f6 = some ⟨oc6, od6, .func (PySem.W.fnOf "_law_same" "_law_same" (defArgs s_law_same) (defBody s_law_same) (defScope s_law_same) .none kv6 dc6 pm6 an6 cd6 ct6), sl6⟩) (c6 : PySem.W.codeIn K cd6 "_law_same" = true) (k6 : PySem.W.keepIn K (.ref f6) = true)
    (a7 : PySem.W.nsIn K mainGlobals "_law_bits" = some (some (.ref f7))) (l7 : K.lookup f7 = some ⟨oc7, od7, .func (PySem.W.fnOf "_law_bits" "_law_bits" (defArgs s_law_bits) (defBody s_law_bits) (defScope s_law_bits) .none kv7 dc7 pm7 an7 cd7 ct7), sl7⟩) (c7 : PySem.W.codeIn K cd7 "_law_bits" = true) (k7 : PySem.W.keepIn K (.ref f7) = true)
    (a8 : PySem.W.nsIn K mainGlobals "_law_table" = some (some (.ref f8))) (l8 : K.lookup f8 = some ⟨oc8, od8, .func (PySem.W.fnOf "_law_table" "_law_table" (defArgs s_law_table) (defBody s_law_table) (defScope s_law_table) .none kv8 dc8 pm8 an8 cd8 ct8), sl8⟩) (c8 : PySem.W.codeIn K cd8 "_law_table" = true) (k8 : PySem.W.keepIn K (.ref f8) = true)
    (a9 : PySem.W.nsIn K mainGlobals "_law_widened" = some (some (.ref f9))) (l9 : K.lookup f9 = some ⟨oc9, od9, .func (PySem.W.fnOf "_law_widened" "_law_widened" (defArgs s_law_widened) (defBody s_law_widened) (defScope s_law_widened) .none kv9 dc9 pm9 an9 cd9 ct9), sl9⟩) (c9 : PySem.W.codeIn K cd9 "_law_widened" = true) (k9 : PySem.W.keepIn K (.ref f9) = true)
    (a10 : PySem.W.nsIn K mainGlobals "_law_due" = some (some (.ref f10))) (l10 : K.lookup f10 = some ⟨oc10, od10, .func (PySem.W.fnOf "_law_due" "_law_due" (defArgs s_law_due) (defBody s_law_due) (defScope s_law_due) .none kv10 dc10 pm10 an10 cd10 ct10), sl10⟩) (c10 : PySem.W.codeIn K cd10 "_law_due" = true) (k10 : PySem.W.keepIn K (.ref f10) = true)
    (a11 : PySem.W.nsIn K mainGlobals "law" = some (some (.ref f11))) (l11 : K.lookup f11 = some ⟨oc11, od11, .func (PySem.W.fnOf "law" "law" (defArgs s_law) (defBody s_law) (defScope s_law) .none kv11 dc11 pm11 an11 cd11 ct11), sl11⟩) (c11 : PySem.W.codeIn K cd11 "law" = true) (k11 : PySem.W.keepIn K (.ref f11) = true)
    (z0 : PySem.W.nsIn K mainGlobals "len" = some none) (z1 : PySem.W.nsIn K mainGlobals "range" = some none) (z2 : PySem.W.nsIn K mainGlobals "any" = some none) (z3 : PySem.W.nsIn K mainGlobals "enumerate" = some none) (z4 : PySem.W.nsIn K mainGlobals "int" = some none) (z5 : PySem.W.nsIn K mainGlobals "list" = some none) (z6 : PySem.W.nsIn K mainGlobals "isinstance" = some none) (z7 : PySem.W.nsIn K mainGlobals "tuple" = some none) (z8 : PySem.W.nsIn K mainGlobals "bool" = some none) (z9 : PySem.W.nsIn K mainGlobals "str" = some none) :
    ∃ fd : FuncData, (∀ (s : Shared) (v : Value), BindsTo s fd ⟨[v], []⟩ [("script", v)]) ∧ ∀ base : Heap, K.In base → base.Ns mainGlobals mg → FnOk l.prog w K mg base CX0 4 fa fd ["script"] (spLaw K) := by
  have e := hfa.symm.trans (PySem.W.mg_of X G a11)
  cases e
  have F0 := fun_mk (st := s_inputs_of) l0 c0 k0
  have F1 := fun_mk (st := s_depends_on) l1 c1 k1
  have F2 := fun_mk (st := s_changes_with) l2 c2 k2
  have F3 := fun_mk (st := s_law_pool) l3 c3 k3
  have F4 := fun_mk (st := s_law_spread) l4 c4 k4
  have F5 := fun_mk (st := s_law_draw) l5 c5 k5
  have F6 := fun_mk (st := s_law_same) l6 c6 k6
  have F7 := fun_mk (st := s_law_bits) l7 c7 k7
  have F8 := fun_mk (st := s_law_table) l8 c8 k8
  have F9 := fun_mk (st := s_law_widened) l9 c9 k9
  have F10 := fun_mk (st := s_law_due) l10 c10 k10
  have F11 := fun_mk (st := s_law) l11 c11 k11
  have A : All K mg := ⟨⟨f0, _, F0, PySem.W.mg_of X G a0, F0.binds (ps := ["table"]) fun _ _ _ _ _ _ us hl => match us, hl with | [_], _ => rfl⟩,
    ⟨f1, _, F1, PySem.W.mg_of X G a1, F1.binds (ps := ["table"]) fun _ _ _ _ _ _ us hl => match us, hl with | [_], _ => rfl⟩,
    ⟨f2, _, F2, PySem.W.mg_of X G a2, F2.binds (ps := ["table", "k"]) fun _ _ _ _ _ _ us hl => match us, hl with | [_, _], _ => rfl⟩,
    ⟨f3, _, F3, PySem.W.mg_of X G a3, F3.binds (ps := ["script"]) fun _ _ _ _ _ _ us hl => match us, hl with | [_], _ => rfl⟩,
    ⟨f4, _, F4, PySem.W.mg_of X G a4, F4.binds (ps := ["cell"]) fun _ _ _ _ _ _ us hl => match us, hl with | [_], _ => rfl⟩,
    ⟨f5, _, F5, PySem.W.mg_of X G a5, F5.binds (ps := ["pool", "many"]) fun _ _ _ _ _ _ us hl => match us, hl with | [_, _], _ => rfl⟩,
    ⟨f6, _, F6, PySem.W.mg_of X G a6, F6.binds (ps := ["actual", "due"]) fun _ _ _ _ _ _ us hl => match us, hl with | [_, _], _ => rfl⟩,
    ⟨f7, _, F7, PySem.W.mg_of X G a7, F7.binds (ps := ["index", "many"]) fun _ _ _ _ _ _ us hl => match us, hl with | [_, _], _ => rfl⟩,
    ⟨f8, _, F8, PySem.W.mg_of X G a8, F8.binds (ps := ["pool", "many"]) fun _ _ _ _ _ _ us hl => match us, hl with | [_, _], _ => rfl⟩,
    ⟨f9, _, F9, PySem.W.mg_of X G a9, F9.binds (ps := ["table", "k"]) fun _ _ _ _ _ _ us hl => match us, hl with | [_, _], _ => rfl⟩,
    ⟨f10, _, F10, PySem.W.mg_of X G a10, F10.binds (ps := ["table", "many"]) fun _ _ _ _ _ _ us hl => match us, hl with | [_, _], _ => rfl⟩,
    PySem.W.mg_none_of X G z0,
    PySem.W.mg_none_of X G z1,
    PySem.W.mg_none_of X G z2,
    PySem.W.mg_none_of X G z3,
    PySem.W.mg_none_of X G z4,
    PySem.W.mg_none_of X G z5,
    PySem.W.mg_none_of X G z6,
    PySem.W.mg_none_of X G z7,
    PySem.W.mg_none_of X G z8,
    PySem.W.mg_none_of X G z9⟩
  exact ⟨_, fun s v => .of_eq rfl, fun base _ _ => glue A F11⟩
end G
open PySem PySem.W PyProof.Rows
set_option maxRecDepth 100000 in
set_option maxHeartbeats 0 in
theorem PySem.Challenge.cw_signoff_k11_inputs_that_matter_holds : PySem.Challenge.rw_signoff_k11_inputs_that_matter.Holds := by
  w_on; o_law; k_head; (case hw => w_witness2)
  k_fill
  refine L2.walk_of (l := PySem.Challenge.rw_signoff_k11_inputs_that_matter) (n := 63) (k := 4) (x := "script") (CX := fun _ => L2.CX0) (sp := fun w => G.spLaw _) rfl (by decide) rfl ⟨rfl, by decide, by decide⟩ (fun w h Y => PySem.W.kIn_of Y) ?F (fun _ _ a ns hl _ hS => ⟨a, ns, rfl, hS, hl, fun _ => rfl⟩) (fun _ _ _ _ _ h => h)
  case F =>
    intro w mg fa h KX GN hmg
    refine' G.all_mk KX GN hmg ?a0 ?l0 ?c0 ?k0 ?a1 ?l1 ?c1 ?k1 ?a2 ?l2 ?c2 ?k2 ?a3 ?l3 ?c3 ?k3 ?a4 ?l4 ?c4 ?k4 ?a5 ?l5 ?c5 ?k5 ?a6 ?l6 ?c6 ?k6 ?a7 ?l7 ?c7 ?k7 ?a8 ?l8 ?c8 ?k8 ?a9 ?l9 ?c9 ?k9 ?a10 ?l10 ?c10 ?k10 ?a11 ?l11 ?c11 ?k11 ?z0 ?z1 ?z2 ?z3 ?z4 ?z5 ?z6 ?z7 ?z8 ?z9
    (case a0 => k_is)
    (case l0 => k_is)
    (case c0 => k_is)
    (case k0 => k_is)
    (case a1 => k_is)
    (case l1 => k_is)
    (case c1 => k_is)
    (case k1 => k_is)
    (case a2 => k_is)
    (case l2 => k_is)
    (case c2 => k_is)
    (case k2 => k_is)
    (case a3 => k_is)
    (case l3 => k_is)
    (case c3 => k_is)
    (case k3 => k_is)
    (case a4 => k_is)
    (case l4 => k_is)
    (case c4 => k_is)
    (case k4 => k_is)
    (case a5 => k_is)
    (case l5 => k_is)
    (case c5 => k_is)
    (case k5 => k_is)
    (case a6 => k_is)
    (case l6 => k_is)
    (case c6 => k_is)
    (case k6 => k_is)
    (case a7 => k_is)
    (case l7 => k_is)
    (case c7 => k_is)
    (case k7 => k_is)
    (case a8 => k_is)
    (case l8 => k_is)
    (case c8 => k_is)
    (case k8 => k_is)
    (case a9 => k_is)
    (case l9 => k_is)
    (case c9 => k_is)
    (case k9 => k_is)
    (case a10 => k_is)
    (case l10 => k_is)
    (case c10 => k_is)
    (case k10 => k_is)
    (case a11 => k_is)
    (case l11 => k_is)
    (case c11 => k_is)
    (case k11 => k_is)
    (case z0 => k_is)
    (case z1 => k_is)
    (case z2 => k_is)
    (case z3 => k_is)
    (case z4 => k_is)
    (case z5 => k_is)
    (case z6 => k_is)
    (case z7 => k_is)
    (case z8 => k_is)
    (case z9 => k_is)
#print axioms PySem.Challenge.cw_signoff_k11_inputs_that_matter_holds
