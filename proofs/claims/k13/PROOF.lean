import PyProof.Rows.All
import Wide.All
import OpenK.AllK
import Wide.FinOn
import HandS.ForMost
import HandS.Evl
import HandS.Wide
import HandS.WideBits
import HandS.Flow
import HandS.IsInst
import HandS.TupAny
import HandS.Walk
import HandS.Zip
import HandS.Steps
import KE.GoesMore
import KE.GoesEnum
import KE.KEqSeq
import HandS.DictComp
import PySem.Challenge.RW_signoff_k13_whole_cubes_force
set_option Elab.async false
set_option linter.all false
set_option maxRecDepth 100000
set_option maxHeartbeats 4000000
set_option Elab.async false
set_option linter.all false
set_option maxRecDepth 100000
set_option maxHeartbeats 4000000
namespace G
open PySem PySem.Spec PyProof.Rows L2 Evl
/-! ## defs by name -/
def Dfd (K : PySem.W.Frag) (mg : Str → Option Value) (x : Str) (st : Stmt) (ps : List Str) : Prop := ∃ (f : Addr) (fd : FuncData), Fun K x x st f fd ∧ mg x = some (.ref f) ∧ Binds K fd ps []
def Has (P : Program) (w : World) (K : PySem.W.Frag) (mg : Str → Option Value) (base : Heap) (k : Nat) (x : Str) (ps : List Str) (sp : Sp) : Prop :=
  ∃ (f : Addr) (fd : FuncData), FnOk P w K mg base CX0 k f fd ps sp ∧ mg x = some (.ref f) ∧ PySem.W.keepIn K (.ref f) = true ∧ Binds K fd ps []
section
variable {P : Program} {w : World} {K : PySem.W.Frag} {mg : Str → Option Value} {base : Heap}
theorem Dfd.has {x : Str} {st : Stmt} {ps : List Str} {k : Nat} {sp : Sp} (d : Dfd K mg x st ps) (h : ∀ f fd, Fun K x x st f fd → FnOk P w K mg base CX0 k f fd ps sp) : Has P w K mg base k x ps sp := by
  obtain ⟨f, fd, F, g, b⟩ := d
  exact ⟨f, fd, h f fd F, g, F.kp, b⟩
theorem Has.mono {x : Str} {ps : List Str} {j k : Nat} {sp : Sp} (h : Has P w K mg base j x ps sp) (l : j ≤ k) : Has P w K mg base k x ps sp := by
  obtain ⟨f, fd, F, g⟩ := h
  exact ⟨f, fd, F.mono l, g⟩
theorem Has.imp {x : Str} {ps : List Str} {k : Nat} {sp sp' : Sp} (h : Has P w K mg base k x ps sp) (i : ∀ vs H Q E, sp' vs H Q E → sp vs H Q E) : Has P w K mg base k x ps sp' := by
  obtain ⟨f, fd, F, g⟩ := h
  exact ⟨f, fd, F.imp i, g⟩
end
/-! ## heaps -/
theorem sq_ex {K : PySem.W.Frag} {H H' : Hp} {a : Addr} {xs : List V} (e : Ex H H') (h : SqL K H a xs) : SqL K H' a xs := ex_l e h
/-- the heap without what stands at p -/
def hid (p : Addr) (H : Hp) : Hp := fun b => if b = p then none else H b
theorem hid_self {p : Addr} {H : Hp} : hid p H p = none := by unfold hid; rw [if_pos rfl]
theorem hid_ne {p b : Addr} {H : Hp} (h : b ≠ p) : hid p H b = H b := by unfold hid; rw [if_neg h]
theorem hid_get {p b : Addr} {H : Hp} {o : HO} (h : hid p H b = some o) : H b = some o := by
  by_cases e : b = p
  · subst e; rw [hid_self] at h; cases h
  · rw [hid_ne e] at h; exact h
theorem hid_neq {p b : Addr} {H : Hp} {o : HO} (h : hid p H b = some o) : b ≠ p := by
  intro e; subst e; rw [hid_self] at h; cases h
theorem hid_ex {p : Addr} {H : Hp} : Ex (hid p H) H := fun _ _ h => hid_get h
theorem hid_upd {p : Addr} {H : Hp} {o : HO} : hid p (upd H p o) = hid p H := by
  funext b
  by_cases e : b = p
  · subst e; rw [hid_self, hid_self]
  · rw [hid_ne e, hid_ne e, upd_ne e]
theorem hid_upd_ne {p q : Addr} {H : Hp} {o : HO} (h : q ≠ p) : hid p (upd H q o) = upd (hid p H) q o := by
  funext b
  by_cases e2 : b = q
  · subst e2; rw [hid_ne h, upd_same, upd_same]
  · rw [upd_ne e2]
    by_cases e : b = p
    · subst e; rw [hid_self, hid_self]
    · rw [hid_ne e, hid_ne e, upd_ne e2]
theorem hid_none {p b : Addr} {H : Hp} (h : H b = none) : hid p H b = none := by
  unfold hid; split
  · rfl
  · exact h
/-! ## the pool of draws: the list at p, the script's copy at a -/
def PoolOk (p a : Addr) (H : Hp) : Prop := ∃ (ns : List Int) (i : Nat) (c k s : Int), H p = some (.lst [.ref a, .int i, .int c, .int k, .int s]) ∧ hid p H a = some (.lst (ns.map V.int)) ∧ ns.length ≤ 1000
/-- from H to H' all but the pool is kept, and the pool is a pool -/
structure Px (p a : Addr) (H H' : Hp) : Prop where
  was : PoolOk p a H
  pool : PoolOk p a H'
  ex : Ex (hid p H) (hid p H')
section
variable {p a : Addr} {H H1 H2 H' : Hp}
theorem Px.refl (h : PoolOk p a H) : Px p a H H := ⟨h, h, Ex.refl _⟩
theorem Px.trans (x : Px p a H H1) (y : Px p a H1 H2) : Px p a H H2 := ⟨x.was, y.pool, x.ex.trans y.ex⟩
theorem PoolOk.ne {b : Addr} (h : PoolOk p a H) (n : H b = none) : b ≠ p := by
  obtain ⟨_, _, _, _, _, e, _⟩ := h
  exact (ne_of_none e n).symm
theorem PoolOk.ne2 {b : Addr} (h : PoolOk p a H) (n : H b = none) : a ≠ b := by
  obtain ⟨_, _, _, _, _, _, e, _⟩ := h
  exact ne_of_none (hid_get e) n
theorem PoolOk.kept (h : PoolOk p a H) (e : Ex H H') : PoolOk p a H' := by
  obtain ⟨ns, i, c, k, s, h1, h2, h3⟩ := h
  exact ⟨ns, i, c, k, s, e _ _ h1, by rw [hid_ne (hid_neq h2)]; exact e _ _ (hid_get h2), h3⟩
theorem Px.ofEx (h : PoolOk p a H) (e : Ex H H') : Px p a H H' := ⟨h, h.kept e, fun b o hb => by rw [hid_ne (hid_neq hb)]; exact e _ _ (hid_get hb)⟩
theorem Px.more (x : Px p a H H1) (e : Ex H1 H2) : Px p a H H2 := x.trans (Px.ofEx x.pool e)
theorem Px.draw {o : HO} (w : PoolOk p a H) (h : PoolOk p a (upd H p o)) : Px p a H (upd H p o) := ⟨w, h, by rw [hid_upd]; exact Ex.refl _⟩
theorem Px.new (x : Px p a H H1) {l : Addr} {o : HO} (n : H1 l = none) : Px p a H (upd H1 l o) := x.more (Ex.new n)
/-- what H has is kept -/
theorem Px.get (x : Px p a H H1) {b : Addr} {o : HO} (h : hid p H b = some o) : hid p H1 b = some o := x.ex _ _ h
theorem Px.at_ (x : Px p a H H1) {b : Addr} {o : HO} (h : hid p H b = some o) : H1 b = some o := hid_get (x.ex _ _ h)
theorem Px.free (x : Px p a H H1) {b : Addr} (n : H1 b = none) : H b = none := by
  cases e : H b with
  | none => rfl
  | some o =>
    have hb : b ≠ p := x.pool.ne n
    have := x.ex b o (by rw [hid_ne hb]; exact e)
    rw [hid_get this] at n; cases n
/-- an object that H does not have may change -/
theorem Px.mut (x : Px p a H H1) {l : Addr} {o : HO} (n : H l = none) : Px p a H (upd H1 l o) := by
  have hl : l ≠ p := x.was.ne n
  have ha : a ≠ l := x.was.ne2 n
  refine ⟨x.was, ?_, ?_⟩
  · obtain ⟨ns, i, c, k, s, h1, h2, h3⟩ := x.pool
    exact ⟨ns, i, c, k, s, by rw [upd_ne hl.symm]; exact h1, by rw [hid_upd_ne hl, upd_ne ha]; exact h2, h3⟩
  · rw [hid_upd_ne hl]; exact Ex.mut x.ex (hid_none n)
/-- a fresh object stands apart from the pool -/
theorem Px.seen (x : Px p a H H1) {l : Addr} {o : HO} (n : H l = none) (e : H1 l = some o) : hid p H1 l = some o := by
  rw [hid_ne (x.was.ne n)]; exact e
end
end G
namespace G
open PySem PySem.Spec PyProof.Rows L2 Evl
/-! ## comprehensions whose elements are plain values -/
theorem given_all {n : Nat} {v : Nat → V} : given n (fun _ => true) v = (List.range n).map v := by
  unfold given
  rw [List.filter_eq_self.mpr (fun _ _ => rfl)]
section
variable {lo : Int} {n j : Nat} {tt : TT} {te : TE} {vs : List Nat} {σ : L2.St} {H1 : Hp} {D : Addr} {Qd : Hp → Prop} {K : PySem.W.Frag} {a : Addr} {xs : List V}
theorem lc_turn {f : Nat → Bool} {v : Nat → V} {i : Nat} {H : Hp} {σ2 : L2.St} (e : H = upd H1 D (.lst (given i f v))) (hi : i < 100000) (ht : Ans tt σ2 H (f i)) (he : f i = true → Val te σ2 H (v i)) :
    tt σ2 H fun b H3 => if b = true then te σ2 H3 fun y H4 => ∃ acc, H4 D = some (.lst acc) ∧ acc.length < sizeLine ∧ (upd H4 D (.lst (acc ++ [y]))) = upd H1 D (.lst (given (i + 1) f v)) else H3 = upd H1 D (.lst (given (i + 1) f v)) := by
  refine ht _ ?_
  subst e
  cases hf : f i with
  | true =>
    refine iteT (he hf _ ⟨_, upd_same, sz_lt (by have := given_len i f v; omega), ?_⟩)
    rw [given_yes hf, upd_upd]
  | false =>
    refine iteF ?_
    rw [given_no hf]
theorem lcR (f : Nat → Bool) (v : Nat → V) (hn : n ≤ 100000) (hw : ∀ x, wipe ((wipe σ vs).set j (some x)) vs = wipe σ vs)
    (ht : ∀ (i : Nat) (H : Hp), i < n → H = upd H1 D (.lst (given i f v)) → Ans tt ((wipe σ vs).set j (some (.int (lo + i)))) H (f i))
    (he : ∀ (i : Nat) (H : Hp), i < n → H = upd H1 D (.lst (given i f v)) → f i = true → Val te ((wipe σ vs).set j (some (.int (lo + i)))) H (v i)) (q : Qd (upd H1 D (.lst (given n f v)))) :
    ∃ W : Nat → Nat → Hp → Prop, (∃ m, W 0 m (upd H1 D (.lst []))) ∧ ∀ i m H, W i m H →
      ((Itr lo n).stop i H ∧ Qd H) ∨ ((Itr lo n).go i H ∧ ∃ Nx : Hp → Prop, (∀ H', Nx H' → ∃ m', m' < m ∧ W (i + 1) m' H') ∧ ∀ x H', (Itr lo n).yld i H x H' → gName j x (wipe σ vs) H' fun σ2 H2 => wipe σ2 vs = wipe σ vs ∧ tt σ2 H2 fun b H3 =>
        if b = true then te σ2 H3 fun y H4 => ∃ acc, H4 D = some (.lst acc) ∧ acc.length < sizeLine ∧ Nx (upd H4 D (.lst (acc ++ [y]))) else Nx H3) :=
  lc_range (fun i H => H = upd H1 D (.lst (given i f v))) rfl (fun i H hi e => ⟨hw _, lc_turn e (by omega) (ht i H hi e) (he i H hi e)⟩) (fun H e => by rw [e]; exact q)
theorem lcRv (v : Nat → V) (hn : n ≤ 100000) (hw : ∀ x, wipe ((wipe σ vs).set j (some x)) vs = wipe σ vs)
    (he : ∀ (i : Nat) (H : Hp), i < n → H = upd H1 D (.lst (given i (fun _ => true) v)) → Val te ((wipe σ vs).set j (some (.int (lo + i)))) H (v i)) (q : Qd (upd H1 D (.lst ((List.range n).map v)))) :
    ∃ W : Nat → Nat → Hp → Prop, (∃ m, W 0 m (upd H1 D (.lst []))) ∧ ∀ i m H, W i m H →
      ((Itr lo n).stop i H ∧ Qd H) ∨ ((Itr lo n).go i H ∧ ∃ Nx : Hp → Prop, (∀ H', Nx H' → ∃ m', m' < m ∧ W (i + 1) m' H') ∧ ∀ x H', (Itr lo n).yld i H x H' → gName j x (wipe σ vs) H' fun σ2 H2 => wipe σ2 vs = wipe σ vs ∧ tYes σ2 H2 fun b H3 =>
        if b = true then te σ2 H3 fun y H4 => ∃ acc, H4 D = some (.lst acc) ∧ acc.length < sizeLine ∧ Nx (upd H4 D (.lst (acc ++ [y]))) else Nx H3) :=
  lcR (fun _ => true) v hn hw (fun _ _ _ _ => fun _ q => q) (fun i H hi e _ => he i H hi e) (by rw [given_all]; exact q)
theorem lcL (f : Nat → Bool) (v : Nat → V) (hx : SqL K H1 a xs) (hD : H1 D = none) (hn : xs.length ≤ 100000) (hw : ∀ x, wipe ((wipe σ vs).set j (some x)) vs = wipe σ vs)
    (ht : ∀ (i : Nat) (x : V) (H : Hp), xs[i]? = some x → H = upd H1 D (.lst (given i f v)) → Ans tt ((wipe σ vs).set j (some x)) H (f i))
    (he : ∀ (i : Nat) (x : V) (H : Hp), xs[i]? = some x → H = upd H1 D (.lst (given i f v)) → f i = true → Val te ((wipe σ vs).set j (some x)) H (v i)) (q : Qd (upd H1 D (.lst (given xs.length f v)))) :
    ∃ W : Nat → Nat → Hp → Prop, (∃ m, W 0 m (upd H1 D (.lst []))) ∧ ∀ i m H, W i m H →
      ((Itl K a).stop i H ∧ Qd H) ∨ ((Itl K a).go i H ∧ ∃ Nx : Hp → Prop, (∀ H', Nx H' → ∃ m', m' < m ∧ W (i + 1) m' H') ∧ ∀ x H', (Itl K a).yld i H x H' → gName j x (wipe σ vs) H' fun σ2 H2 => wipe σ2 vs = wipe σ vs ∧ tt σ2 H2 fun b H3 =>
        if b = true then te σ2 H3 fun y H4 => ∃ acc, H4 D = some (.lst acc) ∧ acc.length < sizeLine ∧ Nx (upd H4 D (.lst (acc ++ [y]))) else Nx H3) :=
  lc_list (fun i H => H = upd H1 D (.lst (given i f v))) rfl (fun i H hi e => by rw [e]; exact ex_l (Ex.new hD) hx) (fun i x H hi e => ⟨hw _, lc_turn e (by have := (List.getElem?_eq_some_iff.mp hi).1; omega) (ht i x H hi e) (he i x H hi e)⟩) (fun H e => by rw [e]; exact q)
theorem lcT (f : Nat → Bool) (v : Nat → V) (hx : SqT K H1 a xs) (hD : H1 D = none) (hn : xs.length ≤ 100000) (hw : ∀ x, wipe ((wipe σ vs).set j (some x)) vs = wipe σ vs)
    (ht : ∀ (i : Nat) (x : V) (H : Hp), xs[i]? = some x → H = upd H1 D (.lst (given i f v)) → Ans tt ((wipe σ vs).set j (some x)) H (f i))
    (he : ∀ (i : Nat) (x : V) (H : Hp), xs[i]? = some x → H = upd H1 D (.lst (given i f v)) → f i = true → Val te ((wipe σ vs).set j (some x)) H (v i)) (q : Qd (upd H1 D (.lst (given xs.length f v)))) :
    ∃ W : Nat → Nat → Hp → Prop, (∃ m, W 0 m (upd H1 D (.lst []))) ∧ ∀ i m H, W i m H →
      ((Itt K a).stop i H ∧ Qd H) ∨ ((Itt K a).go i H ∧ ∃ Nx : Hp → Prop, (∀ H', Nx H' → ∃ m', m' < m ∧ W (i + 1) m' H') ∧ ∀ x H', (Itt K a).yld i H x H' → gName j x (wipe σ vs) H' fun σ2 H2 => wipe σ2 vs = wipe σ vs ∧ tt σ2 H2 fun b H3 =>
        if b = true then te σ2 H3 fun y H4 => ∃ acc, H4 D = some (.lst acc) ∧ acc.length < sizeLine ∧ Nx (upd H4 D (.lst (acc ++ [y]))) else Nx H3) :=
  lc_tup (fun i H => H = upd H1 D (.lst (given i f v))) rfl (fun i H hi e => by rw [e]; exact ex_t (Ex.new hD) hx) (fun i x H hi e => ⟨hw _, lc_turn e (by have := (List.getElem?_eq_some_iff.mp hi).1; omega) (ht i x H hi e) (he i x H hi e)⟩) (fun H e => by rw [e]; exact q)
theorem lcLm (g : V → V) (hx : SqL K H1 a xs) (hD : H1 D = none) (hn : xs.length ≤ 100000) (hw : ∀ x, wipe ((wipe σ vs).set j (some x)) vs = wipe σ vs)
    (he : ∀ (i : Nat) (x : V) (H : Hp), xs[i]? = some x → H = upd H1 D (.lst ((xs.take i).map g)) → Val te ((wipe σ vs).set j (some x)) H (g x)) (q : Qd (upd H1 D (.lst (xs.map g)))) :
    ∃ W : Nat → Nat → Hp → Prop, (∃ m, W 0 m (upd H1 D (.lst []))) ∧ ∀ i m H, W i m H →
      ((Itl K a).stop i H ∧ Qd H) ∨ ((Itl K a).go i H ∧ ∃ Nx : Hp → Prop, (∀ H', Nx H' → ∃ m', m' < m ∧ W (i + 1) m' H') ∧ ∀ x H', (Itl K a).yld i H x H' → gName j x (wipe σ vs) H' fun σ2 H2 => wipe σ2 vs = wipe σ vs ∧ tYes σ2 H2 fun b H3 =>
        if b = true then te σ2 H3 fun y H4 => ∃ acc, H4 D = some (.lst acc) ∧ acc.length < sizeLine ∧ Nx (upd H4 D (.lst (acc ++ [y]))) else Nx H3) :=
  lc_list (fun i H => H = upd H1 D (.lst ((xs.take i).map g))) (by rw [List.take_zero]; rfl) (fun i H hi e => by rw [e]; exact ex_l (Ex.new hD) hx)
    (fun i x H hi e => ⟨hw _, by
      refine iteT (B := H = upd H1 D (.lst ((xs.take (i + 1)).map g))) ?_
      refine he i x H hi e _ ?_
      subst e
      refine ⟨_, upd_same, sz_lt ?_, ?_⟩
      · rw [List.length_map, List.length_take]; have := (List.getElem?_eq_some_iff.mp hi).1; omega
      · rw [upd_upd, List.take_add_one, hi, List.map_append]; rfl⟩) (fun H e => by rw [e, List.take_length]; exact q)
theorem lcTm (g : V → V) (hx : SqT K H1 a xs) (hD : H1 D = none) (hn : xs.length ≤ 100000) (hw : ∀ x, wipe ((wipe σ vs).set j (some x)) vs = wipe σ vs)
    (he : ∀ (i : Nat) (x : V) (H : Hp), xs[i]? = some x → H = upd H1 D (.lst ((xs.take i).map g)) → Val te ((wipe σ vs).set j (some x)) H (g x)) (q : Qd (upd H1 D (.lst (xs.map g)))) :
    ∃ W : Nat → Nat → Hp → Prop, (∃ m, W 0 m (upd H1 D (.lst []))) ∧ ∀ i m H, W i m H →
      ((Itt K a).stop i H ∧ Qd H) ∨ ((Itt K a).go i H ∧ ∃ Nx : Hp → Prop, (∀ H', Nx H' → ∃ m', m' < m ∧ W (i + 1) m' H') ∧ ∀ x H', (Itt K a).yld i H x H' → gName j x (wipe σ vs) H' fun σ2 H2 => wipe σ2 vs = wipe σ vs ∧ tYes σ2 H2 fun b H3 =>
        if b = true then te σ2 H3 fun y H4 => ∃ acc, H4 D = some (.lst acc) ∧ acc.length < sizeLine ∧ Nx (upd H4 D (.lst (acc ++ [y]))) else Nx H3) :=
  lc_tup (fun i H => H = upd H1 D (.lst ((xs.take i).map g))) (by rw [List.take_zero]; rfl) (fun i H hi e => by rw [e]; exact ex_t (Ex.new hD) hx)
    (fun i x H hi e => ⟨hw _, by
      refine iteT (B := H = upd H1 D (.lst ((xs.take (i + 1)).map g))) ?_
      refine he i x H hi e _ ?_
      subst e
      refine ⟨_, upd_same, sz_lt ?_, ?_⟩
      · rw [List.length_map, List.length_take]; have := (List.getElem?_eq_some_iff.mp hi).1; omega
      · rw [upd_upd, List.take_add_one, hi, List.map_append]; rfl⟩) (fun H e => by rw [e, List.take_length]; exact q)
end
end G
namespace G
open PySem PySem.Spec PyProof.Rows L2 Evl
/-! ## rules within a comprehension's block: the written part by its letter -/
section
variable {X : Cx} {K : PySem.W.Frag}
theorem kIxT (h : X.K = K) : IxR X (rIxT K) := by subst h; exact ix_tup
theorem kIxL (h : X.K = K) : IxR X (rIxL K) := by subst h; exact ix_list
theorem kIx (h : X.K = K) : IxR X (rIx K) := by subst h; exact ix_seq
theorem kIn (h : X.K = K) : OpR X (compareOp .In) (rIn K false) := by subst h; exact op_in_seq
theorem kNotIn (h : X.K = K) : OpR X (compareOp .NotIn) (rIn K true) := by subst h; exact op_notIn_seq
theorem kLen (h : X.K = K) : CallR X (.builtin "len") (rLenS K) := by subst h; exact call_len_seq
theorem gStr {x s : Str} {t : Tok} {pos : Pos} (hg : Gl X x) (h : X.mg x = some (.str s t)) (hd : (x == ("__debug__" : Str)) = false := by decide) : PE X (.Name x pos) (tC (.str s)) := pe_glob (v := .str s) hg h ⟨t, rfl⟩ hd
theorem gInt {x : Str} {i : Int} {t : Tok} {pos : Pos} (hg : Gl X x) (h : X.mg x = some (.int i t)) (hd : (x == ("__debug__" : Str)) = false := by decide) : PE X (.Name x pos) (tC (.int i)) := pe_glob (v := .int i) hg h ⟨t, rfl⟩ hd
theorem gRef {x : Str} {a : Addr} {pos : Pos} (hg : Gl X x) (h : X.mg x = some (.ref a)) (hd : (x == ("__debug__" : Str)) = false := by decide) : PE X (.Name x pos) (tC (.ref a)) := pe_glob (v := .ref a) hg h rfl hd
theorem kSlL (h : X.K = K) : SlR X (rSlL K) := by subst h; exact sl_list
theorem kCatA (h : X.K = K) : OpR X (binaryOp .Add) (rCatA K) := by subst h; exact op_catA
theorem kAny (h : X.K = K) (hc : X.calm = true) : CallR X (.builtin "any") (rAny K) := by subst h; exact cr_any hc
theorem kAll (h : X.K = K) (hc : X.calm = true) : CallR X (.builtin "all") (rAll K) := by subst h; exact cr_all hc
theorem kLtT (h : X.K = K) (hu : X.A.units < cLine) : OpR X (compareOp .Lt) (rLtT K) := by subst h; exact op_ltT hu
theorem kPiT {e tg : Expr} {te : TE} (h : X.K = K) (he : PE X e te) : PI X tg e (iTup K te) := by subst h; exact pi_tup he
theorem kPiL {e tg : Expr} {te : TE} (h : X.K = K) (he : PE X e te) : PI X tg e (iList K te) := by subst h; exact pi_list he
theorem kSlA (h : X.K = K) : SlR X (rSlA K) := by subst h; exact sl_tupA
end
end G
namespace G
open PySem PySem.Spec PyProof.Rows L2 Evl
theorem dpAll_map {α : Type} {K : PySem.W.Frag} {H : Hp} {f : α → V} {g : α → PyData} (h : ∀ x, Dp K H (f x) (g x)) : ∀ l : List α, DpAll K H (l.map f) (l.map g)
  | [] => .nil
  | x :: r => .cons (h x) (dpAll_map h r)
theorem dp_ints {K : PySem.W.Frag} {H : Hp} {a : Addr} {ns : List Int} (h : SqL K H a (ns.map V.int)) : Dp K H (.ref a) (.list (ns.map PyData.int)) := .lst h (dpAll_map (fun i => .int i) ns)
theorem dp_nil {K : PySem.W.Frag} {H : Hp} {a : Addr} (h : SqL K H a []) : Dp K H (.ref a) (.list []) := .lst h .nil
theorem eqv_nil (l : List PyData) : PyData.eqv (.list l) (.list []) = l.isEmpty := by cases l <;> rfl
theorem shaped_nil : SeqAt.shaped (.list []) = true := by decide +kernel
end G
/-! enumerate over a tuple -/
namespace PySem
section
variable {prog : Program} {w : World} {A : Around} {E : Value → Shared → Prop} {s : Shared}
theorem G_tupOf {h : Heap} {a : Addr} {xs : Array Value} (p : PyProof.Rows.IsTup h a xs) : h.IsTuple a xs := p
set_option maxHeartbeats 2000000 in
theorem G_enumNew {v : Value} {o : Obj} {Hh : Heap → Prop} (B : Begins v o Hh) :
    Meets (Builtin.«enumerate.__new__» ⟨[.type "enumerate", v], []⟩) (fun _ R s => Hh s.heap ∧
      R (.ok (.ret (.ref (s.heap.push o).objs.size))) { s with heap := (s.heap.push o).push { cls := .type "enumerate", data := .fields #[.none, .bool false, .ref s.heap.objs.size, rawInt 0, .none, .none] } }) :=
  .of_wp fun pr wo ar rr sh hh => by
    obtain ⟨hp, gg, dd, tk, os⟩ := sh; obtain ⟨h1, h2⟩ := hh
    have sub0 := sub_enumerate
    have qq : ∀ {A' : Around} {E : Value → Shared → Prop} {Q : Value → Shared → Prop}, Q (.ref hp.objs.size) ⟨hp.push o, gg, dd, tk, os⟩ → wpAny (model pr wo) A' (pyIter v) Q E ⟨hp, gg, dd, tk, os⟩ :=
      fun z => B.iter pr wo _ _ ⟨hp, gg, dd, tk, os⟩ _ h1 z
    wp_walk using qq
    refine wpAny_stack_any fun _ => wpAny_pure ?_
    split
    · rename_i cc _ _ _ _ _
      cases (cc == Value.type "enumerate") <;> (wp_walk using qq; exact ⟨_, rfl, h2⟩)
    · wp_walk using qq
      exact ⟨_, rfl, h2⟩
theorem G_enumCall {v : Value} {o : Obj} {Hh : Heap → Prop} {Q : Value → Shared → Prop} (B : Begins v o Hh) (h1 : Hh s.heap)
    (k : ∀ h', IsEnum h' (s.heap.objs.size + 1) s.heap.objs.size 0 .none → h'.get? s.heap.objs.size = some o → (∀ b u, s.heap.get? b = some u → h'.get? b = some u) → Q (.ref (s.heap.objs.size + 1)) { s with heap := h' }) :
    wpAny (model prog w) A (call (.type "enumerate") [v]) Q E s := by
  refine callType_new F.called_enumerate (by decide) (F.typeCall_enumerate_1 _) (F.newCall_enumerate_1 _) (fun y => F.args_object_init_2 y _) F.entry_enumerate_new (G_enumNew B) ⟨h1, ?_⟩
  have hz : (s.heap.push o).objs.size = s.heap.objs.size + 1 := Heap.size_push ..
  show _ ∧ _
  rw [hz]
  have he : IsEnum ((s.heap.push o).push { cls := .type "enumerate", data := .fields #[.none, .bool false, .ref s.heap.objs.size, rawInt 0, .none, .none] }) (s.heap.objs.size + 1) s.heap.objs.size 0 .none := by
    have hs := Heap.get?_push_size (s.heap.push o) (o := { cls := .type "enumerate", data := .fields #[.none, .bool false, .ref s.heap.objs.size, rawInt 0, .none, .none] }) rfl
    rw [hz] at hs; exact hs
  exact ⟨⟨_, he, rfl⟩, k _ he (Heap.get?_push_of_some _ (Heap.get?_push_size _ B.free)) fun b u x => Heap.get?_push_of_some _ (Heap.get?_push_of_some _ x)⟩
end
end PySem
namespace G
open PySem PySem.Spec PyProof.Rows L2 Evl
/-- the tuple at a at each turn, each item in a new pair -/
def IteT (K : PySem.W.Frag) (a : Addr) : It :=
  ⟨fun i H => ∃ (xs : List V) (x : V), SqT K H a xs ∧ xs[i]? = some x,
   fun i H v H' => ∃ T x, v = .ref T ∧ H T = none ∧ H' = upd H T (.tup [.int (i : Nat), x]) ∧ ∀ xs, SqT K H a xs → xs[i]? = some x,
   fun i H => ∃ xs : List V, SqT K H a xs ∧ xs.length = i⟩
theorem turn_enumT {P : Program} {w : World} {K : PySem.W.Frag} {elts : List Expr} {kk : Nat} {tpos : Pos} (a e it : Addr) :
    Turn P w K (.Tuple elts kk tpos) (IteT K a) [e, it] e (fun i h => (∃ old, IsEnum h e it ((i : Nat) : Int) old) ∧ h.IsTupleIter it a i ∧ e ≠ it ∧ a ≠ it ∧ a ≠ e) where
  mem := by simp
  obj := fun i h st b hb => by
    obtain ⟨⟨old, he⟩, ⟨o, ho, hc, hd⟩, _⟩ := st
    have hb' : b = e ∨ b = it := by simpa using hb
    rcases hb' with z | z
    · rw [z]; exact ⟨_, he, fun v q => nomatch q⟩
    · rw [z]; exact ⟨o, ho, fun v q => by rw [hd] at q; cases q⟩
  keep := fun i h h' st k => by
    obtain ⟨⟨old, he⟩, hi, hne⟩ := st
    exact ⟨⟨old, k e (by simp) _ he⟩, hi.at fun o q => k it (by simp) o q, hne⟩
  item := by
    intro X hP hw hK hc i pins s σ H E I hf st hg
    subst hP hw hK
    obtain ⟨⟨old, he⟩, hit, hne, hai, hae⟩ := st
    obtain ⟨xs, x, hq, hx⟩ := hg
    obtain ⟨its, rv, p, hz⟩ := I.tuple hq
    obtain ⟨u, hu, ru⟩ := rv.get hx
    have hel : e < s.heap.objs.size := Heap.lt_size he
    have hil : it < s.heap.objs.size := by obtain ⟨_, q, _⟩ := hit; exact Heap.lt_size q
    have hh : X.A.handled = none := I.ok.hd hc
    refine wpAny_pyNext_enum_itemD (Draws.tuple (A := X.A.in1) hh it a hai its.toArray) he ⟨hit, p⟩ ?_ hne ?_ fun y h' tk hy ho hst hT hsz hk => ?_
    · have := (List.getElem?_eq_some_iff.mp hu).1
      simpa using this
    · intro hm
      have hm' : e = it ∨ e = a := by simpa using hm
      rcases hm' with z | z
      · exact hne z
      · exact hae z.symm
    · have ey : y = u := by
        have hy' : its[i]? = some y := by simpa using hy
        exact Option.some.inj (hy'.symm.trans hu)
      subst ey
      refine ⟨_, rfl, wpAny_letOwnedTupleGo_enum (s := { s with heap := h', toks := tk + 1 }) ho fun h'' he' sb => ?_⟩
      have hT2 : h''.get? s.heap.objs.size = some { cls := .type "tuple", data := .seq #[.int i tk, y] } := (sb.2 _ (Nat.ne_of_gt hel)).trans hT
      have new : ObjOk X.prog X.w (upd H s.heap.objs.size (.tup [.int (i : Nat), x])) h'' s.heap.objs.size (.tup [.int (i : Nat), x]) :=
        ⟨by show 2 ≤ sizeLine; decide, [.int i tk, y], .cons ⟨_, rfl⟩ (.cons ru .nil), ⟨_, hT2, rfl, _, rfl⟩⟩
      have I1 : Inv X pins σ (upd H s.heap.objs.size (.tup [.int (i : Nat), x])) { s with heap := h'', toks := tk + 1 } :=
        I.turnedNew (ch := [e, it]) (fun b ob hb q => (sb.2 b (fun z => hb (by simp [z]))).trans (hk b ob (fun z => hb (by simp [z])) (fun z => hb (by simp [z])) q)) hf (Nat.le_refl _) new
      refine ⟨.ref s.heap.objs.size, _, I1, rfl, ⟨_, x, rfl, I.hok.fresh (Nat.le_refl _), rfl, fun ys hy => by rw [I.tuple_inj hy hq]; exact hx⟩, ⟨⟨y, ?_⟩, hst.1.at fun o q => (sb.2 it (Ne.symm hne)).trans q, hne, hai, hae⟩, fun b hb => ?_⟩
      · have e1 : ((i + 1 : Nat) : Int) = (i : Int) + 1 := by omega
        rw [e1]; exact he'
      · have hb' : b < s.heap.objs.size := by
          have hb2 : b = e ∨ b = it := by simpa using hb
          rcases hb2 with z | z
          · rw [z]; exact hel
          · rw [z]; exact hil
        rw [upd_ne (Nat.ne_of_lt hb')]
        exact (hf b hb).1
  done := by
    intro X hP hw hK hc i pins s σ H E I hf st hg
    subst hP hw hK
    obtain ⟨⟨old, he⟩, hit, hne, hai, hae⟩ := st
    obtain ⟨xs, hq, hx⟩ := hg
    obtain ⟨its, rv, p, hz⟩ := I.tuple hq
    obtain ⟨f0, f1, f2, f3, f4, f5⟩ := hf it (by simp)
    have hl := rv.length
    have hh : X.A.handled = none := I.ok.hd hc
    have ei : its.toArray.size = i := by rw [List.size_toArray, ← hl]; exact hx
    have st2 : s.heap.IsTupleIter it a its.toArray.size ∧ s.heap.IsTuple a its.toArray := by rw [ei]; exact ⟨hit, p⟩
    exact wpAny_pyNext_enum_endD (Draws.tuple (A := X.A.in1) hh it a hai its.toArray) he st2 fun h' eb => ⟨rfl, I.turned (t' := s.toks) (fun b o hb q => eb b o hb q) f0 f1 f3 f4 f5⟩
  self := fun A i s Q E st h => by
    obtain ⟨⟨_, he⟩, _⟩ := st
    exact wpAny_pyIter_enum he h
def iEnumT (K : PySem.W.Frag) (ta : TA) : TI := fun σ H R => ta σ H fun vs H1 => ∃ a xs, vs = [.ref a] ∧ SqT K H1 a xs ∧ R (IteT K a) H1
theorem pi_enumT {X : Cx} {e : Expr} {ta : TA} {p pos tpos : Pos} {elts : List Expr} {kk : Nat} (hg : Gl X "enumerate") (hm : X.mg "enumerate" = none) (ha : PA X [e] ta) (hs : starEach [e] X.env = [(false, eval e X.env)] := by rfl) :
    PI X (.Tuple elts kk tpos) (.Call (.Name "enumerate" p) [e] [] pos) (iEnumT X.K ta) := by
  refine ⟨fun pins s σ H R I h => Call_ (ld_blt I hg hm boot_enumerate (PyProof.Rows.callWith_type1 (thn (ha.run pos pins s σ H _ I h) fun us s1 ⟨vs, H1, I1, r1, q1⟩ => ?_) hs rfl))⟩
  obtain ⟨a, xs, rfl, hq, q⟩ := q1
  cases r1 with
  | cons r rr =>
    cases rr
    cases r
    obtain ⟨its, rv, p', hz⟩ := I1.tuple hq
    have hal : a < s1.heap.objs.size := by obtain ⟨o, ho, _⟩ := p'; exact Heap.lt_size ho
    refine G_enumCall (begins_tuple a its.toArray) p' fun h' he hit hk => wpAny_pyIter_enum he ?_
    have I2 : Inv X pins σ H1 { s1 with heap := h' } := I1.kept (t' := s1.toks) hk
    refine ⟨s1.heap.objs.size + 1, [s1.heap.objs.size + 1, s1.heap.objs.size], _, _, H1, rfl, I2, turn_enumT a (s1.heap.objs.size + 1) s1.heap.objs.size,
      ⟨⟨.none, he⟩, ⟨_, hit, rfl, rfl⟩, Nat.succ_ne_self _, Nat.ne_of_lt hal, Nat.ne_of_lt (Nat.lt_succ_of_lt hal)⟩, fun b hb => ?_, q⟩
    have hb' : b = s1.heap.objs.size + 1 ∨ b = s1.heap.objs.size := by simpa using hb
    have hle : s1.heap.objs.size ≤ b := by
      rcases hb' with z | z
      · rw [z]; exact Nat.le_add_right _ _
      · rw [z]; exact Nat.le_refl _
    exact I1.fpOk hle (I1.hok.fresh hle)
theorem walk_enumT {K : PySem.W.Frag} {a : Addr} {xs : List V} : Walk (IteT K a) xs.length (fun H => SqT K H a xs) (YPair (fun i => some (.int (i : Nat))) (fun i => xs[i]?)) := by
  refine ⟨fun i _ hi q => ⟨xs, xs[i], q, by simp [hi]⟩, fun _ q => ⟨xs, q, rfl⟩, fun i H v H' _ q y => ?_⟩
  obtain ⟨T, x, h1, h2, h3, h4⟩ := y
  exact ⟨T, .int (i : Nat), x, h1, h2, h3, rfl, h4 xs q⟩
theorem kPiEnumT {X : Cx} {K : PySem.W.Frag} {e : Expr} {ta : TA} {p pos tpos : Pos} {elts : List Expr} {kk : Nat} (h : X.K = K) (hg : Gl X "enumerate") (hm : X.mg "enumerate" = none) (ha : PA X [e] ta) (hs : starEach [e] X.env = [(false, eval e X.env)] := by rfl) :
    PI X (.Tuple elts kk tpos) (.Call (.Name "enumerate" p) [e] [] pos) (iEnumT K ta) := by subst h; exact pi_enumT hg hm ha hs
end G
/-! t[a::2], t a tuple -/
namespace HT
open PySem PySem.Spec PyProof.Rows L2
section
variable {prog : Program} {w : World} {A : Around} {E : Value → Shared → Prop} {s : Shared}
theorem g_applied {sl : Addr} {vl vu vs : Value} {lo hi : Option Int} {st : Int} {n : Nat} {Q : Int × Int × Nat → Shared → Prop} (hs : s.heap.IsSliceOf sl vl vu vs) (pl : IsPart vl lo) (pu : IsPart vu hi) (ps : IsPart vs (some st)) (h0 : st ≠ 0)
    (h : Q ((Builtin.Slice.sliceAdjust lo hi st (n : Int)).1, st, Builtin.Slice.slicePlaces (Builtin.Slice.sliceAdjust lo hi st (n : Int)).1 (Builtin.Slice.sliceAdjust lo hi st (n : Int)).2 st) s) :
    wpAny (model prog w) A (Builtin.Slice.sliceApplied (.ref sl) (pure (n : Int))) Q E s := by
  obtain ⟨ob, hob, _, hd⟩ := id hs
  unfold Builtin.Slice.sliceApplied Builtin.Slice.sliceFields
  refine wpAny_bind (wpAny_bind (wpAny_field hob hd (x := vl) rfl (wpAny_bind (wpAny_field hob hd (x := vu) rfl (wpAny_bind (wpAny_field hob hd (x := vs) rfl (wpAny_pure ?_)))))))
  refine wpAny_bind (slicePart_ ps ?_)
  show wpAny _ _ (if (st == 0) = true then _ else _) _ _ s
  rw [if_neg (by intro q; exact h0 (eq_of_beq q))]
  exact wpAny_bind (slicePart_ pl (wpAny_bind (slicePart_ pu (wpAny_bind (wpAny_pure (wpAny_pure h))))))
def stepped (xs : List Value) (lo st : Int) (n : Nat) : List Value := (List.range n).filterMap fun (k : Nat) => xs.toArray[(lo + (k : Int) * st).toNat]?
theorem g_getStep {t sl : Addr} {its : List Value} {vl vu vs : Value} {lo hi : Option Int} {st : Int} {Q : Value → Shared → Prop} (ht : IsTup s.heap t its.toArray) (hs : s.heap.IsSliceOf sl vl vu vs) (pl : IsPart vl lo) (pu : IsPart vu hi) (ps : IsPart vs (some st)) (h0 : st ≠ 0) (h1 : st ≠ 1)
    (hz : (stepped its (Builtin.Slice.sliceAdjust lo hi st (its.toArray.size : Int)).1 st (Builtin.Slice.slicePlaces (Builtin.Slice.sliceAdjust lo hi st (its.toArray.size : Int)).1 (Builtin.Slice.sliceAdjust lo hi st (its.toArray.size : Int)).2 st)).length ≤ sizeLine)
    (h : Q (.ref s.heap.objs.size) { s with heap := s.heap.push { cls := .type "tuple", data := .seq (stepped its (Builtin.Slice.sliceAdjust lo hi st (its.toArray.size : Int)).1 st (Builtin.Slice.slicePlaces (Builtin.Slice.sliceAdjust lo hi st (its.toArray.size : Int)).1 (Builtin.Slice.sliceAdjust lo hi st (its.toArray.size : Int)).2 st)).toArray } }) :
    wpAny (model prog w) A (getItem (.ref t) (.ref sl)) Q E s := by
  have ok : sizeOk (.seq (stepped its (Builtin.Slice.sliceAdjust lo hi st (its.toArray.size : Int)).1 st (Builtin.Slice.slicePlaces (Builtin.Slice.sliceAdjust lo hi st (its.toArray.size : Int)).1 (Builtin.Slice.sliceAdjust lo hi st (its.toArray.size : Int)).2 st)).toArray) := by
    show (stepped its _ st _).toArray.size ≤ sizeLine
    rw [List.size_toArray]; exact hz
  obtain ⟨ob, hob, hc, hd⟩ := id hs
  have hTs : s.TypeIs (.ref sl) "slice" := ⟨ob, hob, hc⟩
  unfold getItem
  try with_reducible refine wpAny_holding ?_
  first | refine wpAny_bind (wpAny_pure ?_) | skip
  refine wpAny_bind (wpAny_sequenceKey ht.typeIs (by decide) ?_)
  refine wpAny_bind (wpAny_callSpecial?_slot (name := Str.ofString "__getitem__") ht.typeIs slot_tuple_getitem (wpAny_call_entry slot_tuple_getitem ht.typeIs entry_tuple_getitem ?_ (args_tuple_getitem _ _)))
  show wpAny _ _ (Builtin.Tuple.tupleItemsOf (.ref t) >>= _) _ _ s
  refine wpAny_bind (tupleItemsOf_ ht (wpAny_bind (wpAny_typeOf hTs ?_)))
  rw [if_pos (by decide)]
  refine wpAny_bind (g_applied hs pl pu ps h0 ?_)
  generalize (Builtin.Slice.sliceAdjust lo hi st (its.toArray.size : Int)).1 = l0 at *
  generalize Builtin.Slice.slicePlaces l0 (Builtin.Slice.sliceAdjust lo hi st (its.toArray.size : Int)).2 st = n0 at *
  have hno : ¬ ((l0 == 0 && st == 1 && n0 == its.toArray.size) = true) := by
    intro q
    rw [Bool.and_eq_true, Bool.and_eq_true] at q
    exact h1 (eq_of_beq q.1.2)
  show wpAny _ _ (if (l0 == 0 && st == 1 && n0 == its.toArray.size) = true then _ else _) _ _ s
  rw [if_neg hno]
  first
    | exact wpAny_bind (m := Builtin.Tuple.tupleExact _) (wpAny_newObj_type (wpAny_pure ⟨_, rfl, wpAny_pure h⟩) ok)
    | exact wpAny_bind (m := Builtin.Tuple.tupleExact _) (wpAny_newObj_type (wpAny_bind (wpAny_pure (wpAny_pure ⟨_, rfl, wpAny_pure h⟩))) ok)
    | exact wpAny_bind (wpAny_bind (m := Builtin.Tuple.tupleExact _) (wpAny_newObj_type (wpAny_pure (wpAny_pure ⟨_, rfl, wpAny_pure h⟩)) ok))
    | exact wpAny_bind (wpAny_bind (m := Builtin.Tuple.tupleExact _) (wpAny_newObj_type (wpAny_pure ⟨_, rfl, wpAny_pure h⟩) ok))
end
end HT
namespace G
open PySem PySem.Spec PyProof.Rows L2 Evl
/-- every second item from a on -/
def halfL {α : Type} (a : Nat) (xs : List α) : List α := (List.range ((xs.length - a + 1) / 2)).filterMap fun k => xs[a + 2 * k]?
theorem halfL_len {α : Type} (a : Nat) (xs : List α) : (halfL a xs).length ≤ xs.length + 1 := by
  unfold halfL
  refine Nat.le_trans (List.length_filterMap_le _ _) ?_
  rw [List.length_range]; omega
theorem vals_filterMap {f : Nat → Option V} {g : Nat → Option Value} : ∀ {l : List Nat}, (∀ k, k ∈ l → RelO (f k) (g k)) → Vals (l.filterMap f) (l.filterMap g)
  | [], _ => .nil
  | k :: r, h => by
    have hk := h k (List.mem_cons_self ..)
    have ih := vals_filterMap (l := r) fun j hj => h j (List.mem_cons_of_mem _ hj)
    rw [List.filterMap_cons, List.filterMap_cons]
    cases e : f k with
    | none =>
      cases e2 : g k with
      | none => exact ih
      | some u => rw [e, e2] at hk; exact hk.elim
    | some v =>
      cases e2 : g k with
      | none => rw [e, e2] at hk; exact hk.elim
      | some u => rw [e, e2] at hk; exact .cons hk ih
def tHalf (K : PySem.W.Frag) (a : Nat) (te : TE) : TE := fun σ H Q => te σ H fun x H1 => ∃ t xs, x = .ref t ∧ SqT K H1 t xs ∧ xs.length ≤ 100000 ∧ ∀ p, H1 p = none → Q (.ref p) (upd H1 p (.tup (halfL a xs)))
theorem half_places {a n : Nat} (h : a ≤ 1) : (Builtin.Slice.sliceAdjust (some (a : Int)) none 2 (n : Int)).1 = ((min a n : Nat) : Int) ∧
    Builtin.Slice.slicePlaces (Builtin.Slice.sliceAdjust (some (a : Int)) none 2 (n : Int)).1 (Builtin.Slice.sliceAdjust (some (a : Int)) none 2 (n : Int)).2 2 = (n - a + 1) / 2 := by
  have h2 : ¬ ((2 : Int) < 0) := by omega
  have h3 : (2 : Int) > 0 := by omega
  have ha : ¬ ((a : Int) < 0) := by omega
  have e : Builtin.Slice.sliceAdjust (some (a : Int)) none 2 (n : Int) = (((min a n : Nat) : Int), (n : Int)) := by
    unfold Builtin.Slice.sliceAdjust
    simp only [h2, if_false, ha]
    refine Prod.ext ?_ rfl
    show min (a : Int) (n : Int) = ((min a n : Nat) : Int)
    omega
  rw [e]
  refine ⟨rfl, ?_⟩
  show Builtin.Slice.slicePlaces ((min a n : Nat) : Int) (n : Int) 2 = (n - a + 1) / 2
  unfold Builtin.Slice.slicePlaces
  simp only [h3, if_true]
  split <;> omega
section
variable {X : Cx}
theorem pe_half {e : Expr} {te : TE} {a : Nat} {k1 k2 : Nat} {p1 p2 p3 pos : Pos} (ha : a ≤ 1) (he : PE X e te) : PE X (.Subscript e (.Slice (some (.Constant (.int (a : Int)) k1 p1)) none (some (.Constant (.int 2) k2 p2)) p3) pos) (tHalf X.K a te) := by
  refine ⟨fun pins s σ H Q I h => Subscript_ (thn (he.run pins s σ H _ I h) fun v s1 ⟨x, H1, I1, r1, q1⟩ => ?_)⟩
  obtain ⟨t, xs, rfl, hx, hlen, q⟩ := q1
  cases r1
  have hlo : PO X (some (.Constant (.int (a : Int)) k1 p1)) (tPart (tC (.int (a : Int)))) := po_some pe_int
  have hst : PO X (some (.Constant (.int 2) k2 p2)) (tPart (tC (.int 2))) := po_some pe_int
  refine wpAny_Slice (thn (hlo.run pins s1 σ H1 (fun o H2 => o = some (a : Int) ∧ H2 = H1) I1 ⟨_, rfl, rfl, rfl⟩) fun vl s2 ⟨l, H2, I2, pl, el, e2⟩ => ?_)
  subst el e2
  refine thn (po_none.run pins s2 σ H2 (fun o H3 => o = none ∧ H3 = H2) I2 ⟨rfl, rfl⟩) fun vu s3 ⟨u, H3, I3, pu, eu, e3⟩ => ?_
  subst eu e3
  refine thn (hst.run pins s3 σ H3 (fun o H4 => o = some 2 ∧ H4 = H3) I3 ⟨_, rfl, rfl, rfl⟩) fun vs s4 ⟨o, H4, I4, ps, eo, e4⟩ => ?_
  subst eo e4
  have I5 : Inv X pins σ H4 { s4 with heap := s4.heap.push { cls := .type "slice", data := .fields #[vl, vu, vs] } } := I4.kept (t' := s4.toks) fun b ob q => Heap.get?_push_of_some _ q
  obtain ⟨its, r, ht, hz⟩ := I5.tuple hx
  have hl : its.toArray.size = xs.length := by rw [List.size_toArray]; exact r.length.symm
  obtain ⟨hp1, hp2⟩ := half_places (n := xs.length) ha
  have hrel : Vals (halfL a xs) (HT.stepped its ((min a xs.length : Nat) : Int) 2 ((xs.length - a + 1) / 2)) := by
    unfold halfL HT.stepped
    refine vals_filterMap fun k hk => ?_
    have hk' := List.mem_range.mp hk
    have hi : a + 2 * k < xs.length := by omega
    have en : (((min a xs.length : Nat) : Int) + (k : Int) * 2).toNat = a + 2 * k := by omega
    rw [en, List.getElem?_eq_getElem hi]
    obtain ⟨u, hu, ru⟩ := r.get (List.getElem?_eq_getElem hi)
    rw [List.getElem?_toArray, hu]
    exact ru
  have hsz : (halfL a xs).length ≤ sizeLine := sz_of (by
    unfold halfL
    refine Nat.le_trans (List.length_filterMap_le _ _) ?_
    rw [List.length_range]
    omega)
  show wpAny (model X.prog X.w) X.A (subscriptTail e (.Slice (some (.Constant (.int (a : Int)) k1 p1)) none (some (.Constant (.int 2) k2 p2)) p3) (.ref t) (.ref s4.heap.objs.size)) (EP X pins σ Q) X.xe { s4 with heap := s4.heap.push { cls := .type "slice", data := .fields #[vl, vu, vs] } }
  refine tail_any (ops := [.ref t, .ref s4.heap.objs.size]) ht.typeIs PyProof.Rows.slot_tuple_getitem.lookup ?_ (by with_unfolding_all rfl)
  refine HT.g_getStep ht (Heap.IsSliceOf.new _ vl vu vs) pl pu ps (by decide) (by decide) ?_ ?_
  · rw [hl, hp2, hp1, ← hrel.length]; exact hsz
  · rw [hl, hp2, hp1]
    refine ⟨.ref _, _, I5.laid (t' := s4.toks) (o := .tup (halfL a xs)) (fun b ob q => Heap.get?_push_of_some _ q) (Nat.le_refl _) ?_, rfl, q _ (I5.hok.fresh (Nat.le_refl _))⟩
    exact ⟨hsz, _, hrel, ⟨_, Heap.get?_push_size _ rfl, rfl, _, rfl⟩⟩
end
end G
/-! a dict comprehension whose keys are tuples of ints and texts -/
namespace L2
open PySem PySem.Spec PyProof.Rows
theorem put_tup {X : Cx} {ps : List (Addr × Obj)} {σ : St} {H : Hp} {s : Shared} {E : Value → Shared → Prop} {b D : Addr} {es : List (List Key × V)} {k : List Key} {v : V} {r : Value} {Q : Unit → Shared → Prop}
    (hu : X.A.units < cLine) (J : Inv X ps σ H s) (hb : H b = some (.tup (k.map kV))) (hD : H D = some (.dT es)) (hn : es.length < sizeLine) (hv : RelV v r)
    (go : ∀ s2, Inv X ps σ (upd H D (.dT (putK es k v))) s2 → Q () s2) : wpAny (model X.prog X.w) X.A (dictSet D (.ref b) r) Q E s := by
  obtain ⟨le, low, xs, rel, at_⟩ := dt_of J.hok hD
  have l1 : xs.length ≤ sizeLine := Paired.length rel ▸ le
  have l2 : (putK es k v).length ≤ sizeLine := Nat.le_trans (length_putK es k v) hn
  refine wpAny_dictSet_heap (hsz := l1) hu (key_of J.hok hb) at_ fun h2 d2 sb => go _ ?_
  obtain ⟨o2, e2, ep2, c1, c2, c3, c4, _, c6⟩ := d2
  refine d_write J (by rw [hD]; exact True.intro) sb ⟨o2, c1⟩ ⟨l2, low, _, (rel.put k hb hv).keeps fun c ys hc => ?_, o2, e2, ep2, c1, c2, c3, c4, c6⟩
  exact (upd_ne (ne_of hc hD (fun z => nomatch z))).trans hc
section
variable {X : Cx}
/-- one turn: the target, the test, the key, the value, the store -/
def dctTurn (D : Addr) (g : TG) (tt : TT) (tk tv : TE) (vs : List Nat) (σ : St) (Nx : Hp → Prop) (x : V) (H : Hp) : Prop :=
  g x (wipe σ vs) H fun τ G1 => wipe τ vs = wipe σ vs ∧ tt τ G1 fun b G2 => if b = true then tk τ G2 fun y G3 => tv τ G3 fun z G4 =>
    ∃ (es : List (List Key × V)) (k : List Key) (c : Addr), y = .ref c ∧ G4 c = some (.tup (k.map kV)) ∧ G4 D = some (.dT es) ∧ es.length < sizeLine ∧ Nx (upd G4 D (.dT (putK es k z))) else Nx G2
def tDct (wi : TI) (g : TG) (tt : TT) (tk tv : TE) (vs : List Nat) : TE := fun σ H Q => wi σ H fun J H1 => ∀ D, H1 D = none → ∃ W : Nat → Nat → Hp → Prop, (∃ m, W 0 m (upd H1 D (.dT []))) ∧
  ∀ i m G, W i m G → (J.stop i G ∧ Q (.ref D) G) ∨ (J.go i G ∧ ∃ Nx : Hp → Prop, (∀ G2, Nx G2 → ∃ m2, m2 < m ∧ W (i + 1) m2 G2) ∧ ∀ x G2, J.yld i G x G2 → dctTurn D g tt tk tv vs σ Nx x G2)
abbrev InBlk (X : Cx) (scope : Scope) (F : Cx → Prop) : Prop := ∀ (s : Shared) (H : Hp) (C : Addr) (cl : List (Str × Addr)) (fp : List Addr), F (X.blk s H scope (compEnvC scope cl C X.env) fp)
theorem pe_dct {kx vx tg iter : Expr} {ifs : List Expr} {scope : Scope} {own : List (Str × Nat)} {pos : Pos} {wi : TI} {g : TG} {tt : TT} {tk tv : TE} (calm : X.calm = true) (nd : X.N.Nodup) (hu : X.A.units < cLine)
    (walk : PI X tg iter wi) (ok : BlkOk X.N X.env.scope scope own) (bg : InBlk X scope fun Y => PG Y tg g) (bt : InBlk X scope fun Y => PTs Y ifs tt) (bk : InBlk X scope fun Y => PE Y kx tk) (bv : InBlk X scope fun Y => PE Y vx tv)
    (plain : ∀ x, foldedSetIterable iter X.env x = pure x := by intro _; rfl) : PE X (.DictComp kx vx [⟨tg, iter, ifs, 0⟩] scope pos) (tDct wi g tt tk tv (own.map (·.2))) := by
  refine ⟨fun ps s σ H Q I hyp => ?_⟩
  rw [arm_eval_DictComp]
  have clo := closure_ok (env := X.env) (scope := scope) fun y hy e => (ok.free y hy e).elim (fun k => I.ok.has _ (.inl k)) (fun k => I.ok.has _ (.inr k))
  refine wpAny_comprehension_free (use := none) rfl plain clo ok.kind (fun y hy e => (ok.uniq y hy).trans (congrArg some e)) (thn (walk.run ps s σ H _ I hyp) fun _ s1 got => thn got fun _ s2 more => ?_)
  obtain ⟨it, fp, tn, J, H2, rfl, I2, T, here, fpok, rest⟩ := more
  refine wpAny_newObj_type (newEnv_comp ?_)
  let D : Addr := s2.heap.objs.size
  have free : H2 D = none := I2.hok.fresh (Nat.le_refl _)
  obtain ⟨W, ⟨m0, start⟩, turn⟩ := rest D free
  let s3 : Shared := { s2 with heap := s2.heap.push { cls := .type "dict", data := .dict #[] } }
  have old : ∀ b o, s2.heap.get? b = some o → s3.heap.get? b = some o := fun b o e => Heap.get?_push_of_some _ e
  have I3 : Inv X ps σ (upd H2 D (.dT [])) s3 := I2.laid (t' := s2.toks) old (Nat.le_refl _) (dt_empty s2.heap I2.big)
  have small : ∀ b ∈ fp, b < s2.heap.objs.size := fun b hb => (T.obj _ _ here b hb).elim fun _ e => Heap.lt_size e.1
  have fp3 : ∀ b ∈ fp, FpOk X ps (upd H2 D (.dT [])) b ∧ b < s3.heap.objs.size := fun b hb =>
    ⟨⟨(upd_ne (Nat.ne_of_lt (small b hb))).trans (fpok b hb).1, (fpok b hb).2⟩, Nat.lt_of_lt_of_eq (Nat.lt_succ_of_lt (small b hb)) (Heap.size_push ..).symm⟩
  have here3 : tn 0 s3.heap := T.keep _ _ _ here fun b _ o e => old b o e
  have I4 := block_start I3 ok nd fp3
  generalize hH3 : upd H2 D (.dT []) = H3 at I3 I4 fp3 start
  generalize hC : s3.heap.objs.size = C at I4 ⊢
  generalize hce : compEnvC scope (cellsFrom (C + 1) scope.names (cloFrom X.env.cells scope.names [])) C X.env = ce at I4
  have locC : ce.locals = C := by rw [← hce]; rfl
  have at_ : ∀ F : Cx → Prop, InBlk X scope F → F (X.blk s3 H3 scope ce fp) := fun F hF => by rw [← hce]; exact hF ..
  have pg := at_ _ bg
  have pt := at_ _ bt
  have pk := at_ _ bk
  have pv := at_ _ bv
  let B : Cx := X.blk s3 H3 scope ce fp
  let s4 : Shared := { s3 with heap := pushCells (s3.heap.push { cls := .type "dict", data := .dict #[] }) scope.names }
  show codeAny _ _ (.compStart (.DictComp kx vx [⟨tg, iter, ifs, 0⟩] scope pos) 0 (.ref it) (.ref D) (compEnvC scope (cellsFrom (C + 1) scope.names (cloFrom X.env.cells scope.names [])) C X.env)) _ s4
  rw [hce]
  have here4 : tn 0 s4.heap := T.keep _ _ _ here3 fun b _ o e => pushCells_keeps _ _ _ _ (Heap.get?_push_of_some _ e)
  have away : ∀ {τ : St} {G : Hp} {t : Shared}, Inv B [] τ G t → (∀ b ∈ fp, G b = none) → ∀ b ∈ fp, FpOk B [] G b := fun {τ G t} J hn b hb =>
    ⟨hn b hb, (J.ok.exf b hb).1, J.ok.exfs b hb, .inl hb, fun x c e => (J.ok.exf b hb).2 x c e, fun p hp => nomatch (show p ∈ ([] : List (Addr × Obj)) ++ [] from hp)⟩
  let Iv : Nat → Shared → Prop := fun n t => ∃ i G, Inv B [] (wipe σ (own.map (·.2))) G t ∧ tn i t.heap ∧ (∀ b ∈ fp, G b = none) ∧ W i n G
  refine codeAny_compStart_dict ?loop (T.self X.A 0 _ _ _ here4 ?loop)
  refine compLoop_anyD Iv ?_ m0 ⟨0, H3, I4, here4, fun b hb => (fp3 b hb).1.1, start⟩
  rintro n t ⟨i, G, J, st, no, w⟩
  rcases turn i n G w with ⟨stop, fin⟩ | ⟨go, Nx, hNx, step⟩
  · -- the walk is over
    refine thnF (T.done B rfl rfl rfl calm i [] t _ G (fun _ _ => False) J (away J no) st stop) fun r t2 ⟨er, J2⟩ => ?_
    subst er
    have back : Inv X ps σ G t2 := I3.call' (ch := fp) J2.os J2.base J2.hok J2.bare fun b hb => ⟨(fp3 b hb).1.2.2.2.1, (fp3 b hb).1.2.1, (fp3 b hb).1.2.2.2.2.1, (fp3 b hb).1.2.2.2.2.2⟩
    have noC : G C = none := locC ▸ (show G ce.locals = none from J2.free)
    obtain ⟨m, hm, _⟩ := J2.loc
    have fo := I3.fpOk (Nat.le_of_eq hC) noC
    refine ⟨m, locC ▸ (show t2.heap.Ns ce.locals m from hm), fun h3 sb => ?_⟩
    obtain ⟨f0, f1, f2, f3, f4, f5⟩ := fo
    exact ⟨.ref D, G, back.turned (t' := t2.toks) (fun b o hb e => (sb.2 b hb).trans e) f0 f1 f3 f4 f5, rfl, fin⟩
  · refine thnF (T.item B rfl rfl rfl calm i [] t _ G (fun _ _ => False) J (away J no) st go) fun r t2 ⟨u, er, more⟩ => ?_
    subst er
    refine thnF more fun _ t3 ⟨x, G3, J3, rx, hy, st3, no3⟩ => ?_
    have J3p := J3.pinned (away J3 no3) (T.obj _ _ st3)
    refine thnF (pg.run _ t3 _ G3 x u _ J3p rx (step x G3 hy)) fun _ t4 ⟨τ, G4, J4, hw, q4⟩ => ?_
    refine thnF (pt.run _ t4 τ G4 _ J4 q4) fun b t5 ⟨G5, J5, q5⟩ => ?_
    have again : ∀ {t' : Shared} {G' : Hp}, Inv B ([] ++ pinsAt fp t3.heap) τ G' t' → Nx G' → ∃ m, m < n ∧ Iv m t' := fun {t' G'} J' nx => by
      obtain ⟨m2, lt, w2⟩ := hNx G' nx
      have kept : ∀ c ∈ fp, ∀ o, t3.heap.get? c = some o → t'.heap.get? c = some o ∧ G' c = none := fun c hc o e =>
        let z := J'.pin (c, o) (List.mem_append_right _ (List.mem_append_right _ (mem_pinsAt hc e)))
        ⟨z.1, z.2.1⟩
      have len : (wipe σ (own.map (·.2))).length = τ.length := by rw [← hw, wipe_length]
      exact ⟨m2, lt, i + 1, G', (J'.unpinned (pins := [])).weak len (fun j v e => (wipe_some (hw ▸ e)).1), T.keep _ _ _ st3 fun c hc o e => (kept c hc o e).1,
        fun c hc => (T.obj _ _ st3 c hc).elim fun o e => (kept c hc o e.1).2, w2⟩
    cases b with
    | false =>
      simp only [Bool.false_eq_true, if_false] at q5 ⊢
      exact again J5 q5
    | true =>
      simp only [if_true] at q5 ⊢
      refine thnF (pk.run _ t5 τ G5 _ J5 q5) fun kv t6 ⟨y, G6, J6, ry, q6⟩ => ?_
      refine thnF (pv.run _ t6 τ G6 _ J6 q6) fun vv t7 ⟨z, G7, J7, rz, es, k, c, ey, hc, hD, hl, nx⟩ => ?_
      subst ey
      obtain rfl : kv = Value.ref c := ry
      exact put_tup (X := B) hu J7 hc hD hl rz fun t8 J8 => again J8 nx
end
end L2
namespace G
open PySem PySem.Spec PyProof.Rows L2 Evl
/-! ## two lists side by side -/
def All2 {α β : Type} (R : α → β → Prop) (as : List α) (bs : List β) : Prop := as.length = bs.length ∧ ∀ (i : Nat) (a : α) (b : β), as[i]? = some a → bs[i]? = some b → R a b
theorem All2.nil {α β : Type} {R : α → β → Prop} : All2 R [] [] := ⟨rfl, fun _ _ _ h => nomatch h⟩
theorem All2.imp {α β : Type} {R S : α → β → Prop} {as : List α} {bs : List β} (h : All2 R as bs) (f : ∀ a b, R a b → S a b) : All2 S as bs := ⟨h.1, fun i a b h1 h2 => f _ _ (h.2 i a b h1 h2)⟩
theorem All2.snoc {α β : Type} {R : α → β → Prop} {as : List α} {bs : List β} {a : α} {b : β} (h : All2 R as bs) (r : R a b) : All2 R (as ++ [a]) (bs ++ [b]) := by
  refine ⟨by rw [List.length_append, List.length_append, h.1]; rfl, fun i x y h1 h2 => ?_⟩
  by_cases hi : i < as.length
  · rw [List.getElem?_append_left hi] at h1
    rw [List.getElem?_append_left (h.1 ▸ hi)] at h2
    exact h.2 i x y h1 h2
  · rw [List.getElem?_append_right (by omega)] at h1
    rw [List.getElem?_append_right (by rw [← h.1]; omega), ← h.1] at h2
    cases e : i - as.length with
    | zero =>
      rw [e] at h1 h2
      cases h1; cases h2; exact r
    | succ n => rw [e] at h1; exact nomatch h1
theorem All2.at_ {α β : Type} {R : α → β → Prop} {as : List α} {bs : List β} (h : All2 R as bs) {i : Nat} {a : α} (e : as[i]? = some a) : ∃ b, bs[i]? = some b ∧ R a b := by
  have hi : i < bs.length := by rw [← h.1]; exact (List.getElem?_eq_some_iff.mp e).1
  exact ⟨bs[i], List.getElem?_eq_getElem hi, h.2 i a _ e (List.getElem?_eq_getElem hi)⟩
theorem All2.of {α β : Type} {R : α → β → Prop} {as : List α} {bs : List β} (h : All2 R as bs) {i : Nat} {b : β} (e : bs[i]? = some b) : ∃ a, as[i]? = some a ∧ R a b := by
  have hi : i < as.length := by rw [h.1]; exact (List.getElem?_eq_some_iff.mp e).1
  exact ⟨as[i], List.getElem?_eq_getElem hi, h.2 i _ b (List.getElem?_eq_getElem hi) e⟩
theorem All2.cons {α β : Type} {R : α → β → Prop} {as : List α} {bs : List β} {a : α} {b : β} (r : R a b) (h : All2 R as bs) : All2 R (a :: as) (b :: bs) := by
  refine ⟨by rw [List.length_cons, List.length_cons, h.1], fun i x y h1 h2 => ?_⟩
  cases i with
  | zero => cases h1; cases h2; exact r
  | succ i => exact h.2 i x y h1 h2
theorem take_snoc1 {α : Type} {l : List α} {j : Nat} {x : α} (h : l[j]? = some x) : l.take (j + 1) = l.take j ++ [x] := by rw [List.take_add_one, h]; rfl
theorem refs_get {as : List Addr} {k : Nat} {x : V} (hx : (as.map V.ref)[k]? = some x) : ∃ a, as[k]? = some a ∧ x = .ref a := by
  rw [List.getElem?_map] at hx
  cases e : as[k]? with
  | none => rw [e] at hx; cases hx
  | some a => rw [e] at hx; cases hx; exact ⟨a, rfl, rfl⟩
/-! ## walks: any body -/
theorem wk_list {K : PySem.W.Frag} {a : Addr} {xs : List V} {body : (Hp → Prop) → V → Hp → Prop} {H0 : Hp} {Qd : Hp → Prop} (Pv : Nat → Hp → Prop) (h0 : Pv 0 H0) (hl : ∀ i H, i ≤ xs.length → Pv i H → SqL K H a xs)
    (hs : ∀ i x H, xs[i]? = some x → Pv i H → body (Pv (i + 1)) x H) (hd : ∀ H, Pv xs.length H → Qd H) :
    ∃ W : Nat → Nat → Hp → Prop, (∃ m, W 0 m H0) ∧ ∀ i m H, W i m H → ((Itl K a).stop i H ∧ Qd H) ∨ ((Itl K a).go i H ∧ ∃ Nx : Hp → Prop, (∀ H', Nx H' → ∃ m', m' < m ∧ W (i + 1) m' H') ∧ ∀ x H', (Itl K a).yld i H x H' → body Nx x H') := by
  refine ⟨fun i m H => m = xs.length - i ∧ i ≤ xs.length ∧ Pv i H, ⟨xs.length, by simp, Nat.zero_le _, h0⟩, ?_⟩
  rintro i m H ⟨rfl, hi, p⟩
  have q := hl i H hi p
  rcases Nat.lt_or_ge i xs.length with lt | ge
  · have e : xs[i]? = some xs[i] := List.getElem?_eq_getElem lt
    refine .inr ⟨⟨xs, xs[i], q, e⟩, Pv (i + 1), fun H' p' => ⟨xs.length - (i + 1), by omega, rfl, lt, p'⟩, fun x H' y => ?_⟩
    obtain ⟨rfl, y⟩ := y
    exact hs i x _ (y xs q) p
  · have e : i = xs.length := by omega
    subst e
    exact .inl ⟨⟨xs, q, Nat.le_refl _⟩, hd H p⟩
theorem wk_tup {K : PySem.W.Frag} {a : Addr} {xs : List V} {body : (Hp → Prop) → V → Hp → Prop} {H0 : Hp} {Qd : Hp → Prop} (Pv : Nat → Hp → Prop) (h0 : Pv 0 H0) (hl : ∀ i H, i ≤ xs.length → Pv i H → SqT K H a xs)
    (hs : ∀ i x H, xs[i]? = some x → Pv i H → body (Pv (i + 1)) x H) (hd : ∀ H, Pv xs.length H → Qd H) :
    ∃ W : Nat → Nat → Hp → Prop, (∃ m, W 0 m H0) ∧ ∀ i m H, W i m H → ((Itt K a).stop i H ∧ Qd H) ∨ ((Itt K a).go i H ∧ ∃ Nx : Hp → Prop, (∀ H', Nx H' → ∃ m', m' < m ∧ W (i + 1) m' H') ∧ ∀ x H', (Itt K a).yld i H x H' → body Nx x H') := by
  refine ⟨fun i m H => m = xs.length - i ∧ i ≤ xs.length ∧ Pv i H, ⟨xs.length, by simp, Nat.zero_le _, h0⟩, ?_⟩
  rintro i m H ⟨rfl, hi, p⟩
  have q := hl i H hi p
  rcases Nat.lt_or_ge i xs.length with lt | ge
  · have e : xs[i]? = some xs[i] := List.getElem?_eq_getElem lt
    refine .inr ⟨⟨xs, xs[i], q, e⟩, Pv (i + 1), fun H' p' => ⟨xs.length - (i + 1), by omega, rfl, lt, p'⟩, fun x H' y => ?_⟩
    obtain ⟨rfl, y⟩ := y
    exact hs i x _ (y xs q) p
  · have e : i = xs.length := by omega
    subst e
    exact .inl ⟨⟨xs, q, Nat.le_refl _⟩, hd H p⟩
theorem wk_it {J : It} {n : Nat} {Gd : Hp → Prop} {Y : Nat → Hp → V → Hp → Prop} (w : Walk J n Gd Y) {body : (Hp → Prop) → V → Hp → Prop} {H0 : Hp} {Qd : Hp → Prop} (Pv : Nat → Hp → Prop) (h0 : Pv 0 H0) (hG : ∀ i H, i ≤ n → Pv i H → Gd H)
    (hs : ∀ i x H H', i < n → Pv i H → Y i H x H' → body (Pv (i + 1)) x H') (hd : ∀ H, Pv n H → Qd H) :
    ∃ W : Nat → Nat → Hp → Prop, (∃ m, W 0 m H0) ∧ ∀ i m H, W i m H → (J.stop i H ∧ Qd H) ∨ (J.go i H ∧ ∃ Nx : Hp → Prop, (∀ H', Nx H' → ∃ m', m' < m ∧ W (i + 1) m' H') ∧ ∀ x H', J.yld i H x H' → body Nx x H') := by
  refine ⟨fun i m H => m = n - i ∧ i ≤ n ∧ Pv i H, ⟨n, by simp, Nat.zero_le _, h0⟩, ?_⟩
  rintro i m H ⟨rfl, hi, p⟩
  rcases Nat.lt_or_ge i n with lt | ge
  · exact .inr ⟨w.goes i H lt (hG i H hi p), Pv (i + 1), fun H' p' => ⟨n - (i + 1), by omega, rfl, lt, p'⟩, fun x H' y => hs i x H H' lt p (w.yields i H x H' lt (hG i H hi p) y)⟩
  · have e : i = n := by omega
    subst e
    exact .inl ⟨w.stops H (hG i H hi p), hd H p⟩
/-! ## tuples joined and cut, whatever object that is -/
theorem cat_tup {K : PySem.W.Frag} {H : Hp} {a b : Addr} {xs ys : List V} {Q : VK} (ha : H a = some (.tup xs)) (hb : H b = some (.tup ys)) (hl : xs.length + ys.length ≤ sizeLine) (q : ∀ c H', Ex H H' → H' c = some (.tup (xs ++ ys)) → Q (.ref c) H') : rCatA K (.ref a) (.ref b) H Q := by
  refine ⟨a, b, xs, ys, rfl, rfl, SqT.of ha, SqT.of hb, hl, fun e => ?_, fun _ e => ?_, fun _ _ p np => ?_⟩
  · subst e; exact q b H (Ex.refl _) hb
  · subst e; exact q a H (Ex.refl _) (by rw [List.append_nil]; exact ha)
  · exact q p _ (Ex.new np) upd_same
theorem cut_tup {K : PySem.W.Frag} {H : Hp} {a : Addr} {xs : List V} {lo hi : Option Int} {Q : VK} (ha : H a = some (.tup xs)) (q : ∀ c H', Ex H H' → H' c = some (.tup (cutV xs lo hi)) → Q (.ref c) H') : rSlA K (.ref a) lo hi H Q := by
  refine ⟨a, xs, rfl, SqT.of ha, fun e => ?_, fun _ p np => q p _ (Ex.new np) upd_same⟩
  refine q a H (Ex.refl _) ?_
  rw [ha]
  unfold cutV
  rw [e.1, e.2, List.drop_zero, Nat.sub_zero, List.take_length]
theorem cutV_head {xs : List V} {k : Nat} (h : k ≤ xs.length) : cutV xs none (some (k : Int)) = xs.take k := by
  unfold cutV
  rw [HT.sIx_none, HT.sIx_nat, List.drop_zero, Nat.sub_zero, Nat.min_eq_left h]
theorem cutV_tail {xs : List V} {k : Nat} (h : k ≤ xs.length) : cutV xs (some (k : Int)) none = xs.drop k := by
  unfold cutV
  rw [HT.sIx_none, HT.sIx_nat, Nat.min_eq_left h, List.take_of_length_le]
  rw [List.length_drop]; exact Nat.le_refl _
end G
namespace G
open PySem PySem.Spec PyProof.Rows L2 Evl
theorem tYes_in {σ : L2.St} {H : Hp} {A B : Hp → Prop} (h : A H) : tYes σ H (fun b H3 => if b = true then A H3 else B H3) := by
  show if true = true then A H else B H
  exact iteT h
def tabV (bs : List Bool) : HO := .tup (bs.map V.bl)
theorem inV_ints {k : Int} {l : List Int} : inV (.int k) (l.map V.int) = l.contains k := by
  unfold inV
  rw [List.any_map, List.contains_eq_any_beq]
  congr 1
  funext y
  show (y == k) = (k == y)
  rw [Bool.eq_iff_iff]; simp; exact eq_comm
theorem inV_bls {k : Bool} {l : List Bool} : inV (.bl k) (l.map V.bl) = l.contains k := by
  unfold inV
  rw [List.any_map, List.contains_eq_any_beq]
  congr 1
  funext y
  show (y == k) = (k == y)
  cases y <;> cases k <;> rfl
theorem flat_map {α : Type} {f : α → V} (h : ∀ x, flatV (f x) = true) (l : List α) : (l.map f).all flatV = true := by
  rw [List.all_map]
  exact List.all_eq_true.mpr fun x _ => h x
end G
namespace G
/-! ## what is forced: the mathematics -/
def meet (a b : Option Bool) : Option Bool := if a = b then a else none
def pairUp (rows : List (Option Bool)) : List (Option Bool) := (List.range (rows.length / 2)).map fun i => meet (rows.getD (2 * i) none) (rows.getD (2 * i + 1) none)
def pick (a : Nat) (rows : List (Option Bool)) : List (Option Bool) := (List.range (rows.length / 2)).map fun i => rows.getD (a + 2 * i) none
def wo (rows : List (Option Bool)) (k : Int) : List (Option Bool) := if k = 0 then pick 0 rows else if k = 1 then pick 1 rows else pairUp rows
def forcedF (rows : List (Option Bool)) : List Int → Option Bool
  | [] => rows.getD 0 none
  | k :: ps => forcedF (wo rows k) ps
theorem wo_len (rows : List (Option Bool)) (k : Int) : (wo rows k).length = rows.length / 2 := by
  unfold wo pick pairUp
  split
  · rw [List.length_map, List.length_range]
  · split <;> rw [List.length_map, List.length_range]
/-- the assignment x agrees with the partial one -/
def agr : Nat → List Int → Bool
  | _, [] => true
  | x, k :: ps => (decide (k = -1) || decide (k = 1) == (x % 2 == 1)) && agr (x / 2) ps
theorem getD_map {α β : Type} {f : Nat → β} {n i : Nat} {d : β} (h : i < n) : ((List.range n).map f).getD i d = f i := by
  rw [List.getD_eq_getElem?_getD, List.getElem?_map, List.getElem?_range h]
  rfl
theorem meet_some {a b : Option Bool} {v : Bool} : meet a b = some v ↔ a = some v ∧ b = some v := by
  unfold meet
  constructor
  · intro h
    by_cases e : a = b
    · rw [if_pos e] at h; exact ⟨h, by rw [← e]; exact h⟩
    · rw [if_neg e] at h; cases h
  · rintro ⟨h1, h2⟩
    rw [h1, h2, if_pos rfl]
theorem forcedF_iff : ∀ (ps : List Int) (rows : List (Option Bool)) (v : Bool), rows.length = 2 ^ ps.length → (∀ k ∈ ps, k = -1 ∨ k = 0 ∨ k = 1) →
    (forcedF rows ps = some v ↔ ∀ x, x < rows.length → agr x ps = true → rows.getD x none = some v)
  | [], rows, v, hl, _ => by
    have h1 : rows.length = 1 := hl
    unfold forcedF
    constructor
    · intro h x hx _
      have : x = 0 := by omega
      rw [this]; exact h
    · intro h
      exact h 0 (by omega) rfl
  | k :: ps, rows, v, hl, hk => by
    have hl2 : rows.length = 2 * 2 ^ ps.length := by rw [hl, List.length_cons, Nat.pow_succ, Nat.mul_comm]
    have hw : (wo rows k).length = 2 ^ ps.length := by rw [wo_len]; omega
    have hn : rows.length / 2 = 2 ^ ps.length := by omega
    have ih := forcedF_iff ps (wo rows k) v hw (fun j hj => hk j (List.mem_cons_of_mem _ hj))
    have hk' := hk k (List.mem_cons_self ..)
    show forcedF (wo rows k) ps = some v ↔ _
    rw [ih, hw]
    have e2 : ∀ x, (2 * x) / 2 = x := fun x => by omega
    have e3 : ∀ x, (2 * x + 1) / 2 = x := fun x => by omega
    rcases hk' with rfl | rfl | rfl
    · -- not known
      have ew : ∀ x, x < 2 ^ ps.length → (wo rows (-1)).getD x none = meet (rows.getD (2 * x) none) (rows.getD (2 * x + 1) none) := fun x hx => by
        have : wo rows (-1) = pairUp rows := by unfold wo; rw [if_neg (by decide), if_neg (by decide)]
        rw [this]; unfold pairUp; rw [hn]; exact getD_map (α := Nat) hx
      constructor
      · intro h x hx ha
        have ha' : agr (x / 2) ps = true := by
          have := (Bool.and_eq_true _ _ ▸ (show (_ && agr (x / 2) ps) = true from ha) : _ ∧ _).2
          exact this
        have h1 := h (x / 2) (by omega) ha'
        rw [ew _ (by omega)] at h1
        obtain ⟨q0, q1⟩ := meet_some.mp h1
        rcases Nat.mod_two_eq_zero_or_one x with c | c
        · rw [show 2 * (x / 2) = x by omega] at q0; exact q0
        · rw [show 2 * (x / 2) + 1 = x by omega] at q1; exact q1
      · intro h x hx ha
        rw [ew x hx]
        refine meet_some.mpr ⟨h (2 * x) (by omega) ?_, h (2 * x + 1) (by omega) ?_⟩
        · show ((decide ((-1 : Int) = -1) || _) && agr (2 * x / 2) ps) = true
          rw [e2, ha]; rfl
        · show ((decide ((-1 : Int) = -1) || _) && agr ((2 * x + 1) / 2) ps) = true
          rw [e3, ha]; rfl
    · have ew : ∀ x, x < 2 ^ ps.length → (wo rows 0).getD x none = rows.getD (0 + 2 * x) none := fun x hx => by
        have : wo rows 0 = pick 0 rows := by unfold wo; rw [if_pos rfl]
        rw [this]; unfold pick; rw [hn]; exact getD_map (α := Nat) hx
      constructor
      · intro h x hx ha
        have ha2 : ((decide ((0 : Int) = -1) || decide ((0 : Int) = 1) == (x % 2 == 1)) && agr (x / 2) ps) = true := ha
        rw [Bool.and_eq_true] at ha2
        have hx0 : x % 2 = 0 := by
          rcases Nat.mod_two_eq_zero_or_one x with c | c
          · exact c
          · rw [c] at ha2; exact absurd ha2.1 (by decide)
        have h1 := h (x / 2) (by omega) ha2.2
        rw [ew _ (by omega), show 0 + 2 * (x / 2) = x by omega] at h1
        exact h1
      · intro h x hx ha
        rw [ew x hx, Nat.zero_add]
        refine h (2 * x) (by omega) ?_
        show ((decide ((0 : Int) = -1) || decide ((0 : Int) = 1) == ((2 * x) % 2 == 1)) && agr (2 * x / 2) ps) = true
        rw [e2, ha, show (2 * x) % 2 = 0 by omega]; rfl
    · have ew : ∀ x, x < 2 ^ ps.length → (wo rows 1).getD x none = rows.getD (1 + 2 * x) none := fun x hx => by
        have : wo rows 1 = pick 1 rows := by unfold wo; rw [if_neg (by decide), if_pos rfl]
        rw [this]; unfold pick; rw [hn]; exact getD_map (α := Nat) hx
      constructor
      · intro h x hx ha
        have ha2 : ((decide ((1 : Int) = -1) || decide ((1 : Int) = 1) == (x % 2 == 1)) && agr (x / 2) ps) = true := ha
        rw [Bool.and_eq_true] at ha2
        have hx0 : x % 2 = 1 := by
          rcases Nat.mod_two_eq_zero_or_one x with c | c
          · rw [c] at ha2; exact absurd ha2.1 (by decide)
          · exact c
        have h1 := h (x / 2) (by omega) ha2.2
        rw [ew _ (by omega), show 1 + 2 * (x / 2) = x by omega] at h1
        exact h1
      · intro h x hx ha
        rw [ew x hx]
        refine h (1 + 2 * x) (by omega) ?_
        show ((decide ((1 : Int) = -1) || decide ((1 : Int) = 1) == ((1 + 2 * x) % 2 == 1)) && agr ((1 + 2 * x) / 2) ps) = true
        rw [show (1 + 2 * x) / 2 = x by omega, ha, show (1 + 2 * x) % 2 = 1 by omega]; rfl
/-- the law's own test of agreement -/
def dis (p : Int) (b : Bool) : Bool := !decide (p = -1) && !decide (decide (p = 1) = b)
theorem agr_iff : ∀ (ps : List Int) (x : Nat), agr x ps = true ↔ ∀ j, j < ps.length → dis (ps.getD j 0) (x.testBit j) = false
  | [], x => by
    constructor
    · intro _ j hj; exact absurd hj (by simp)
    · intro _; rfl
  | k :: ps, x => by
    have ih := agr_iff ps (x / 2)
    have e0 : x.testBit 0 = (x % 2 == 1) := by rw [Nat.testBit_zero]; rcases Nat.mod_two_eq_zero_or_one x with c | c <;> simp [c]
    have e1 : ∀ j, x.testBit (j + 1) = (x / 2).testBit j := fun j => Nat.testBit_succ x j
    have eh : (decide (k = -1) || decide (k = 1) == (x % 2 == 1)) = !dis k (x.testBit 0) := by
      unfold dis
      rw [e0]
      by_cases h1 : k = -1 <;> by_cases h2 : k = 1 <;> cases (x % 2 == 1) <;> simp [h1, h2]
    show ((decide (k = -1) || decide (k = 1) == (x % 2 == 1)) && agr (x / 2) ps) = true ↔ _
    rw [Bool.and_eq_true, ih, eh]
    constructor
    · rintro ⟨h, hr⟩ j hj
      cases j with
      | zero => simpa using h
      | succ j => rw [e1]; exact hr j (by simpa using hj)
    · intro h
      refine ⟨by have := h 0 (by simp); simpa using this, fun j hj => ?_⟩
      have := h (j + 1) (by simpa using hj)
      rw [e1] at this
      exact this
/-- the values that are shown, in order -/
def shownL (bs : List Bool) (ps : List Int) (n : Nat) : List Bool := ((List.range n).filter fun x => agr x ps).map fun x => bs.getD x false
def dueF (bs : List Bool) (ps : List Int) : Option Bool :=
  if (shownL bs ps bs.length).contains true && (shownL bs ps bs.length).contains false then none else (shownL bs ps bs.length).head?
theorem agr_ex : ∀ (ps : List Int), (∀ k ∈ ps, k = -1 ∨ k = 0 ∨ k = 1) → ∃ x, x < 2 ^ ps.length ∧ agr x ps = true
  | [], _ => ⟨0, by decide, rfl⟩
  | k :: ps, h => by
    obtain ⟨x, hx, ha⟩ := agr_ex ps fun j hj => h j (List.mem_cons_of_mem _ hj)
    have e : 2 ^ (k :: ps).length = 2 * 2 ^ ps.length := by rw [List.length_cons, Nat.pow_succ, Nat.mul_comm]
    rw [e]
    rcases h k (List.mem_cons_self ..) with rfl | rfl | rfl
    · refine ⟨2 * x, by omega, ?_⟩
      show ((decide ((-1 : Int) = -1) || _) && agr (2 * x / 2) ps) = true
      rw [show 2 * x / 2 = x by omega, ha]; rfl
    · refine ⟨2 * x, by omega, ?_⟩
      show ((decide ((0 : Int) = -1) || decide ((0 : Int) = 1) == ((2 * x) % 2 == 1)) && agr (2 * x / 2) ps) = true
      rw [show 2 * x / 2 = x by omega, ha, show (2 * x) % 2 = 0 by omega]; rfl
    · refine ⟨2 * x + 1, by omega, ?_⟩
      show ((decide ((1 : Int) = -1) || decide ((1 : Int) = 1) == ((2 * x + 1) % 2 == 1)) && agr ((2 * x + 1) / 2) ps) = true
      rw [show (2 * x + 1) / 2 = x by omega, ha, show (2 * x + 1) % 2 = 1 by omega]; rfl
theorem shown_mem {bs : List Bool} {ps : List Int} {n : Nat} {v : Bool} : v ∈ shownL bs ps n ↔ ∃ x, x < n ∧ agr x ps = true ∧ bs.getD x false = v := by
  unfold shownL
  rw [List.mem_map]
  constructor
  · rintro ⟨x, hx, rfl⟩
    obtain ⟨h1, h2⟩ := List.mem_filter.mp hx
    exact ⟨x, List.mem_range.mp h1, h2, rfl⟩
  · rintro ⟨x, h1, h2, rfl⟩
    exact ⟨x, List.mem_filter.mpr ⟨List.mem_range.mpr h1, h2⟩, rfl⟩
theorem forced_due {bs : List Bool} {ps : List Int} (hl : bs.length = 2 ^ ps.length) (hk : ∀ k ∈ ps, k = -1 ∨ k = 0 ∨ k = 1) : forcedF (bs.map some) ps = dueF bs ps := by
  have hl' : (bs.map some).length = 2 ^ ps.length := by rw [List.length_map]; exact hl
  have key : ∀ v, forcedF (bs.map some) ps = some v ↔ ∀ u ∈ shownL bs ps bs.length, u = v := fun v => by
    rw [forcedF_iff ps _ v hl' hk]
    constructor
    · intro h u hu
      obtain ⟨x, hx, ha, rfl⟩ := shown_mem.mp hu
      have := h x (by rw [List.length_map]; exact hx) ha
      rw [List.getD_eq_getElem?_getD, List.getElem?_map, List.getElem?_eq_getElem hx] at this
      rw [List.getD_eq_getElem?_getD, List.getElem?_eq_getElem hx]
      exact Option.some.inj this
    · intro h x hx ha
      rw [List.length_map] at hx
      have := h _ (shown_mem.mpr ⟨x, hx, ha, rfl⟩)
      rw [List.getD_eq_getElem?_getD, List.getElem?_eq_getElem hx] at this
      rw [List.getD_eq_getElem?_getD, List.getElem?_map, List.getElem?_eq_getElem hx, ← this]
      rfl
  obtain ⟨x0, hx0, ha0⟩ := agr_ex ps hk
  have hne : bs.getD x0 false ∈ shownL bs ps bs.length := shown_mem.mpr ⟨x0, by omega, ha0, rfl⟩
  unfold dueF
  by_cases hT : true ∈ shownL bs ps bs.length <;> by_cases hF : false ∈ shownL bs ps bs.length
  · rw [if_pos (by simp [hT, hF])]
    cases e : forcedF (bs.map some) ps with
    | none => rfl
    | some v =>
      have := (key v).mp e
      have h1 := this _ hT
      have h2 := this _ hF
      rw [← h1] at h2; cases h2
  all_goals
    rw [if_neg (by simp [hT, hF])]
    cases hs : shownL bs ps bs.length with
    | nil => rw [hs] at hne; cases hne
    | cons v r =>
      rw [List.head?_cons]
      rw [key v]
      intro u hu
      have hv : v ∈ shownL bs ps bs.length := by rw [hs]; exact List.mem_cons_self ..
      cases u <;> cases v <;> first | rfl | exact absurd hu hF | exact absurd hu hT | exact absurd hv hF | exact absurd hv hT
end G
namespace G
/-! ## cubes: the mathematics -/
def tern (ps : List Int) : Prop := ∀ k ∈ ps, k = -1 ∨ k = 0 ∨ k = 1
def ext3 (p : List Int) : List (List Int) := [p ++ [-1], p ++ [0], p ++ [1]]
def parts : Nat → List (List Int)
  | 0 => [[]]
  | n + 1 => (parts n).flatMap ext3
theorem mem_ext3 {p q : List Int} : q ∈ ext3 p ↔ ∃ k : Int, (k = -1 ∨ k = 0 ∨ k = 1) ∧ q = p ++ [k] := by
  unfold ext3
  constructor
  · intro h
    simp only [List.mem_cons, List.not_mem_nil, or_false] at h
    rcases h with rfl | rfl | rfl
    · exact ⟨-1, .inl rfl, rfl⟩
    · exact ⟨0, .inr (.inl rfl), rfl⟩
    · exact ⟨1, .inr (.inr rfl), rfl⟩
  · rintro ⟨k, rfl | rfl | rfl, rfl⟩ <;> simp
theorem mem_parts : ∀ {n : Nat} {p : List Int}, p ∈ parts n ↔ p.length = n ∧ tern p
  | 0, p => by
    show p ∈ [[]] ↔ _
    rw [List.mem_singleton, List.length_eq_zero_iff]
    constructor
    · rintro rfl; exact ⟨rfl, fun _ h => nomatch h⟩
    · exact fun h => h.1
  | n + 1, p => by
    show p ∈ (parts n).flatMap ext3 ↔ _
    rw [List.mem_flatMap]
    constructor
    · rintro ⟨q, hq, hp⟩
      obtain ⟨h1, h2⟩ := mem_parts.mp hq
      obtain ⟨k, hk, rfl⟩ := mem_ext3.mp hp
      refine ⟨by rw [List.length_append, h1]; rfl, fun j hj => ?_⟩
      rcases List.mem_append.mp hj with z | z
      · exact h2 j z
      · rw [List.mem_singleton.mp z]; exact hk
    · rintro ⟨hl, ht⟩
      have hne : p ≠ [] := fun e => by rw [e] at hl; cases hl
      refine ⟨p.dropLast, mem_parts.mpr ⟨by rw [List.length_dropLast, hl]; rfl, fun j hj => ht j (List.dropLast_subset _ hj)⟩, mem_ext3.mpr ⟨p.getLast hne, ht _ (List.getLast_mem hne), (List.dropLast_concat_getLast hne).symm⟩⟩
theorem parts_len : ∀ n, (parts n).length = 3 ^ n
  | 0 => rfl
  | n + 1 => by
    show ((parts n).flatMap ext3).length = _
    rw [List.length_flatMap, Nat.pow_succ, ← parts_len n]
    have : ∀ l : List (List Int), ((l.map fun p => (ext3 p).length)).sum = l.length * 3 := fun l => by
      induction l with
      | nil => rfl
      | cons a r ih => rw [List.map_cons, List.sum_cons, ih, List.length_cons]; show 3 + _ = _; omega
    exact this _
/-- the order of tuples of ints -/
theorem lex_snoc_eq {p : List Int} {a b : Int} (h : a < b) : HT.lexLt (p ++ [a]) (p ++ [b]) = true := by
  induction p with
  | nil =>
    show (if a = b then _ else decide (a < b)) = true
    rw [if_neg (by omega)]
    exact decide_eq_true h
  | cons x r ih =>
    show (if x = x then HT.lexLt (r ++ [a]) (r ++ [b]) else _) = true
    rw [if_pos rfl]; exact ih
theorem lex_snoc : ∀ {p q : List Int} {a b : Int}, p.length = q.length → HT.lexLt p q = true → HT.lexLt (p ++ [a]) (q ++ [b]) = true
  | [], [], _, _, _, h => nomatch h
  | [], _ :: _, _, _, l, _ => nomatch l
  | _ :: _, [], _, _, l, _ => nomatch l
  | x :: p, y :: q, a, b, l, h => by
    have h' : (if x = y then HT.lexLt p q else decide (x < y)) = true := h
    show (if x = y then HT.lexLt (p ++ [a]) (q ++ [b]) else decide (x < y)) = true
    by_cases e : x = y
    · rw [if_pos e] at h' ⊢
      exact lex_snoc (Nat.succ.inj l) h'
    · rw [if_neg e] at h' ⊢
      exact h'
theorem parts_sorted : ∀ n, (parts n).Pairwise fun p q => HT.lexLt p q = true
  | 0 => List.pairwise_singleton _ _
  | n + 1 => by
    refine List.pairwise_flatMap.mpr ⟨fun p _ => ?_, ?_⟩
    · unfold ext3
      refine .cons (fun q hq => ?_) (.cons (fun q hq => ?_) (List.pairwise_singleton _ _))
      · simp only [List.mem_cons, List.not_mem_nil, or_false] at hq
        rcases hq with rfl | rfl <;> exact lex_snoc_eq (by decide)
      · rw [List.mem_singleton.mp hq]; exact lex_snoc_eq (by decide)
    · refine (parts_sorted n).imp_of_mem fun {p q} hp hq hl x hx y hy => ?_
      obtain ⟨k, _, rfl⟩ := mem_ext3.mp hx
      obtain ⟨j, _, rfl⟩ := mem_ext3.mp hy
      exact lex_snoc ((mem_parts.mp hp).1.trans (mem_parts.mp hq).1.symm) hl
/-! rows after the known inputs -/
def after (rows : List (Option Bool)) (ps : List Int) : List (Option Bool) := ps.foldl wo rows
theorem forced_after : ∀ (ps : List Int) (rows : List (Option Bool)), forcedF rows ps = (after rows ps).getD 0 none
  | [], _ => rfl
  | k :: ps, rows => forced_after ps (wo rows k)
theorem after_snoc (rows : List (Option Bool)) (ps : List Int) (k : Int) : after rows (ps ++ [k]) = wo (after rows ps) k := by
  unfold after
  rw [List.foldl_append]; rfl
theorem after_len : ∀ (ps : List Int) (rows : List (Option Bool)) (m : Nat), rows.length = 2 ^ (ps.length + m) → (after rows ps).length = 2 ^ m
  | [], rows, m, h => by
    show rows.length = _
    rw [h]; simp
  | k :: ps, rows, m, h => by
    refine after_len ps (wo rows k) m ?_
    rw [wo_len, h, List.length_cons, show ps.length + 1 + m = ps.length + m + 1 by omega, Nat.pow_succ]
    omega
/-! what forces -/
def Fo (bs : List Bool) (v : Bool) (p : List Int) : Bool := decide (forcedF (bs.map some) p = some v)
def ats (p : List Int) : List Nat := (List.range p.length).filter fun k => !decide (p.getD k 0 = -1)
def widen (p : List Int) (k : Nat) : List Int := p.take k ++ [-1] ++ p.drop (k + 1)
def widerL (p : List Int) : List (List Int) := (ats p).map (widen p)
def forcingL (bs : List Bool) (v : Bool) (n : Nat) : List (List Int) := (parts n).filter (Fo bs v)
def cubesL (bs : List Bool) (v : Bool) (n : Nat) : List (List Int) := (forcingL bs v n).filter fun p => !(widerL p).any fun q => decide (q ∈ forcingL bs v n)
theorem mem_ats {p : List Int} {k : Nat} : k ∈ ats p ↔ k < p.length ∧ p.getD k 0 ≠ -1 := by
  unfold ats
  rw [List.mem_filter, List.mem_range]
  simp
theorem widen_len {p : List Int} {k : Nat} (h : k < p.length) : (widen p k).length = p.length := by
  unfold widen
  rw [List.length_append, List.length_append, List.length_take, List.length_drop]
  simp
  omega
theorem widen_at {p : List Int} {k j : Nat} (h : k < p.length) : (widen p k).getD j 0 = if j = k then -1 else p.getD j 0 := by
  unfold widen
  have hl : (p.take k).length = k := by rw [List.length_take]; omega
  simp only [List.getD_eq_getElem?_getD]
  by_cases e : j = k
  · rw [if_pos e, e, List.append_assoc, List.getElem?_append_right (by omega), hl, Nat.sub_self]; rfl
  · rw [if_neg e]
    by_cases e2 : j < k
    · rw [List.append_assoc, List.getElem?_append_left (by omega), List.getElem?_take_of_lt e2]
    · rw [List.append_assoc, List.getElem?_append_right (by omega), hl, show j - k = (j - k - 1) + 1 by omega]
      show ((p.drop (k + 1))[j - k - 1]?).getD 0 = _
      rw [List.getElem?_drop, show k + 1 + (j - k - 1) = j by omega]
theorem tern_widen {p : List Int} {k : Nat} (h : tern p) : tern (widen p k) := by
  intro j hj
  unfold widen at hj
  rcases List.mem_append.mp hj with z | z
  · rcases List.mem_append.mp z with z | z
    · exact h j (List.mem_of_mem_take z)
    · rw [List.mem_singleton.mp z]; exact .inl rfl
  · exact h j (List.mem_of_mem_drop z)
theorem mem_forcing {bs : List Bool} {v : Bool} {n : Nat} {p : List Int} : p ∈ forcingL bs v n ↔ (p.length = n ∧ tern p) ∧ Fo bs v p = true := by
  unfold forcingL
  rw [List.mem_filter, mem_parts]
theorem mem_cubes {bs : List Bool} {v : Bool} {n : Nat} {p : List Int} : p ∈ cubesL bs v n ↔ (p.length = n ∧ tern p) ∧ Fo bs v p = true ∧ ∀ k, k < p.length → p.getD k 0 ≠ -1 → Fo bs v (widen p k) = false := by
  unfold cubesL
  rw [List.mem_filter, mem_forcing]
  constructor
  · rintro ⟨⟨h1, h2⟩, h3⟩
    refine ⟨h1, h2, fun k hk hne => ?_⟩
    cases e : Fo bs v (widen p k) with
    | false => rfl
    | true =>
      have : ((widerL p).any fun q => decide (q ∈ forcingL bs v n)) = true := by
        refine List.any_eq_true.mpr ⟨widen p k, List.mem_map.mpr ⟨k, mem_ats.mpr ⟨hk, hne⟩, rfl⟩, ?_⟩
        exact decide_eq_true (mem_forcing.mpr ⟨⟨(widen_len hk).trans h1.1, tern_widen h1.2⟩, e⟩)
      rw [this] at h3; cases h3
  · rintro ⟨h1, h2, h3⟩
    refine ⟨⟨h1, h2⟩, ?_⟩
    have : ((widerL p).any fun q => decide (q ∈ forcingL bs v n)) = false := by
      refine List.any_eq_false.mpr fun q hq => ?_
      obtain ⟨k, hk, rfl⟩ := List.mem_map.mp hq
      obtain ⟨a, b⟩ := mem_ats.mp hk
      have := h3 k a b
      intro z
      have z2 := (mem_forcing.mp (of_decide_eq_true z)).2
      rw [this] at z2; cases z2
    rw [this]; rfl
/-- the partial one lies inside the cube -/
def insd (c p : List Int) : Bool := (List.range c.length).all fun k => !(!decide (c.getD k 0 = -1) && !decide (c.getD k 0 = p.getD k 0))
theorem insd_iff {c p : List Int} : insd c p = true ↔ ∀ k, k < c.length → c.getD k 0 = -1 ∨ c.getD k 0 = p.getD k 0 := by
  unfold insd
  rw [List.all_eq_true]
  constructor
  · intro h k hk
    have := h k (List.mem_range.mpr hk)
    by_cases e : c.getD k 0 = -1
    · exact .inl e
    · right
      by_cases e2 : c.getD k 0 = p.getD k 0
      · exact e2
      · rw [decide_eq_false e, decide_eq_false e2] at this; cases this
  · intro h k hk
    rcases h k (List.mem_range.mp hk) with e | e
    · rw [decide_eq_true e]; rfl
    · rw [decide_eq_true e]; simp
theorem fo_iff {bs : List Bool} {v : Bool} {p : List Int} (hl : bs.length = 2 ^ p.length) (ht : tern p) : Fo bs v p = true ↔ ∀ x, x < bs.length → agr x p = true → bs.getD x false = v := by
  unfold Fo
  rw [decide_eq_true_iff, forcedF_iff p _ v (by rw [List.length_map]; exact hl) ht, List.length_map]
  constructor
  · intro h x hx ha
    have := h x hx ha
    rw [List.getD_eq_getElem?_getD, List.getElem?_map, List.getElem?_eq_getElem hx] at this
    rw [List.getD_eq_getElem?_getD, List.getElem?_eq_getElem hx]
    exact Option.some.inj this
  · intro h x hx ha
    have := h x hx ha
    rw [List.getD_eq_getElem?_getD, List.getElem?_eq_getElem hx] at this
    rw [List.getD_eq_getElem?_getD, List.getElem?_map, List.getElem?_eq_getElem hx, ← this]
    rfl
theorem fo_mono {bs : List Bool} {v : Bool} {c p : List Int} (hl : bs.length = 2 ^ p.length) (hc : c.length = p.length) (tc : tern c) (tp : tern p) (hi : insd c p = true) (h : Fo bs v c = true) : Fo bs v p = true := by
  rw [fo_iff hl tp]
  intro x hx ha
  refine (fo_iff (by rw [hc]; exact hl) tc).mp h x hx ((agr_iff c x).mpr fun j hj => ?_)
  have h1 := (agr_iff p x).mp ha j (by omega)
  rcases insd_iff.mp hi j hj with e | e
  · unfold dis; rw [e]; rfl
  · rw [e]; exact h1
theorem ats_widen {p : List Int} {k : Nat} (hk : k < p.length) (hne : p.getD k 0 ≠ -1) : (ats (widen p k)).length < (ats p).length := by
  have e : ats (widen p k) = (ats p).filter fun j => !decide (j = k) := by
    unfold ats
    rw [widen_len hk, List.filter_filter]
    refine List.filter_congr fun j hj => ?_
    rw [widen_at hk]
    by_cases e : j = k
    · rw [if_pos e, decide_eq_true e]; rfl
    · rw [if_neg e, decide_eq_false e]; rfl
  rw [e]
  refine List.length_filter_lt_length_iff_exists.mpr ⟨k, mem_ats.mpr ⟨hk, hne⟩, by simp⟩
theorem insd_refl (p : List Int) : insd p p = true := insd_iff.mpr fun _ _ => .inr rfl
theorem insd_widen {c p : List Int} {k : Nat} (hk : k < p.length) (hl : c.length = p.length) (h : insd c (widen p k) = true) : insd c p = true := by
  refine insd_iff.mpr fun j hj => ?_
  rcases insd_iff.mp h j hj with e | e
  · exact .inl e
  · rw [widen_at hk] at e
    by_cases z : j = k
    · rw [if_pos z] at e; exact .inl e
    · rw [if_neg z] at e; exact .inr e
theorem covered {bs : List Bool} {v : Bool} {n : Nat} : ∀ (m : Nat) (p : List Int), (ats p).length = m → p.length = n → tern p → Fo bs v p = true → ∃ c ∈ cubesL bs v n, insd c p = true := by
  intro m
  induction m using Nat.strongRecOn with
  | ind m ih =>
    intro p hm hl ht hf
    by_cases h : ∀ k, k < p.length → p.getD k 0 ≠ -1 → Fo bs v (widen p k) = false
    · exact ⟨p, mem_cubes.mpr ⟨⟨hl, ht⟩, hf, h⟩, insd_refl p⟩
    · have : ∃ k, k < p.length ∧ p.getD k 0 ≠ -1 ∧ Fo bs v (widen p k) = true := by
        refine Classical.byContradiction fun no => h fun k hk hne => ?_
        cases e : Fo bs v (widen p k) with
        | false => rfl
        | true => exact absurd ⟨k, hk, hne, e⟩ no
      obtain ⟨k, hk, hne, hw⟩ := this
      obtain ⟨c, hc, hi⟩ := ih _ (hm ▸ ats_widen hk hne) (widen p k) rfl ((widen_len hk).trans hl) (tern_widen ht) hw
      exact ⟨c, hc, insd_widen hk ((mem_cubes.mp hc).1.1.trans hl.symm) hi⟩
theorem cube_due {bs : List Bool} {v : Bool} {n : Nat} {p : List Int} (hb : bs.length = 2 ^ n) (hl : p.length = n) (ht : tern p) : Fo bs v p = !((cubesL bs v n).filter fun c => insd c p).isEmpty := by
  rw [Bool.eq_iff_iff, Bool.not_eq_true', Bool.eq_false_iff, Ne, List.isEmpty_iff, List.filter_eq_nil_iff]
  constructor
  · intro h no
    obtain ⟨c, hc, hi⟩ := covered _ p rfl hl ht h
    exact no c hc hi
  · intro h
    have : ∃ c ∈ cubesL bs v n, insd c p = true := Classical.byContradiction fun no => h fun c hc hi => no ⟨c, hc, hi⟩
    obtain ⟨c, hc, hi⟩ := this
    obtain ⟨⟨h1, h2⟩, h3, _⟩ := mem_cubes.mp hc
    exact fo_mono (by rw [hl]; exact hb) (h1.trans hl.symm) h2 ht hi h3
theorem cubes_sorted (bs : List Bool) (v : Bool) (n : Nat) : (cubesL bs v n).Pairwise fun p q => HT.lexLt p q = true := ((parts_sorted n).filter _).filter _
theorem cubes_le (bs : List Bool) (v : Bool) (n : Nat) : (cubesL bs v n).length ≤ 3 ^ n := by
  rw [← parts_len n]
  exact Nat.le_trans (List.length_filter_le _ _) (List.length_filter_le _ _)
end G
namespace G
open PySem PySem.Spec PyProof.Rows L2
def topS (i : Nat) : Stmt := PySem.Challenge.pw_signoff_k13_whole_cubes_force.main.body.getD i (.Pass ⟨0, 0, 0, 0⟩)
abbrev s_inputs_of : Stmt := topS 1
abbrev s_cubes : Stmt := topS 2
abbrev s_without_input : Stmt := topS 3
abbrev s_all_forced : Stmt := topS 4
abbrev s_wider : Stmt := topS 5
abbrev s_law_pool : Stmt := topS 7
abbrev s_law_spread : Stmt := topS 8
abbrev s_law_draw : Stmt := topS 9
abbrev s_law_same : Stmt := topS 10
abbrev s_law_bits : Stmt := topS 11
abbrev s_law_table : Stmt := topS 12
abbrev s_law_forces : Stmt := topS 13
abbrev s_law_partial : Stmt := topS 14
abbrev s_law_inside : Stmt := topS 15
abbrev s_law_are_cubes : Stmt := topS 16
abbrev s_law : Stmt := topS 17
end G
namespace G
open PySem PySem.Spec PyProof.Rows L2 Evl
structure TxtL (mg : Str → Option Value) : Prop where
  int : mg "int" = none
  len : mg "len" = none
  list : mg "list" = none
  range : mg "range" = none
section
variable {P : Program} {w : World} {K : PySem.W.Frag} {mg : Str → Option Value} {base : Heap}
def spSpread : Sp := fun vs H Q _ => ∃ (c : Int), vs = [.int c] ∧ ∀ v : Int, Q (.int v) H
theorem sc_law_spread : FnScope ["cell", "mixed", "total", "k"] ["cell"] (defScope s_law_spread) := ⟨rfl, rfl, rfl, by decide +kernel, rfl, by decide +kernel, by decide +kernel⟩
theorem ok_law_spread (D : Dfd K mg "_law_spread" s_law_spread ["cell"]) (T : TxtL mg) : Has P w K mg base 1 "_law_spread" ["cell"] spSpread := by
  refine D.has fun f fd F => F.ok sc_law_spread (fun vs H Q E h => ?_) (fun cdv A outer s H vs Q E hr h => ?_)
  · obtain ⟨c, rfl, _⟩ := h
    rfl
  · obtain ⟨c, rfl, q⟩ := h
    refine ⟨_, (pss_cons (ps_set (i := 1) sc_law_spread.nd rfl (.inl rfl) (pe_op op_mod (pe_callTy call_int1 (by rfl) T.int (by decide +kernel) (pa_cons (pv 0) pa_nil)) pe_int))
      (pss_cons (ps_set (i := 2) sc_law_spread.nd rfl (.inl rfl) pe_int)
      (pss_cons (ps_for PassesOwn.never rfl (pi_range1 rfl T.range (pa_cons pe_int pa_nil)) (pg_name (i := 3) sc_law_spread.nd rfl (.inl rfl))
        (pss_cons (ps_set (i := 1) sc_law_spread.nd rfl (.inl rfl) (pe_op op_mod (pe_callTy call_int1 (by rfl) T.int (by decide +kernel) (pa_cons (pe_op op_add (pe_op op_add (pe_op op_mul (pv 1) pe_int) pe_int) (pv 3)) pa_nil)) pe_int))
        (pss_one (ps_set (i := 2) sc_law_spread.nd rfl (.inl rfl) (pe_op op_add (pe_op op_mul (pv 2) pe_int) (pv 1))))))
      (pss_one (ps_ret (pv 2)))))), ?_⟩
    refine ⟨_, rfl, .inl ⟨_, rfl, _, _, rfl, rfl, (by show (0 : Int) < 2147483647; decide), 4, rfl, by decide, by decide, for_range (n := 4) (fun _ σ H' => H' = H ∧ ∃ (x y : Int) (z : Option V), σ = [some (.int c), some (.int x), some (.int y), z]) ⟨rfl, _, _, _, rfl⟩ ?_ ?_⟩⟩
    · rintro i σ H' hi ⟨rfl, x, y, z, rfl⟩
      refine ⟨_, rfl, _, _, rfl, rfl, .inr ⟨by decide, by decide⟩, _, _, rfl, rfl, _, rfl, _, _, rfl, rfl, .inl ⟨_, rfl, _, _, rfl, rfl, (by show (0 : Int) < 2147483647; decide), _, rfl, _, _, rfl, rfl, .inr ⟨by decide, by decide⟩, _, rfl, _, _, rfl, rfl, rfl, _, _, _, rfl⟩⟩
    · rintro σ H' ⟨rfl, x, y, z, rfl⟩
      exact ⟨_, rfl, q y⟩
/-- a draw below n -/
def spDraw : Sp := fun vs H Q _ => ∃ (p a : Addr) (n : Int), vs = [.ref p, .int n] ∧ 0 < n ∧ n.natAbs.log2 < 9000 ∧ PoolOk p a H ∧ ∀ (v : Int) (o : HO), 0 ≤ v → v < n → PoolOk p a (upd H p o) → Q (.int v) (upd H p o)
theorem sc_law_draw : FnScope ["pool", "many", "cell", "mixed", "value"] ["pool", "many"] (defScope s_law_draw) := ⟨rfl, rfl, rfl, by decide +kernel, rfl, by decide +kernel, by decide +kernel⟩
theorem ok_law_draw (D : Dfd K mg "_law_draw" s_law_draw ["pool", "many"]) (T : TxtL mg) (C : Has P w K mg base 1 "_law_spread" ["cell"] spSpread) : Has P w K mg base 2 "_law_draw" ["pool", "many"] spDraw := by
  obtain ⟨f_law_spread, d_law_spread, G_law_spread, g_law_spread, k_law_spread, b_law_spread⟩ := C
  refine D.has fun f fd F => F.ok sc_law_draw (fun vs H Q E h => ?_) (fun cdv A outer s H vs Q E hr h => ?_)
  · obtain ⟨p, a, n, rfl, _⟩ := h
    rfl
  · obtain ⟨p, a, n, rfl, n0, n9, hp, q⟩ := h
    refine ⟨_, (pss_cut (ps_if (PW.pt (pw_and (pt_cmpR op_le (pe_ix ix_list (pv 0) pe_int (fun _ _ => rfl)) pe_int (nomark _)) (pw_and1 (pt_cmpR op_lt (pe_ix ix_list (pv 0) pe_int (fun _ _ => rfl)) (pe_callB call_len_seq (by rfl) T.len (by decide +kernel) (pa_cons (pe_ix ix_list (pv 0) pe_int (fun _ _ => rfl)) pa_nil)) (nomark _)))))
      (pss_cons (ps_set (i := 2) sc_law_draw.nd rfl (.inl rfl) (pe_ix ix_list (pe_ix ix_list (pv 0) pe_int (fun _ _ => rfl)) (pe_ix ix_list (pv 0) pe_int (fun _ _ => rfl)) (fun _ _ => rfl)))
      (pss_cons (ps_asg (pe_op op_add (pe_ix ix_list (pv 0) pe_int (fun _ _ => rfl)) pe_int) (pg_sub (pv 0) pe_int set_list))
      (pss_cons (ps_asg (pv 2) (pg_sub (pv 0) pe_int set_list))
      (pss_one (ps_if (pt_cmpR op_lt (pv 2) pe_int (nomark _))
        (pss_one (ps_asg (pe_call G_law_spread hr (by rfl) g_law_spread k_law_spread b_law_spread .nil pass0 (pa_cons (pv 2) pa_nil)) (pg_sub (pv 0) pe_int set_list)))
        pss_nil)))))
      pss_nil)
    (pss_cons (ps_asg (pe_op op_add (pe_ix ix_list (pv 0) pe_int (fun _ _ => rfl)) pe_int) (pg_sub (pv 0) pe_int set_list))
    (pss_cons (ps_if (pt_cmpR op_le (pe_ix ix_list (pv 0) pe_int (fun _ _ => rfl)) pe_int (nomark _))
      (pss_cons (ps_set (i := 3) sc_law_draw.nd rfl (.inl rfl) (pe_op op_mod (pe_callTy call_int1 (by rfl) T.int (by decide +kernel) (pa_cons (pe_op op_add (pe_op op_add (pe_op op_mul (pe_ix ix_list (pv 0) pe_int (fun _ _ => rfl)) pe_int) (pe_op op_mul (pe_ix ix_list (pv 0) pe_int (fun _ _ => rfl)) pe_int)) pe_int) pa_nil)) pe_int))
      (pss_cons (ps_set (i := 3) sc_law_draw.nd rfl (.inl rfl) (pe_op op_mod (pe_callTy call_int1 (by rfl) T.int (by decide +kernel) (pa_cons (pe_op op_add (pe_op op_mul (pv 3) pe_int) (pe_ix ix_list (pv 0) pe_int (fun _ _ => rfl))) pa_nil)) pe_int))
      (pss_one (ps_ret (pe_op op_mod (pe_op op_fdiv (pv 3) pe_int) (pv 1))))))
      pss_nil)
    (pss_cons (ps_set (i := 4) sc_law_draw.nd rfl (.inl rfl) (pe_op op_mod (pe_callTy call_int1 (by rfl) T.int (by decide +kernel) (pa_cons (pe_ix ix_list (pv 0) pe_int (fun _ _ => rfl)) pa_nil)) (pv 1)))
    (pss_cons (ps_asg (pe_op op_fdivW (pe_ix ix_list (pv 0) pe_int (fun _ _ => rfl)) (pv 1)) (pg_sub (pv 0) pe_int set_list))
    (pss_one (ps_ret (pv 4)))))))), ?_⟩
    obtain ⟨ns, i, c, k, s5, hl, ha, hn⟩ := hp
    have hap : a ≠ p := hid_neq ha
    have haH := hid_get ha
    -- the pool as it stands after writes
    have pk : ∀ (i' : Nat) (c' k' s' : Int), PoolOk p a (upd H p (.lst [.ref a, .int i', .int c', .int k', .int s'])) := fun i' c' k' s' =>
      ⟨ns, i', c', k', s', upd_same, by rw [hid_upd]; exact ha, hn⟩
    refine ⟨fun σ H' => ∃ (i' : Nat) (c' k' s' : Int) (o1 : Option V), σ = [some (.ref p), some (.int n), o1, none, none] ∧ H' p = some (.lst [.ref a, .int i', .int c', .int k', .int s']) ∧ (∀ o, upd H' p o = upd H p o), ?_, ?_⟩
    · refine ⟨_, rfl, _, _, _, _, rfl, rfl, SqL.of hl, atI_nat (j := 2) rfl, _, _, rfl, rfl, _, rfl, ite2 (fun e1 => ?_) (fun e1 => ?_)⟩
      · refine ⟨_, rfl, _, _, _, _, rfl, rfl, SqL.of hl, atI_nat (j := 1) rfl, _, rfl, _, _, _, _, rfl, rfl, SqL.of hl, atI_nat (j := 0) rfl, _, _, rfl, .inl (SqL.of haH), _, _, rfl, rfl, _, rfl, ite2 (fun e2 => ?_) (fun e2 => ?_)⟩
        · have hi : i < (ns.map V.int).length := by have := of_decide_eq_true e2; omega
          have hi' : i < ns.length := by rw [List.length_map] at hi; exact hi
          have gi : (ns.map V.int)[i]? = some (.int ns[i]) := by rw [List.getElem?_map, List.getElem?_eq_getElem hi']; rfl
          refine ⟨_, rfl, _, _, _, _, rfl, rfl, SqL.of hl, atI_nat (j := 0) rfl, _, rfl, _, _, _, _, rfl, rfl, SqL.of hl, atI_nat (j := 1) rfl, _, _, _, _, rfl, rfl, SqL.of haH, atI_nat gi, ?_⟩
          refine ⟨_, rfl, _, _, _, _, rfl, rfl, SqL.of hl, atI_nat (j := 1) rfl, _, _, rfl, rfl, _, rfl, _, _, _, 1, rfl, rfl, hl, rfl, ?_⟩
          refine ⟨_, rfl, _, rfl, _, _, _, 2, rfl, rfl, upd_same, rfl, ?_⟩
          refine ⟨_, rfl, _, _, rfl, rfl, _, rfl, ite2 (fun e3 => ?_) (fun e3 => ?_)⟩
          · refine ⟨_, rfl, _, rfl, fun v => ⟨_, rfl, _, _, _, 2, rfl, rfl, upd_same, rfl, ?_⟩⟩
            exact ⟨i + 1, v, k, s5, _, rfl, upd_same, fun o => by rw [upd_upd, upd_upd, upd_upd]⟩
          · exact ⟨i + 1, ns[i], k, s5, _, rfl, upd_same, fun o => by rw [upd_upd, upd_upd]⟩
        · exact ⟨i, c, k, s5, _, rfl, hl, fun _ => rfl⟩
      · exact iteF ⟨i, c, k, s5, _, rfl, hl, fun _ => rfl⟩
    · rintro σ H' ⟨i, c, k, s5, o1, rfl, hl', hu⟩
      refine ⟨_, rfl, _, _, _, _, rfl, rfl, SqL.of hl', atI_nat (j := 3) rfl, _, _, rfl, rfl, _, rfl, _, _, _, 3, rfl, rfl, hl', rfl, ?_⟩
      refine ⟨_, rfl, _, _, _, _, rfl, rfl, SqL.of upd_same, atI_nat (j := 2) rfl, _, _, rfl, rfl, _, rfl, ite2 (fun e1 => ?_) (fun e1 => ?_)⟩
      · refine ⟨_, rfl, _, _, _, _, rfl, rfl, SqL.of upd_same, atI_nat (j := 4) rfl, _, _, rfl, rfl, .inr ⟨by decide, by decide⟩, _, rfl, _, _, _, _, rfl, rfl, SqL.of upd_same, atI_nat (j := 3) rfl, _, _, rfl, rfl, .inr ⟨by decide, by decide⟩, _, _, rfl, rfl, _, _, rfl, rfl, .inl ⟨_, rfl, _, _, rfl, rfl, (by show (0 : Int) < 2147483647; decide), ?_⟩⟩
        refine ⟨_, rfl, _, _, rfl, rfl, .inr ⟨by decide, by decide⟩, _, rfl, _, _, _, _, rfl, rfl, SqL.of upd_same, atI_nat (j := 3) rfl, _, _, rfl, rfl, .inl ⟨_, rfl, _, _, rfl, rfl, (by show (0 : Int) < 2147483629; decide), ?_⟩⟩
        refine ⟨_, rfl, _, _, rfl, rfl, ⟨by decide, by decide⟩, _, rfl, _, _, rfl, rfl, n0, ?_⟩
        show Q _ _
        rw [hu]
        exact q _ _ (Int.emod_nonneg _ (by omega)) (Int.emod_lt_of_pos _ n0) (pk i c (k + 1) s5)
      · refine ⟨_, rfl, _, _, _, _, rfl, rfl, SqL.of upd_same, atI_nat (j := 2) rfl, .inl ⟨_, rfl, _, rfl, _, _, rfl, rfl, n0, ?_⟩⟩
        refine ⟨_, rfl, _, _, _, _, rfl, rfl, SqL.of upd_same, atI_nat (j := 2) rfl, _, rfl, _, _, rfl, rfl, ⟨n0, n9⟩, _, rfl, _, _, _, 2, rfl, rfl, upd_same, rfl, _, rfl, ?_⟩
        show Q _ _
        rw [upd_upd, hu]
        exact q _ _ (Int.emod_nonneg _ (by omega)) (Int.emod_lt_of_pos _ n0) (pk i (c / n) (k + 1) s5)
/-- the same, the heap behind it a letter -/
def spDrawX : Sp := fun vs H Q _ => ∃ (p a : Addr) (n : Int), vs = [.ref p, .int n] ∧ 0 < n ∧ n ≤ 2 ^ 70 ∧ PoolOk p a H ∧ ∀ (v : Nat) (H' : Hp), (v : Int) < n → Px p a H H' → (∀ b, b ≠ p → H' b = H b) → Q (.int v) H'
theorem log2_small {n : Int} (h0 : 0 < n) (h : n ≤ 2 ^ 70) : n.natAbs.log2 < 9000 := by
  have h1 : n.natAbs < 2 ^ 71 := by omega
  have := PySem.Flt.log2_lt_of (by decide : 0 < 71) h1
  omega
theorem drawX (C : Has P w K mg base 2 "_law_draw" ["pool", "many"] spDraw) : Has P w K mg base 2 "_law_draw" ["pool", "many"] spDrawX :=
  C.imp fun vs H Q E h => by
    obtain ⟨p, a, n, rfl, h0, h1, hp, q⟩ := h
    refine ⟨p, a, n, rfl, h0, log2_small h0 h1, hp, fun v o v0 v1 hq => ?_⟩
    have e : v = ((v.toNat : Nat) : Int) := by omega
    rw [e]
    exact q v.toNat _ (by omega) (Px.draw hp hq) fun b hb => upd_ne hb
end
end G
namespace G
open PySem PySem.Spec PyProof.Rows L2 Evl
section
variable {P : Program} {w : World} {K : PySem.W.Frag} {mg : Str → Option Value} {base : Heap}
theorem cutV_mem {xs : List V} {lo hi : Option Int} {i : Nat} {x : V} (h : (cutV xs lo hi)[i]? = some x) : x ∈ xs := by
  unfold cutV at h
  exact List.mem_of_mem_drop (List.mem_of_mem_take (List.mem_of_getElem? h))
theorem int_of {ns : List Int} {x : V} (h : x ∈ ns.map V.int) : ∃ z, x = .int z := by
  obtain ⟨z, _, e⟩ := List.mem_map.mp h
  exact ⟨z, e.symm⟩
def spPool (K : PySem.W.Frag) : Sp := fun vs H Q _ => ∃ (s : Addr) (ns : List Int), vs = [.ref s] ∧ SqL K H s (ns.map V.int) ∧ ns.length ≤ 1000 ∧ ∀ (p a : Addr) (H' : Hp), PoolOk p a H' → Ex H H' → H p = none → Q (.ref p) H'
theorem sc_law_pool : FnScope ["script", "salt", "cell"] ["script"] (defScope s_law_pool) := ⟨rfl, rfl, rfl, by decide +kernel, rfl, by decide +kernel, by decide +kernel⟩
theorem ok_law_pool (D : Dfd K mg "_law_pool" s_law_pool ["script"]) (T : TxtL mg) : Has P w K mg base 1 "_law_pool" ["script"] (spPool K) := by
  refine D.has fun f fd F => F.ok sc_law_pool (fun vs H Q E h => ?_) (fun cdv A outer s H vs Q E hr h => ?_)
  · obtain ⟨c, _, rfl, _⟩ := h
    rfl
  · obtain ⟨sa, ns, rfl, hs, hn, q⟩ := h
    refine ⟨_, (pss_cons (ps_set (i := 1) sc_law_pool.nd rfl (.inl rfl) pe_int)
      (pss_cons (ps_for PassesOwn.never rfl (pi_list (pe_slice sl_list (pv 0) po_none (po_some pe_int))) (pg_name (i := 2) sc_law_pool.nd rfl (.inl rfl))
        (pss_one (ps_set (i := 1) sc_law_pool.nd rfl (.inl rfl) (pe_op op_mod (pe_callTy call_int1 (by rfl) T.int (by decide +kernel) (pa_cons (pe_op op_add (pe_op op_mul (pv 1) pe_int) (pv 2)) pa_nil)) pe_int))))
      (pss_one (ps_ret (pe_lst (pa_cons (pe_callTy call_list_of (by rfl) T.list (by decide +kernel) (pa_cons (pv 0) pa_nil)) (pa_cons pe_int (pa_cons pe_int (pa_cons pe_int (pa_cons (pv 1) pa_nil)))))))))), ?_⟩
    refine ⟨_, rfl, _, rfl, sa, _, rfl, hs, fun c nc => ⟨c, rfl, ⟨_, SqL.of upd_same⟩, for_list (K := K) (a := c) (xs := cutV (ns.map V.int) none (some 63)) (fun _ σ H' => H' = upd H c (.lst (cutV (ns.map V.int) none (some 63))) ∧ ∃ (x : Int) (z : Option V), σ = [some (.ref sa), some (.int x), z]) ⟨rfl, _, _, rfl⟩ ?_ ?_ ?_⟩⟩
    · rintro i σ H' _ ⟨rfl, _⟩
      exact SqL.of upd_same
    · rintro i x σ H' hi ⟨rfl, y, z, rfl⟩
      obtain ⟨m, rfl⟩ := int_of (cutV_mem hi)
      exact ⟨_, rfl, _, _, rfl, rfl, .inr ⟨by decide, by decide⟩, _, rfl, _, _, rfl, rfl, .inl ⟨_, rfl, _, _, rfl, rfl, (by show (0 : Int) < 1000003; decide), rfl, _, _, rfl⟩⟩
    · rintro σ H' ⟨rfl, y, z, rfl⟩
      have e1 : Ex H (upd H c (.lst (cutV (ns.map V.int) none (some 63)))) := Ex.new nc
      refine ⟨_, rfl, _, _, rfl, .inl (ex_l e1 hs), fun l nl => ⟨_, rfl, (by show 5 ≤ sizeLine; decide), fun p np => ?_⟩⟩
      have e2 := e1.trans (Ex.new (o := .lst (ns.map V.int)) nl)
      have npl : l ≠ p := ne_of_none upd_same np
      exact q p l _ ⟨ns, 0, 0, 0, y, upd_same, by rw [hid_ne npl, upd_ne npl]; exact upd_same, hn⟩ (e2.trans (Ex.new np)) (fresh_back e2 np)
end
end G
namespace G
open PySem PySem.Spec PyProof.Rows L2 Evl
/-! ## data -/
inductive D where
  | non | bl (b : Bool) | int (i : Int) | str (s : Str) | tup (l : List D) | lst (l : List D)
def okD : Nat → D → Prop
  | 0, .tup _ => False
  | 0, .lst _ => False
  | n + 1, .tup l => l.length < 2 ^ 61 ∧ ∀ d ∈ l, okD n d
  | n + 1, .lst l => l.length < 2 ^ 61 ∧ ∀ d ∈ l, okD n d
  | _, _ => True
inductive Rep (H : Hp) : V → D → Prop where
  | non : Rep H .non .non
  | bl (b : Bool) : Rep H (.bl b) (.bl b)
  | int (i : Int) : Rep H (.int i) (.int i)
  | str (s : Str) : Rep H (.str s) (.str s)
  | tup {a : Addr} {xs : List V} {ds : List D} (h : H a = some (.tup xs)) (hl : xs.length = ds.length) (hr : ∀ (i : Nat) (x : V) (d : D), xs[i]? = some x → ds[i]? = some d → Rep H x d) : Rep H (.ref a) (.tup ds)
  | lst {a : Addr} {xs : List V} {ds : List D} (h : H a = some (.lst xs)) (hl : xs.length = ds.length) (hr : ∀ (i : Nat) (x : V) (d : D), xs[i]? = some x → ds[i]? = some d → Rep H x d) : Rep H (.ref a) (.lst ds)
theorem Rep.ex {H H' : Hp} (e : Ex H H') {x : V} {d : D} (r : Rep H x d) : Rep H' x d := by
  induction r with
  | non => exact .non
  | bl b => exact .bl b
  | int i => exact .int i
  | str s => exact .str s
  | tup h hl _ ih => exact .tup (e _ _ h) hl ih
  | lst h hl _ ih => exact .lst (e _ _ h) hl ih
theorem okD.mono : ∀ {n m : Nat} {d : D}, n ≤ m → okD n d → okD m d
  | 0, 0, d, _, h => h
  | 0, m + 1, .non, _, _ => trivial
  | 0, m + 1, .bl _, _, _ => trivial
  | 0, m + 1, .int _, _, _ => trivial
  | 0, m + 1, .str _, _, _ => trivial
  | 0, m + 1, .tup _, _, h => h.elim
  | 0, m + 1, .lst _, _, h => h.elim
  | n + 1, m + 1, .non, _, _ => trivial
  | n + 1, m + 1, .bl _, _, _ => trivial
  | n + 1, m + 1, .int _, _, _ => trivial
  | n + 1, m + 1, .str _, _, _ => trivial
  | n + 1, m + 1, .tup l, le, h => ⟨h.1, fun d hd => okD.mono (Nat.le_of_succ_le_succ le) (h.2 d hd)⟩
  | n + 1, m + 1, .lst l, le, h => ⟨h.1, fun d hd => okD.mono (Nat.le_of_succ_le_succ le) (h.2 d hd)⟩
structure TxtS (mg : Str → Option Value) : Prop where
  isinstance : mg "isinstance" = none
  tuple : mg "tuple" = none
  list : mg "list" = none
  len : mg "len" = none
  range : mg "range" = none
  bool : mg "bool" = none
  int : mg "int" = none
  str : mg "str" = none
section
variable {P : Program} {w : World} {K : PySem.W.Frag} {mg : Str → Option Value} {base : Heap}
/-- equal data: the answer is True -/
def spSame : Nat → Sp
  | 0 => fun _ _ _ _ => False
  | n + 1 => fun vs H Q _ => ∃ (x y : V) (d : D), vs = [x, y] ∧ Rep H x d ∧ Rep H y d ∧ okD n d ∧ Q (.bl true) H
theorem sc_law_same : FnScope ["actual", "due", "k"] ["actual", "due"] (defScope s_law_same) := ⟨rfl, rfl, rfl, by decide +kernel, rfl, by decide +kernel, by decide +kernel⟩
theorem fn_law_same {f : Addr} {fd : FuncData} (F : Fun K "_law_same" "_law_same" s_law_same f fd) (g_law_same : mg "_law_same" = some (.ref f)) (b_law_same : Binds K fd ["actual", "due"] []) (T : TxtS mg) : ∀ n, FnOk P w K mg base CX0 n f fd ["actual", "due"] (spSame n)
  | 0 => ⟨fun _ _ _ _ h => h.elim, fun _ _ _ _ _ _ _ _ _ _ _ _ _ h => h.elim⟩
  | n + 1 => by
    have G_law_same := fn_law_same F g_law_same b_law_same T n
    have k_law_same := F.kp
    refine F.ok sc_law_same (fun vs H Q E h => ?_) (fun cdv A outer s H vs Q E hr h => ?_)
    · obtain ⟨x, y, d, rfl, _⟩ := h
      rfl
    · obtain ⟨x, y, d, rfl, rx, ry, hd, q⟩ := h
      refine ⟨_, (pss_cons (ps_if (PW.pt (pw_or (pt_val (pe_callB call_isi (by rfl) T.isinstance (by decide +kernel) (pa_cons (pv 1) (pa_cons (pe_bltn (v := .ty "tuple") (by rfl) T.tuple (by decide +kernel) rfl) pa_nil)))) (pw_or1 (pt_val (pe_callB call_isi (by rfl) T.isinstance (by decide +kernel) (pa_cons (pv 1) (pa_cons (pe_bltn (v := .ty "list") (by rfl) T.list (by decide +kernel) rfl) pa_nil)))))))
      (pss_cons (ps_if (PW.pt (pw_or (pt_cmpR op_ne (pe_callB call_isi (by rfl) T.isinstance (by decide +kernel) (pa_cons (pv 1) (pa_cons (pe_bltn (v := .ty "tuple") (by rfl) T.tuple (by decide +kernel) rfl) pa_nil))) (pe_callB call_isi (by rfl) T.isinstance (by decide +kernel) (pa_cons (pv 0) (pa_cons (pe_bltn (v := .ty "tuple") (by rfl) T.tuple (by decide +kernel) rfl) pa_nil))) (nomark _)) (pw_or1 (pt_cmpR op_ne (pe_callB call_isi (by rfl) T.isinstance (by decide +kernel) (pa_cons (pv 1) (pa_cons (pe_bltn (v := .ty "list") (by rfl) T.list (by decide +kernel) rfl) pa_nil))) (pe_callB call_isi (by rfl) T.isinstance (by decide +kernel) (pa_cons (pv 0) (pa_cons (pe_bltn (v := .ty "list") (by rfl) T.list (by decide +kernel) rfl) pa_nil))) (nomark _)))))
        (pss_one (ps_ret pe_bl))
        pss_nil)
      (pss_cons (ps_if (pt_cmpR op_ne (pe_callB call_len_seq (by rfl) T.len (by decide +kernel) (pa_cons (pv 0) pa_nil)) (pe_callB call_len_seq (by rfl) T.len (by decide +kernel) (pa_cons (pv 1) pa_nil)) (nomark _))
        (pss_one (ps_ret pe_bl))
        pss_nil)
      (pss_cons (ps_for PassesOwn.never rfl (pi_range1 rfl T.range (pa_cons (pe_callB call_len_seq (by rfl) T.len (by decide +kernel) (pa_cons (pv 1) pa_nil)) pa_nil)) (pg_name (i := 2) sc_law_same.nd rfl (.inl rfl))
        (pss_one (ps_if (pt_not (pt_val (pe_call G_law_same hr (by rfl) g_law_same k_law_same b_law_same .nil pass0 (pa_cons (pe_ix ix_seq (pv 0) (pv 2) (fun _ _ => rfl)) (pa_cons (pe_ix ix_seq (pv 1) (pv 2) (fun _ _ => rfl)) pa_nil)))))
          (pss_one (ps_ret pe_bl))
          pss_nil)))
      (pss_one (ps_ret pe_bl)))))
      pss_nil)
    (pss_cons (ps_if (pt_cmpR op_isN (pv 1) pe_non (nomark _))
      (pss_one (ps_ret (pe_cmpR op_isN (pv 0) pe_non (nomark _))))
      pss_nil)
    (pss_cons (ps_if (pt_val (pe_callB call_isi (by rfl) T.isinstance (by decide +kernel) (pa_cons (pv 1) (pa_cons (pe_bltn (v := .ty "bool") (by rfl) T.bool (by decide +kernel) rfl) pa_nil))))
      (pss_one (ps_ret (pe_and (pe_callB call_isi (by rfl) T.isinstance (by decide +kernel) (pa_cons (pv 0) (pa_cons (pe_bltn (v := .ty "bool") (by rfl) T.bool (by decide +kernel) rfl) pa_nil))) (pe_one (pe_cmpR op_eq (pv 0) (pv 1) (nomark _))))))
      pss_nil)
    (pss_cons (ps_if (pt_val (pe_callB call_isi (by rfl) T.isinstance (by decide +kernel) (pa_cons (pv 1) (pa_cons (pe_bltn (v := .ty "int") (by rfl) T.int (by decide +kernel) rfl) pa_nil))))
      (pss_one (ps_ret (pe_and (pe_callB call_isi (by rfl) T.isinstance (by decide +kernel) (pa_cons (pv 0) (pa_cons (pe_bltn (v := .ty "int") (by rfl) T.int (by decide +kernel) rfl) pa_nil))) (pe_and (pe_not (pe_callB call_isi (by rfl) T.isinstance (by decide +kernel) (pa_cons (pv 0) (pa_cons (pe_bltn (v := .ty "bool") (by rfl) T.bool (by decide +kernel) rfl) pa_nil)))) (pe_one (pe_cmpR op_eq (pv 0) (pv 1) (nomark _)))))))
      pss_nil)
    (pss_one (ps_ret (pe_and (pe_callB call_isi (by rfl) T.isinstance (by decide +kernel) (pa_cons (pv 0) (pa_cons (pe_bltn (v := .ty "str") (by rfl) T.str (by decide +kernel) rfl) pa_nil))) (pe_one (pe_cmpR op_eq (pv 0) (pv 1) (nomark _)))))))))), ?_⟩
      cases rx with
      | non =>
        cases ry
        refine ⟨_, rfl, _, _, _, _, _, rfl, .ty "tuple", .base .non, kit_ty (a := "NoneType") (r := false) (by decide +kernel), _, rfl, iteF ⟨_, rfl, _, _, _, _, _, rfl, .ty "list", .base .non, kit_ty (a := "NoneType") (r := false) (by decide +kernel), _, rfl, iteF ⟨_, rfl, rfl, _, rfl, iteT ⟨_, rfl, rfl, ?_⟩⟩⟩⟩
        exact q
      | bl b =>
        cases ry
        refine ⟨_, rfl, _, _, _, _, _, rfl, .ty "tuple", .base (.bl _), kit_ty (a := "bool") (r := false) (by decide +kernel), _, rfl, iteF ⟨_, rfl, _, _, _, _, _, rfl, .ty "list", .base (.bl _), kit_ty (a := "bool") (r := false) (by decide +kernel), _, rfl, iteF ⟨_, rfl, rfl, _, rfl, iteF ⟨_, rfl, _, _, _, _, _, rfl, .ty "bool", .base (.bl _), kit_ty (a := "bool") (r := true) (by decide +kernel), _, rfl, iteT ⟨_, rfl, _, _, _, _, _, rfl, .ty "bool", .base (.bl _), kit_ty (a := "bool") (r := true) (by decide +kernel), _, rfl, iteT ⟨_, rfl, _, rfl, rfl, ?_⟩⟩⟩⟩⟩⟩
        rw [decide_eq_true rfl]
        exact q
      | int b =>
        cases ry
        refine ⟨_, rfl, _, _, _, _, _, rfl, .ty "tuple", .base (.int _), kit_ty (a := "int") (r := false) (by decide +kernel), _, rfl, iteF ⟨_, rfl, _, _, _, _, _, rfl, .ty "list", .base (.int _), kit_ty (a := "int") (r := false) (by decide +kernel), _, rfl, iteF ⟨_, rfl, rfl, _, rfl, iteF ⟨_, rfl, _, _, _, _, _, rfl, .ty "bool", .base (.int _), kit_ty (a := "int") (r := false) (by decide +kernel), _, rfl, iteF ⟨_, rfl, _, _, _, _, _, rfl, .ty "int", .base (.int _), kit_ty (a := "int") (r := true) (by decide +kernel), _, rfl, iteT ⟨_, rfl, _, _, _, _, _, rfl, .ty "int", .base (.int _), kit_ty (a := "int") (r := true) (by decide +kernel), _, rfl, iteT ⟨_, rfl, _, _, _, _, _, rfl, .ty "bool", .base (.int _), kit_ty (a := "int") (r := false) (by decide +kernel), _, rfl, _, rfl, iteT ⟨_, rfl, _, rfl, rfl, ?_⟩⟩⟩⟩⟩⟩⟩⟩
        rw [decide_eq_true rfl]
        exact q
      | str b =>
        cases ry
        refine ⟨_, rfl, _, _, _, _, _, rfl, .ty "tuple", .base (.str _), kit_ty (a := "str") (r := false) (by decide +kernel), _, rfl, iteF ⟨_, rfl, _, _, _, _, _, rfl, .ty "list", .base (.str _), kit_ty (a := "str") (r := false) (by decide +kernel), _, rfl, iteF ⟨_, rfl, rfl, _, rfl, iteF ⟨_, rfl, _, _, _, _, _, rfl, .ty "bool", .base (.str _), kit_ty (a := "str") (r := false) (by decide +kernel), _, rfl, iteF ⟨_, rfl, _, _, _, _, _, rfl, .ty "int", .base (.str _), kit_ty (a := "str") (r := false) (by decide +kernel), _, rfl, iteF ⟨_, rfl, _, _, _, _, _, rfl, .ty "str", .base (.str _), kit_ty (a := "str") (r := true) (by decide +kernel), _, rfl, iteT ⟨_, rfl, _, rfl, rfl, ?_⟩⟩⟩⟩⟩⟩⟩
        rw [decide_eq_true rfl]
        exact q
      | @tup a xs ds hx lx rx =>
        cases ry with
        | @tup b ys _ hy ly ry =>
          cases n with
          | zero => exact hd.elim
          | succ m =>
            obtain ⟨hlen, hall⟩ := hd
            refine ⟨_, rfl, _, _, _, _, _, rfl, .ty "tuple", .base (.tup hy), kit_ty (a := "tuple") (r := true) (by decide +kernel), _, rfl, iteT (iteT ⟨_, rfl, _, _, _, _, _, rfl, .ty "tuple", .base (.tup hy), kit_ty (a := "tuple") (r := true) (by decide +kernel), _, rfl, _, _, _, _, _, rfl, .ty "tuple", .base (.tup hx), kit_ty (a := "tuple") (r := true) (by decide +kernel), rfl, _, rfl, iteF ⟨_, rfl, _, _, _, _, _, rfl, .ty "list", .base (.tup hy), kit_ty (a := "tuple") (r := false) (by decide +kernel), _, rfl, _, _, _, _, _, rfl, .ty "list", .base (.tup hx), kit_ty (a := "tuple") (r := false) (by decide +kernel), rfl, _, rfl, iteF ⟨_, rfl, _, _, rfl, .inr (SqT.of hx), _, rfl, _, _, rfl, .inr (SqT.of hy), rfl, _, rfl, ?_⟩⟩⟩)⟩
            have el : decide (V.int (xs.length : Int) = V.int (ys.length : Int)) = true := decide_eq_true (by rw [lx, ly])
            rw [el]
            refine ⟨_, rfl, _, _, rfl, .inr (SqT.of hy), _, rfl, by omega, by omega, for_range (n := (ys.length : Int).toNat) (fun _ σ H' => H' = H ∧ ∃ z : Option V, σ = [some (.ref a), some (.ref b), z]) ⟨rfl, _, rfl⟩ ?_ ?_⟩
            · rintro i σ H' hi ⟨rfl, z, rfl⟩
              have hi' : i < ds.length := by omega
              have e0 : (0 : Int) + (i : Int) = (i : Int) := Int.zero_add _
              have g1 : xs[i]? = some xs[i] := List.getElem?_eq_getElem (by omega)
              have g2 : ys[i]? = some ys[i] := List.getElem?_eq_getElem (by omega)
              have g3 : ds[i]? = some ds[i] := List.getElem?_eq_getElem hi'
              rw [e0]
              refine ⟨_, rfl, _, rfl, .inr (.inl ⟨_, _, _, _, rfl, rfl, SqT.of hx, atI_nat g1, _, rfl, _, rfl, .inr (.inl ⟨_, _, _, _, rfl, rfl, SqT.of hy, atI_nat g2, ?_⟩)⟩)⟩
              exact ⟨_, _, ds[i], rfl, rx i _ _ g1 g3, ry i _ _ g2 g3, hall _ (List.getElem_mem hi'), _, rfl, rfl, _, rfl⟩
            · rintro σ H' ⟨rfl, z, rfl⟩
              exact q
      | @lst a xs ds hx lx rx =>
        cases ry with
        | @lst b ys _ hy ly ry =>
          cases n with
          | zero => exact hd.elim
          | succ m =>
            obtain ⟨hlen, hall⟩ := hd
            refine ⟨_, rfl, _, _, _, _, _, rfl, .ty "tuple", .base (.lst hy), kit_ty (a := "list") (r := false) (by decide +kernel), _, rfl, iteF ⟨_, rfl, _, _, _, _, _, rfl, .ty "list", .base (.lst hy), kit_ty (a := "list") (r := true) (by decide +kernel), _, rfl, iteT ⟨_, rfl, _, _, _, _, _, rfl, .ty "tuple", .base (.lst hy), kit_ty (a := "list") (r := false) (by decide +kernel), _, rfl, _, _, _, _, _, rfl, .ty "tuple", .base (.lst hx), kit_ty (a := "list") (r := false) (by decide +kernel), rfl, _, rfl, iteF ⟨_, rfl, _, _, _, _, _, rfl, .ty "list", .base (.lst hy), kit_ty (a := "list") (r := true) (by decide +kernel), _, rfl, _, _, _, _, _, rfl, .ty "list", .base (.lst hx), kit_ty (a := "list") (r := true) (by decide +kernel), rfl, _, rfl, iteF ⟨_, rfl, _, _, rfl, .inl (SqL.of hx), _, rfl, _, _, rfl, .inl (SqL.of hy), rfl, _, rfl, ?_⟩⟩⟩⟩⟩
            have el : decide (V.int (xs.length : Int) = V.int (ys.length : Int)) = true := decide_eq_true (by rw [lx, ly])
            rw [el]
            refine ⟨_, rfl, _, _, rfl, .inl (SqL.of hy), _, rfl, by omega, by omega, for_range (n := (ys.length : Int).toNat) (fun _ σ H' => H' = H ∧ ∃ z : Option V, σ = [some (.ref a), some (.ref b), z]) ⟨rfl, _, rfl⟩ ?_ ?_⟩
            · rintro i σ H' hi ⟨rfl, z, rfl⟩
              have hi' : i < ds.length := by omega
              have e0 : (0 : Int) + (i : Int) = (i : Int) := Int.zero_add _
              have g1 : xs[i]? = some xs[i] := List.getElem?_eq_getElem (by omega)
              have g2 : ys[i]? = some ys[i] := List.getElem?_eq_getElem (by omega)
              have g3 : ds[i]? = some ds[i] := List.getElem?_eq_getElem hi'
              rw [e0]
              refine ⟨_, rfl, _, rfl, .inl ⟨_, _, _, _, rfl, rfl, SqL.of hx, atI_nat g1, _, rfl, _, rfl, .inl ⟨_, _, _, _, rfl, rfl, SqL.of hy, atI_nat g2, ?_⟩⟩⟩
              exact ⟨_, _, ds[i], rfl, rx i _ _ g1 g3, ry i _ _ g2 g3, hall _ (List.getElem_mem hi'), _, rfl, rfl, _, rfl⟩
            · rintro σ H' ⟨rfl, z, rfl⟩
              exact q
theorem ok_law_same (D : Dfd K mg "_law_same" s_law_same ["actual", "due"]) (T : TxtS mg) (n : Nat) : Has P w K mg base n "_law_same" ["actual", "due"] (spSame n) := by
  obtain ⟨f, fd, F, g, b⟩ := D
  exact ⟨f, fd, fn_law_same F g b T n, g, F.kp, b⟩
end
/-! ## data made of flat lists -/
theorem rep_map {H : Hp} {α : Type} {f : α → V} {g : α → D} {l : List α} (h : ∀ x, Rep H (f x) (g x)) : (l.map f).length = (l.map g).length ∧ ∀ (i : Nat) (x : V) (d : D), (l.map f)[i]? = some x → (l.map g)[i]? = some d → Rep H x d := by
  refine ⟨by rw [List.length_map, List.length_map], fun i x d hx hd => ?_⟩
  rw [List.getElem?_map] at hx hd
  cases e : l[i]? with
  | none => rw [e] at hx; cases hx
  | some y =>
    rw [e] at hx hd
    have e1 : f y = x := Option.some.inj hx
    have e2 : g y = d := Option.some.inj hd
    rw [← e1, ← e2]
    exact h y
theorem rep_ints {H : Hp} {a : Addr} {l : List Int} (h : H a = some (.lst (l.map V.int))) : Rep H (.ref a) (.lst (l.map D.int)) :=
  let r := rep_map (H := H) (f := V.int) (g := D.int) (l := l) fun i => .int i
  .lst h r.1 r.2
theorem rep_bls {H : Hp} {a : Addr} {l : List Bool} (h : H a = some (.tup (l.map V.bl))) : Rep H (.ref a) (.tup (l.map D.bl)) :=
  let r := rep_map (H := H) (f := V.bl) (g := D.bl) (l := l) fun i => .bl i
  .tup h r.1 r.2
theorem okD_ints {l : List Int} (h : l.length < 2 ^ 61) : okD 1 (.lst (l.map D.int)) := ⟨by rw [List.length_map]; exact h, fun d hd => by obtain ⟨_, _, rfl⟩ := List.mem_map.mp hd; trivial⟩
end G
namespace G
open PySem PySem.Spec PyProof.Rows L2 Evl
def bitsOf (x m : Nat) : List Bool := (List.range m).map fun k => x.testBit k
theorem bitsOf_len (x m : Nat) : (bitsOf x m).length = m := by unfold bitsOf; rw [List.length_map, List.length_range]
theorem bitsOf_succ (x m : Nat) : bitsOf x (m + 1) = bitsOf x m ++ [x.testBit m] := by unfold bitsOf; rw [List.range_succ, List.map_append]; rfl
theorem bit_at (x i : Nat) : decide (V.int (((x / 2 ^ i : Nat) : Int) % 2) = V.int 1) = x.testBit i := by
  rw [Nat.testBit_eq_decide_div_mod_eq, Bool.eq_iff_iff, decide_eq_true_iff, decide_eq_true_iff, V.int.injEq]
  omega
theorem half_at (x i : Nat) : ((x / 2 ^ i : Nat) : Int) / 2 = ((x / 2 ^ (i + 1) : Nat) : Int) := by
  rw [Nat.pow_succ, ← Nat.div_div_eq_div_mul]
  omega
section
variable {P : Program} {w : World} {K : PySem.W.Frag} {mg : Str → Option Value} {base : Heap}
def spBits : Sp := fun vs H Q _ => ∃ (x m : Nat), vs = [.int x, .int m] ∧ m ≤ 1000 ∧ ∀ (t : Addr) (H' : Hp), H t = none → Ex H H' → H' t = some (.tup ((bitsOf x m).map V.bl)) → Q (.ref t) H'
theorem sc_law_bits : FnScope ["index", "many", "out", "k"] ["index", "many"] (defScope s_law_bits) := ⟨rfl, rfl, rfl, by decide +kernel, rfl, by decide +kernel, by decide +kernel⟩
theorem ok_law_bits (D : Dfd K mg "_law_bits" s_law_bits ["index", "many"]) (T : TxtS mg) : Has P w K mg base 1 "_law_bits" ["index", "many"] spBits := by
  refine D.has fun f fd F => F.ok sc_law_bits (fun vs H Q E h => ?_) (fun cdv A outer s H vs Q E hr h => ?_)
  · obtain ⟨c, _, rfl, _⟩ := h
    rfl
  · obtain ⟨x, m, rfl, hm, q⟩ := h
    refine ⟨_, (pss_cons (ps_set (i := 2) sc_law_bits.nd rfl (.inl rfl) (pe_lst pa_nil))
    (pss_cons (ps_for PassesOwn.never rfl (pi_range1 rfl T.range (pa_cons (pv 1) pa_nil)) (pg_name (i := 3) sc_law_bits.nd rfl (.inl rfl))
      (pss_cons (ps_expr (pe_bm PySem.F.plainAttrs_list PySem.F.slot_list_append PySem.F.type_list_append mt_append (pv 2) (pa_cons (pe_cmpR op_eq (pe_op op_mod (pe_callTy call_int1 (by rfl) T.int (by decide +kernel) (pa_cons (pv 0) pa_nil)) pe_int) pe_int (nomark _)) pa_nil)))
      (pss_one (ps_set (i := 0) sc_law_bits.nd rfl (.inl rfl) (pe_op op_fdiv (pv 0) pe_int)))))
    (pss_one (ps_ret (pe_callTy call_tuple_of (by rfl) T.tuple (by decide +kernel) (pa_cons (pv 2) pa_nil)))))), ?_⟩
    refine ⟨Nat.zero_le _, fun o no => ⟨_, rfl, _, rfl, by omega, by omega, for_range (n := ((m : Int)).toNat) (fun i σ H' => H' = upd H o (.lst ((bitsOf x i).map V.bl)) ∧ ∃ z : Option V, σ = [some (.int ((x / 2 ^ i : Nat) : Int)), some (.int m), some (.ref o), z]) ⟨rfl, _, by rw [Nat.pow_zero, Nat.div_one]; rfl⟩ ?_ ?_⟩⟩
    · rintro i σ H' hi ⟨rfl, z, rfl⟩
      refine ⟨_, rfl, .inl ⟨rfl, _, SqL.of upd_same⟩, _, rfl, .inl ⟨_, rfl, _, _, rfl, rfl, (by show (0 : Int) < 2; decide), rfl, o, _, _, rfl, rfl, upd_same, ?_, _, rfl, _, _, rfl, rfl, ⟨by decide, by decide⟩, ?_, some (.int (0 + (i : Int))), ?_⟩⟩
      · exact sz_lt (by rw [List.length_map, bitsOf_len]; omega)
      · rw [upd_upd, bit_at, bitsOf_succ, List.map_append]; rfl
      · rw [← half_at]; rfl
    · rintro σ H' ⟨rfl, z, rfl⟩
      refine ⟨_, rfl, _, _, rfl, .inl ⟨SqL.of upd_same, fun t nt => ?_⟩⟩
      have e1 : Ex H (upd H o (.lst ((bitsOf x ((m : Int)).toNat).map V.bl))) := Ex.new no
      exact q t _ (fresh_back e1 nt) (e1.trans (Ex.new nt)) upd_same
end
end G
namespace G
open PySem PySem.Spec PyProof.Rows L2 Evl
theorem pow7 : ∀ {m : Nat}, m ≤ 6 → ([.int 1, .int 2, .int 4, .int 8, .int 16, .int 32, .int 64] : List V)[m]? = some (.int ((2 ^ m : Nat) : Int))
  | 0, _ => rfl | 1, _ => rfl | 2, _ => rfl | 3, _ => rfl | 4, _ => rfl | 5, _ => rfl | 6, _ => rfl
  | n + 7, h => by omega
theorem pow6 : ∀ {m : Nat}, m ≤ 5 → ([.int 1, .int 2, .int 4, .int 8, .int 16, .int 32] : List V)[m]? = some (.int ((2 ^ m : Nat) : Int))
  | 0, _ => rfl | 1, _ => rfl | 2, _ => rfl | 3, _ => rfl | 4, _ => rfl | 5, _ => rfl
  | n + 6, h => by omega
theorem pow_le64 {m : Nat} (h : m ≤ 6) : 2 ^ m ≤ 64 := Nat.le_trans (Nat.pow_le_pow_right (by decide) h) (by decide)
theorem pow_pos2 (m : Nat) : 0 < 2 ^ m := Nat.pow_pos (by decide)
theorem divW_small {i : Int} {j : Nat} (h : 0 < j) (h9 : j ≤ 1000) : CDivW i (j : Int) := wide_div (b := 20) (by omega) (by
  rw [Int.natAbs_natCast]
  exact Nat.lt_of_le_of_lt h9 (by decide)) (by decide) (by decide)
section
variable {P : Program} {w : World} {K : PySem.W.Frag} {mg : Str → Option Value} {base : Heap}
/-- a table of m inputs -/
def spTable : Sp := fun vs H Q _ => ∃ (p a : Addr) (m : Nat), vs = [.ref p, .int m] ∧ m ≤ 6 ∧ PoolOk p a H ∧ ∀ (t : Addr) (bs : List Bool) (H' : Hp), bs.length = 2 ^ m → Px p a H H' → H t = none → H' t = some (.tup (bs.map V.bl)) → Q (.ref t) H'
theorem sc_law_table : FnScope ["pool", "many", "size", "kind", "value", "low", "place", "number", "bit", "k"] ["pool", "many"] (defScope s_law_table) := ⟨rfl, rfl, rfl, by decide +kernel, rfl, by decide +kernel, by decide +kernel⟩
theorem ok_law_table (D : Dfd K mg "_law_table" s_law_table ["pool", "many"]) (T : TxtS mg) (C : Has P w K mg base 2 "_law_draw" ["pool", "many"] spDrawX) (C2 : Has P w K mg base 1 "_law_bits" ["index", "many"] spBits) : Has P w K mg base 3 "_law_table" ["pool", "many"] spTable := by
  obtain ⟨f_law_draw, d_law_draw, G_law_draw, g_law_draw, k_law_draw, b_law_draw⟩ := C
  obtain ⟨f_law_bits, d_law_bits, G_law_bits, g_law_bits, k_law_bits, b_law_bits⟩ := C2
  refine D.has fun f fd F => F.ok sc_law_table (fun vs H Q E h => ?_) (fun cdv A outer s H vs Q E hr h => ?_)
  · obtain ⟨c, _, _, rfl, _⟩ := h
    rfl
  · obtain ⟨p, a, m, rfl, hm, hp, q⟩ := h
    have h64 := pow_le64 hm
    have hpos := pow_pos2 m
    refine ⟨_, (pss_cons (ps_set (i := 2) sc_law_table.nd rfl (.inl rfl) (pe_ix ix_list (pe_lst (pa_cons pe_int (pa_cons pe_int (pa_cons pe_int (pa_cons pe_int (pa_cons pe_int (pa_cons pe_int (pa_cons pe_int pa_nil)))))))) (pv 1) (fun _ _ => rfl)))
    (pss_cons (ps_set (i := 3) sc_law_table.nd rfl (.inl rfl) (pe_call G_law_draw hr (by rfl) g_law_draw k_law_draw b_law_draw .nil pass0 (pa_cons (pv 0) (pa_cons pe_int pa_nil))))
    (pss_cons (ps_if (pt_cmpR op_eq (pv 3) pe_int (nomark _))
      (pss_cons (ps_set (i := 4) sc_law_table.nd rfl (.inr rfl) (pe_cmpR op_eq (pe_call G_law_draw hr (by rfl) g_law_draw k_law_draw b_law_draw .nil pass0 (pa_cons (pv 0) (pa_cons pe_int pa_nil))) pe_int (nomark _)))
      (pss_one (ps_ret (pe_callTy call_tuple_of (by rfl) T.tuple (by decide +kernel) (pa_cons (pe_lc (own := [("k", 9)]) (g := gName 9) (tt := tYes) rfl sc_law_table.nd (pi_range1 rfl T.range (pa_cons (pv 2) pa_nil)) (blkOk_by (N := ["pool", "many", "size", "kind", "value", "low", "place", "number", "bit", "k"]) (sc := defScope s_law_table) (own := [("k", 9)]) (by decide +kernel)) (fun _ _ _ _ _ => (pg_name (i := 9) sc_law_table.nd rfl (.inl rfl))) (fun _ _ _ _ _ => pts_nil) (fun _ _ _ _ _ => (pv 4))) pa_nil)))))
      pss_nil)
    (pss_cut (ps_if (PW.pt (pw_and (pt_cmpR op_eq (pv 3) pe_int (nomark _)) (pw_and1 (pt_cmpR op_gt (pv 1) pe_int (nomark _)))))
      (pss_cons (ps_set (i := 5) sc_law_table.nd rfl (.inr rfl) (pe_ix ix_list (pe_lst (pa_cons pe_int (pa_cons pe_int (pa_cons pe_int (pa_cons pe_int (pa_cons pe_int (pa_cons pe_int pa_nil))))))) (pe_call G_law_draw hr (by rfl) g_law_draw k_law_draw b_law_draw .nil pass0 (pa_cons (pv 0) (pa_cons (pv 1) pa_nil))) (fun _ _ => rfl)))
      (pss_one (ps_ret (pe_callTy call_tuple_of (by rfl) T.tuple (by decide +kernel) (pa_cons (pe_lc (own := [("k", 9)]) (g := gName 9) (tt := tYes) rfl sc_law_table.nd (pi_range1 rfl T.range (pa_cons (pv 2) pa_nil)) (blkOk_by (N := ["pool", "many", "size", "kind", "value", "low", "place", "number", "bit", "k"]) (sc := defScope s_law_table) (own := [("k", 9)]) (by decide +kernel)) (fun _ _ _ _ _ => (pg_name (i := 9) sc_law_table.nd rfl (.inl rfl))) (fun _ _ _ _ _ => pts_nil) (fun _ _ _ _ _ => (pe_cmpR op_eq (pe_op op_mod (pe_callTy call_int1 (by rfl) T.int (by decide +kernel) (pa_cons (pe_op op_fdivW (pv 9) (pv 5)) pa_nil)) pe_int) pe_int (nomark _)))) pa_nil)))))
      pss_nil)
    (pss_cons (ps_if (pt_cmpR op_eq (pv 3) pe_int (nomark _))
      (pss_cons (ps_set (i := 6) sc_law_table.nd rfl (.inr rfl) (pe_call G_law_draw hr (by rfl) g_law_draw k_law_draw b_law_draw .nil pass0 (pa_cons (pv 0) (pa_cons (pv 2) pa_nil))))
      (pss_one (ps_ret (pe_callTy call_tuple_of (by rfl) T.tuple (by decide +kernel) (pa_cons (pe_lc (own := [("k", 9)]) (g := gName 9) (tt := tYes) rfl sc_law_table.nd (pi_range1 rfl T.range (pa_cons (pv 2) pa_nil)) (blkOk_by (N := ["pool", "many", "size", "kind", "value", "low", "place", "number", "bit", "k"]) (sc := defScope s_law_table) (own := [("k", 9)]) (by decide +kernel)) (fun _ _ _ _ _ => (pg_name (i := 9) sc_law_table.nd rfl (.inl rfl))) (fun _ _ _ _ _ => pts_nil) (fun _ _ _ _ _ => (pe_cmpR op_eq (pv 9) (pv 6) (nomark _)))) pa_nil)))))
      pss_nil)
    (pss_cons (ps_set (i := 7) sc_law_table.nd rfl (.inl rfl) (pe_call G_law_draw hr (by rfl) g_law_draw k_law_draw b_law_draw .nil pass0 (pa_cons (pv 0) (pa_cons (pe_op op_pow pe_int pe_int) pa_nil))))
    (pss_one (ps_ret (pe_callTy call_tuple_of (by rfl) T.tuple (by decide +kernel) (pa_cons (pe_lc (own := [("bit", 8)]) (g := gName 8) (tt := tYes) rfl sc_law_table.nd (pi_tup (pe_call G_law_bits (hr.mono (by decide)) (by rfl) g_law_bits k_law_bits b_law_bits .nil pass0 (pa_cons (pv 7) (pa_cons (pv 2) pa_nil)))) (blkOk_by (N := ["pool", "many", "size", "kind", "value", "low", "place", "number", "bit", "k"]) (sc := defScope s_law_table) (own := [("bit", 8)]) (by decide +kernel)) (fun _ _ _ _ _ => (pg_name (i := 8) sc_law_table.nd rfl (.inl rfl))) (fun _ _ _ _ _ => pts_nil) (fun _ _ _ _ _ => (pv 8))) pa_nil)))))))))), ?_⟩
    refine ⟨(by show 7 ≤ sizeLine; decide), fun l nl => ⟨_, rfl, _, _, _, _, rfl, rfl, SqL.of upd_same, atI_nat (pow7 hm), ?_⟩⟩
    have X1 : Px p a H (upd H l (.lst [.int 1, .int 2, .int 4, .int 8, .int 16, .int 32, .int 64])) := (Px.refl hp).new nl
    refine ⟨_, rfl, p, a, 6, rfl, by decide, by decide, X1.pool, fun kind H2 hk X2 _ => ?_⟩
    have Y2 := X1.trans X2
    refine ⟨_, rfl, rfl, _, rfl, ite2 (fun e => ?_) (fun e => ?_)⟩
    · refine ⟨_, rfl, p, a, 2, rfl, by decide, by decide, Y2.pool, fun v H3 hv X3 _ => ⟨rfl, ?_⟩⟩
      have Y3 := Y2.trans X3
      refine ⟨_, rfl, _, rfl, by omega, by omega, fun L nL => lcRv (fun _ => .bl (decide (V.int v = V.int 1))) (by omega) (fun _ => rfl) (fun i H4 _ _ Q q => ⟨_, rfl, q⟩) ⟨_, _, rfl, .inl ⟨SqL.of upd_same, fun t nt => ?_⟩⟩⟩
      exact q t ((List.range ((2 ^ m : Nat) : Int).toNat).map fun _ => decide (V.int v = V.int 1)) _ (by rw [List.length_map, List.length_range]; omega) ((Y3.new nL).new nt) ((Y3.new nL).free nt) (by rw [upd_same, List.map_map]; rfl)
    · refine ⟨fun σ H' => σ = [some (.ref p), some (.int m), some (.int ((2 ^ m : Nat) : Int)), some (.int kind), none, none, none, none, none, none] ∧ H' = H2, ?_, ?_⟩
      · refine ⟨_, rfl, rfl, _, rfl, ite2 (fun e1 => ?_) (fun e1 => iteF ⟨rfl, rfl⟩)⟩
        refine ⟨_, rfl, _, _, rfl, rfl, _, rfl, ite2 (fun e2 => ?_) (fun e2 => ⟨rfl, rfl⟩)⟩
        have hm0 : 0 < m := by have := of_decide_eq_true e2; omega
        refine ⟨(by show 6 ≤ sizeLine; decide), fun l2 nl2 => ⟨_, rfl, _, rfl, p, a, m, rfl, by omega, by omega, (Y2.new nl2).pool, fun v H3 hv X3 hk3 => ?_⟩⟩
        have Y3 := (Y2.new nl2).trans X3
        have h2 : H3 l2 = some (.lst [.int 1, .int 2, .int 4, .int 8, .int 16, .int 32]) := by rw [hk3 _ (Y2.pool.ne nl2)]; exact upd_same
        refine ⟨_, _, _, _, rfl, rfl, SqL.of h2, atI_nat (pow6 (by omega)), ?_⟩
        refine ⟨_, rfl, _, rfl, by omega, by omega, fun L nL => lcRv (fun (i : Nat) => .bl (decide (V.int ((0 + (i : Int)) / ((2 ^ v : Nat) : Int) % 2) = V.int 1))) (by omega) (fun _ => rfl) (fun i H4 _ _ Q q => ⟨_, rfl, _, rfl, _, _, rfl, rfl, divW_small (pow_pos2 v) (Nat.le_trans (pow_le64 (by omega)) (by decide)), .inl ⟨_, rfl, _, _, rfl, rfl, (by show (0 : Int) < 2; decide), rfl, q⟩⟩) ⟨_, _, rfl, .inl ⟨SqL.of upd_same, fun t nt => ?_⟩⟩⟩
        exact q t ((List.range ((2 ^ m : Nat) : Int).toNat).map fun (i : Nat) => decide (V.int ((0 + (i : Int)) / ((2 ^ v : Nat) : Int) % 2) = V.int 1)) _ (by rw [List.length_map, List.length_range]; omega) ((Y3.new nL).new nt) ((Y3.new nL).free nt) (by rw [upd_same, List.map_map]; rfl)
      · rintro σ H' ⟨rfl, rfl⟩
        refine ⟨_, rfl, rfl, _, rfl, ite2 (fun e1 => ?_) (fun e1 => ?_)⟩
        · refine ⟨_, rfl, _, rfl, p, a, ((2 ^ m : Nat) : Int), rfl, by omega, by omega, Y2.pool, fun v H3 hv X3 _ => ?_⟩
          have Y3 := Y2.trans X3
          refine ⟨_, rfl, _, rfl, by omega, by omega, fun L nL => lcRv (fun (i : Nat) => .bl (decide (V.int (0 + (i : Int)) = V.int v))) (by omega) (fun _ => rfl) (fun i H4 _ _ Q q => ⟨_, rfl, _, rfl, rfl, q⟩) ⟨_, _, rfl, .inl ⟨SqL.of upd_same, fun t nt => ?_⟩⟩⟩
          exact q t ((List.range ((2 ^ m : Nat) : Int).toNat).map fun (i : Nat) => decide (V.int (0 + (i : Int)) = V.int v)) _ (by rw [List.length_map, List.length_range]; omega) ((Y3.new nL).new nt) ((Y3.new nL).free nt) (by rw [upd_same, List.map_map]; rfl)
        · refine ⟨_, rfl, _, _, rfl, rfl, ⟨by decide, by decide, by decide⟩, p, a, _, rfl, by decide, by decide, Y2.pool, fun v H3 hv X3 _ => ?_⟩
          have Y3 := Y2.trans X3
          refine ⟨_, rfl, _, rfl, v, 2 ^ m, rfl, by omega, fun t1 H4 n1 E1 h1 => ⟨t1, rfl, ⟨_, SqT.of h1⟩, fun L nL => lcTm (xs := (bitsOf v (2 ^ m)).map V.bl) id (SqT.of h1) nL (by rw [List.length_map, bitsOf_len]; omega) (fun _ => rfl) (fun i x H4 _ _ Q q => ⟨_, rfl, q⟩) ⟨_, _, rfl, .inl ⟨SqL.of upd_same, fun t nt => ?_⟩⟩⟩⟩
          have Y4 := Y3.more E1
          exact q t (bitsOf v (2 ^ m)) _ (bitsOf_len _ _) ((Y4.new nL).new nt) ((Y4.new nL).free nt) (by rw [upd_same, List.map_id])
end
end G
namespace G
open PySem PySem.Spec PyProof.Rows L2 Evl
theorem bits_pow (m : Nat) : PySem.Builtin.Int.intBits ((2 ^ m : Nat) : Int) = m + 1 := by
  unfold PySem.Builtin.Int.intBits
  have hp : 0 < 2 ^ m := Nat.pow_pos (by decide)
  rw [if_neg (by intro e; have := eq_of_beq e; omega), Int.natAbs_natCast, Nat.log2_two_pow]
structure TxtI (mg : Str → Option Value) : Prop where
  len : mg "len" = none
section
variable {P : Program} {w : World} {K : PySem.W.Frag} {mg : Str → Option Value} {base : Heap}
def spInputs : Sp := fun vs H Q _ => ∃ (t : Addr) (bs : List Bool) (m : Nat), vs = [.ref t] ∧ H t = some (tabV bs) ∧ bs.length = 2 ^ m ∧ Q (.int m) H
theorem sc_inputs_of : FnScope ["table"] ["table"] (defScope s_inputs_of) := ⟨rfl, rfl, rfl, by decide +kernel, rfl, by decide +kernel, by decide +kernel⟩
theorem ok_inputs_of (D : Dfd K mg "inputs_of" s_inputs_of ["table"]) (T : TxtI mg) : Has P w K mg base 1 "inputs_of" ["table"] spInputs := by
  refine D.has fun f fd F => F.ok sc_inputs_of (fun vs H Q E h => ?_) (fun cdv A outer s H vs Q E hr h => ?_)
  · obtain ⟨t, bs, m, rfl, _⟩ := h
    rfl
  · obtain ⟨t, bs, m, rfl, ht, hl, q⟩ := h
    refine ⟨_, (pss_one (ps_ret (pe_op op_sub (pe_bits (pe_callB call_len_seq (by rfl) T.len (by decide +kernel) (pa_cons (pv 0) pa_nil))) pe_int))), ?_⟩
    refine ⟨_, rfl, _, _, rfl, .inr (SqT.of ht), _, rfl, _, _, rfl, rfl, ?_⟩
    have e : ((Builtin.Int.intBits (((bs.map V.bl).length : Nat) : Int) : Nat) : Int) - 1 = (m : Int) := by
      rw [List.length_map, hl, bits_pow]; omega
    show Q (.int _) H
    rw [e]
    exact q
end
end G
namespace G
open PySem PySem.Spec PyProof.Rows L2 Evl
def o2v : Option Bool → V
  | none => .non
  | some b => .bl b
theorem o2v_scal (a b : Option Bool) : scal (o2v a) (o2v b) = true := by cases a <;> cases b <;> rfl
theorem o2v_inj {a b : Option Bool} : decide (o2v a = o2v b) = decide (a = b) := by
  cases a with
  | none => cases b <;> rfl
  | some x => cases b with
    | none => rfl
    | some y => cases x <;> cases y <;> rfl
theorem filterMap_cong {α β : Type} {f g : α → Option β} : ∀ {l : List α}, (∀ x ∈ l, f x = g x) → l.filterMap f = l.filterMap g
  | [], _ => rfl
  | a :: r, h => by
    rw [List.filterMap_cons, List.filterMap_cons, h a (List.mem_cons_self ..), filterMap_cong fun x hx => h x (List.mem_cons_of_mem _ hx)]
theorem half_pick {rows : List (Option Bool)} {h a : Nat} (hl : rows.length = 2 * h) (ha : a ≤ 1) : halfL a (rows.map o2v) = (pick a rows).map o2v := by
  unfold halfL pick
  rw [List.length_map, List.map_map, ← List.filterMap_eq_map (f := o2v ∘ fun i => rows.getD (a + 2 * i) none), show (rows.length - a + 1) / 2 = rows.length / 2 by omega]
  refine filterMap_cong fun k hk => ?_
  have hk' := List.mem_range.mp hk
  have hi : a + 2 * k < rows.length := by omega
  rw [List.getElem?_map, List.getElem?_eq_getElem hi]
  show some (o2v rows[a + 2 * k]) = some (o2v (rows.getD (a + 2 * k) none))
  rw [List.getD_eq_getElem?_getD, List.getElem?_eq_getElem hi]
  rfl
theorem walk_zipT {K : PySem.W.Frag} {a b : Addr} {xs ys : List V} {n : Nat} (hn : n = min xs.length ys.length) : Walk (RZ.ItzT K a b) n (fun H => SqT K H a xs ∧ SqT K H b ys) (YPair (fun i => xs[i]?) (fun i => ys[i]?)) := by
  subst hn
  refine ⟨fun i _ hi q => ?_, fun _ q => ⟨xs, ys, q.1, q.2, by omega⟩, fun i H v H' _ q y => ?_⟩
  · have h1 : i < xs.length := by omega
    have h2 : i < ys.length := by omega
    exact ⟨xs, ys, xs[i], ys[i], q.1, q.2, by simp [h1], by simp [h2]⟩
  · obtain ⟨T, x, z, h1, h2, h3, h4, h5⟩ := y
    exact ⟨T, x, z, h1, h2, h3, h4 xs q.1, h5 ys q.2⟩
structure TxtF (mg : Str → Option Value) : Prop where
  tuple : mg "tuple" = none
  zip : mg "zip" = none
section
variable {P : Program} {w : World} {K : PySem.W.Frag} {mg : Str → Option Value} {base : Heap}
def spWo : Sp := fun vs H Q _ => ∃ (t : Addr) (rows : List (Option Bool)) (k : Int) (h : Nat), vs = [.ref t, .int k] ∧ H t = some (.tup (rows.map o2v)) ∧ rows.length = 2 * h ∧ h ≤ 1000 ∧ ∀ p H', H p = none → Ex H H' → H' p = some (.tup ((wo rows k).map o2v)) → Q (.ref p) H'
theorem sc_without_input : FnScope ["rows", "known", "low", "high"] ["rows", "known"] (defScope s_without_input) := ⟨rfl, rfl, rfl, by decide +kernel, rfl, by decide +kernel, by decide +kernel⟩
theorem ok_without_input (D : Dfd K mg "_without_input" s_without_input ["rows", "known"]) (T : TxtF mg) : Has P w K mg base 1 "_without_input" ["rows", "known"] spWo := by
  refine D.has fun f fd F => F.ok sc_without_input (fun vs H Q E h => ?_) (fun cdv A outer s H vs Q E hr h => ?_)
  · obtain ⟨t, _, _, _, rfl, _⟩ := h
    rfl
  · obtain ⟨t, rows, k, h, rfl, ht, hl, hh, q⟩ := h
    have hlen : (rows.map o2v).length ≤ 100000 := by rw [List.length_map]; omega
    refine ⟨_, (pss_cons (ps_if (pt_cmpR op_eq (pv 1) pe_int (nomark _))
      (pss_one (ps_ret (pe_half (a := 0) (by decide) (pv 0))))
      pss_nil)
    (pss_cons (ps_if (pt_cmpR op_eq (pv 1) pe_int (nomark _))
      (pss_one (ps_ret (pe_half (a := 1) (by decide) (pv 0))))
      pss_nil)
    (pss_one (ps_ret (pe_callTy call_tuple_of (by rfl) T.tuple (by decide +kernel) (pa_cons (pe_lc (own := [("low", 2), ("high", 3)]) (g := gTup K 2 (gCons (gName 2) (gCons (gName 3) gNil))) (tt := tYes) rfl sc_without_input.nd (RZ.pi_zipA (by rfl) T.zip (pa_cons (pe_half (a := 0) (by decide) (pv 0)) (pa_cons (pe_half (a := 1) (by decide) (pv 0)) pa_nil))) (blkOk_by (N := ["rows", "known", "low", "high"]) (sc := defScope s_without_input) (own := [("low", 2), ("high", 3)]) (by decide +kernel)) (fun _ _ _ _ _ => (pg_tup rfl (pgs_cons (pg_name (i := 2) sc_without_input.nd rfl (.inl rfl)) (pgs_cons (pg_name (i := 3) sc_without_input.nd rfl (.inl rfl)) pgs_nil)))) (fun _ _ _ _ _ => pts_nil) (fun _ _ _ _ _ => (pe_ifExp (pt_cmpR op_eq (pv 2) (pv 3) (nomark _)) (pv 2) pe_non))) pa_nil)))))), ?_⟩
    refine ⟨_, rfl, rfl, _, rfl, ite2 (fun e => ?_) (fun e => ?_)⟩
    · have e' : k = 0 := V.int.inj (of_decide_eq_true e)
      refine ⟨_, rfl, t, _, rfl, SqT.of ht, hlen, fun p np => ?_⟩
      refine q p _ np (Ex.new np) ?_
      rw [upd_same, half_pick hl (by decide), e']
      rfl
    · have e' : k ≠ 0 := fun z => e (by rw [z]; rfl)
      refine ⟨_, rfl, rfl, _, rfl, ite2 (fun e1 => ?_) (fun e1 => ?_)⟩
      · have e2 : k = 1 := V.int.inj (of_decide_eq_true e1)
        refine ⟨_, rfl, t, _, rfl, SqT.of ht, hlen, fun p np => ?_⟩
        refine q p _ np (Ex.new np) ?_
        rw [upd_same, half_pick hl (by decide), e2]
        rfl
      · have e2 : k ≠ 1 := fun z => e1 (by rw [z]; rfl)
        have ew : wo rows k = pairUp rows := by unfold wo; rw [if_neg e', if_neg e2]
        have l0 : ((pick 0 rows).map o2v).length = h := by unfold pick; rw [List.length_map, List.length_map, List.length_range]; omega
        have l1 : ((pick 1 rows).map o2v).length = h := by unfold pick; rw [List.length_map, List.length_map, List.length_range]; omega
        refine ⟨_, rfl, t, _, rfl, SqT.of ht, hlen, fun p1 n1 => ?_⟩
        rw [half_pick hl (by decide)]
        have X1 : Ex H (upd H p1 (.tup ((pick 0 rows).map o2v))) := Ex.new n1
        refine ⟨_, rfl, t, _, rfl, SqT.of (X1 _ _ ht), hlen, fun p2 n2 => ?_⟩
        rw [half_pick hl (by decide)]
        have X2 := X1.trans (Ex.new (o := .tup ((pick 1 rows).map o2v)) n2)
        have h1 : upd (upd H p1 (.tup ((pick 0 rows).map o2v))) p2 (.tup ((pick 1 rows).map o2v)) p1 = some (.tup ((pick 0 rows).map o2v)) := by
          rw [upd_ne (ne_of_none upd_same n2)]; exact upd_same
        have h2 : upd (upd H p1 (.tup ((pick 0 rows).map o2v))) p2 (.tup ((pick 1 rows).map o2v)) p2 = some (.tup ((pick 1 rows).map o2v)) := upd_same
        generalize upd (upd H p1 (.tup ((pick 0 rows).map o2v))) p2 (.tup ((pick 1 rows).map o2v)) = H2 at *
        refine ⟨p1, p2, _, _, rfl, .inr ⟨SqT.of h1, SqT.of h2, fun L nL => lc_it (walk_zipT (n := h) (by rw [l0, l1]; omega))
          (fun i H' => Ex H2 H' ∧ H' L = some (.lst (((List.range i).map fun j => meet (rows.getD (2 * j) none) (rows.getD (2 * j + 1) none)).map o2v))) ⟨Ex.new nL, upd_same⟩ (fun i H' _ g => ⟨SqT.of (g.1 _ _ h1), SqT.of (g.1 _ _ h2)⟩) ?_ ?_⟩⟩
        · rintro i x H1 H3 hi ⟨g1, gL⟩ ⟨A1, x0, y0, rfl, nA, rfl, hx, hy⟩
          have ex0 : x0 = o2v (rows.getD (0 + 2 * i) none) := by
            have : ((pick 0 rows).map o2v)[i]? = some (o2v (rows.getD (0 + 2 * i) none)) := by
              unfold pick
              rw [List.map_map, List.getElem?_map, List.getElem?_range (by omega)]; rfl
            exact Option.some.inj (hx.symm.trans this)
          have ey0 : y0 = o2v (rows.getD (1 + 2 * i) none) := by
            have : ((pick 1 rows).map o2v)[i]? = some (o2v (rows.getD (1 + 2 * i) none)) := by
              unfold pick
              rw [List.map_map, List.getElem?_map, List.getElem?_range (by omega)]; rfl
            exact Option.some.inj (hy.symm.trans this)
          rw [Nat.zero_add] at ex0
          rw [Nat.add_comm] at ey0
          subst ex0 ey0
          have nLA : L ≠ A1 := ne_of_none gL nA
          have g2 := g1.trans (Ex.new (o := .tup [o2v (rows.getD (2 * i) none), o2v (rows.getD (2 * i + 1) none)]) nA)
          refine ⟨A1, _, rfl, SqT.of upd_same, rfl, _, _, rfl, _, _, rfl, rfl, rfl, tYes_in ?_⟩
          refine ⟨_, rfl, _, rfl, o2v_scal _ _, _, rfl, ?_⟩
          rw [o2v_inj]
          have fin : ∀ v, v = o2v (meet (rows.getD (2 * i) none) (rows.getD (2 * i + 1) none)) → ∃ acc, upd H1 A1 (.tup [o2v (rows.getD (2 * i) none), o2v (rows.getD (2 * i + 1) none)]) L = some (.lst acc) ∧ acc.length < sizeLine ∧
              (Ex H2 (upd (upd H1 A1 (.tup [o2v (rows.getD (2 * i) none), o2v (rows.getD (2 * i + 1) none)])) L (.lst (acc ++ [v]))) ∧ upd (upd H1 A1 (.tup [o2v (rows.getD (2 * i) none), o2v (rows.getD (2 * i + 1) none)])) L (.lst (acc ++ [v])) L = some (.lst (((List.range (i + 1)).map fun j => meet (rows.getD (2 * j) none) (rows.getD (2 * j + 1) none)).map o2v))) := fun v ev => by
            refine ⟨_, (upd_ne nLA).trans gL, sz_lt (by rw [List.length_map, List.length_map, List.length_range]; omega), Ex.mut g2 nL, ?_⟩
            rw [upd_same, List.range_succ, List.map_append, List.map_append, ev]; rfl
          refine ite2 (fun em => ?_) (fun em => ?_)
          · refine ⟨_, rfl, fin _ ?_⟩
            unfold meet
            rw [if_pos (of_decide_eq_true em)]
          · refine fin _ ?_
            unfold meet
            rw [if_neg (fun z => em (decide_eq_true z))]
            rfl
        · rintro H3 ⟨g1, gL⟩
          refine ⟨_, _, rfl, .inl ⟨SqL.of gL, fun p np => ?_⟩⟩
          have X3 := X2.trans g1
          refine q p _ (fresh_back X3 np) (X3.trans (Ex.new np)) ?_
          rw [upd_same, ew]
          unfold pairUp
          rw [show rows.length / 2 = h by omega]
end
end G
namespace G
open PySem PySem.Spec PyProof.Rows L2 Evl
structure TxtC (mg : Str → Option Value) : Prop where
  range : mg "range" = none
  any : mg "any" = none
  enumerate : mg "enumerate" = none
/-- a pair of the loop: a partial one and the rows that it leaves -/
def Pair1 (bs : List Bool) (H : Hp) (a : Addr) (p : List Int) : Prop := ∃ pt rt : Addr, H a = some (.tup [.ref pt, .ref rt]) ∧ H pt = some (.tup (p.map V.int)) ∧ H rt = some (.tup ((after (bs.map some) p).map o2v))
theorem Pair1.ex {bs : List Bool} {H H' : Hp} {a : Addr} {p : List Int} (e : Ex H H') (h : Pair1 bs H a p) : Pair1 bs H' a p := by
  obtain ⟨pt, rt, h1, h2, h3⟩ := h
  exact ⟨pt, rt, e _ _ h1, e _ _ h2, e _ _ h3⟩
/-- a pair of the answer -/
def Pair2 (bs : List Bool) (H : Hp) (a : Addr) (p : List Int) : Prop := ∃ pt : Addr, H a = some (.tup [.ref pt, o2v (forcedF (bs.map some) p)]) ∧ H pt = some (.tup (p.map V.int))
theorem Pair2.ex {bs : List Bool} {H H' : Hp} {a : Addr} {p : List Int} (e : Ex H H') (h : Pair2 bs H a p) : Pair2 bs H' a p := by
  obtain ⟨pt, h1, h2⟩ := h
  exact ⟨pt, e _ _ h1, e _ _ h2⟩
theorem pow3_le {n : Nat} (h : n ≤ 5) : 3 ^ n ≤ 243 := Nat.le_trans (Nat.pow_le_pow_right (by decide) h) (by decide)
theorem ex3_at {p : List Int} {j : Nat} {x : V} (h : ([.int (-1), .int 0, .int 1] : List V)[j]? = some x) : ∃ k : Int, x = .int k ∧ (ext3 p)[j]? = some (p ++ [k]) ∧ j < 3 := by
  match j with
  | 0 => cases h; exact ⟨-1, rfl, rfl, by decide⟩
  | 1 => cases h; exact ⟨0, rfl, rfl, by decide⟩
  | 2 => cases h; exact ⟨1, rfl, rfl, by decide⟩
  | n + 3 => exact nomatch h
theorem flat_snoc {l : List (List Int)} {i : Nat} {p : List Int} (h : l[i]? = some p) : (l.take (i + 1)).flatMap ext3 = (l.take i).flatMap ext3 ++ ext3 p := by
  rw [take_snoc1 h, List.flatMap_append]; simp
section
variable {P : Program} {w : World} {K : PySem.W.Frag} {mg : Str → Option Value} {base : Heap}
def spAll : Sp := fun vs H Q _ => ∃ (t : Addr) (bs : List Bool) (n : Nat), vs = [.ref t] ∧ H t = some (.tup (bs.map V.bl)) ∧ bs.length = 2 ^ n ∧ n ≤ 5 ∧ ∀ (L : Addr) (as : List Addr) (H' : Hp), Ex H H' → H' L = some (.lst (as.map V.ref)) → All2 (Pair2 bs H') as (parts n) → Q (.ref L) H'
theorem sc_all_forced : FnScope ["table", "found", "_", "partial", "rows", "known"] ["table"] (defScope s_all_forced) := ⟨rfl, rfl, rfl, by decide +kernel, rfl, by decide +kernel, by decide +kernel⟩
theorem ok_all_forced (D : Dfd K mg "_all_forced" s_all_forced ["table"]) (T : TxtC mg) (C1 : Has P w K mg base 1 "inputs_of" ["table"] spInputs) (C2 : Has P w K mg base 1 "_without_input" ["rows", "known"] spWo) : Has P w K mg base 2 "_all_forced" ["table"] spAll := by
  obtain ⟨f_inputs_of, d_inputs_of, G_inputs_of, g_inputs_of, k_inputs_of, b_inputs_of⟩ := C1
  obtain ⟨f_without_input, d_without_input, G_without_input, g_without_input, k_without_input, b_without_input⟩ := C2
  refine D.has fun f fd F => F.ok sc_all_forced (fun vs H Q E h => ?_) (fun cdv A outer s H vs Q E hr h => ?_)
  · obtain ⟨t, bs, n, rfl, _⟩ := h
    rfl
  · obtain ⟨t, bs, n, rfl, ht, hl, hn, q⟩ := h
    refine ⟨_, (pss_cons (ps_set (i := 1) sc_all_forced.nd rfl (.inl rfl) (pe_lst (pa_cons (pe_tup (pa_cons (pe_tup pa_nil) (pa_cons (pv 0) pa_nil))) pa_nil)))
    (pss_cons (ps_for PassesOwn.never rfl (pi_range1 rfl T.range (pa_cons (pe_call G_inputs_of (hr.mono (by omega)) (by rfl) g_inputs_of k_inputs_of b_inputs_of .nil pass0 (pa_cons (pv 0) pa_nil)) pa_nil)) (pg_name (i := 2) sc_all_forced.nd rfl (.inl rfl))
      (pss_one (ps_setLc2 (i := 1) (own := [("partial", 3), ("rows", 4), ("known", 5)]) (vs1 := [5]) (g := (gTup K 2 (gCons (gName 3) (gCons (gName 4) gNil)))) (tt := tYes) (g1 := (gName 5)) (tt1 := tYes) rfl sc_all_forced.nd rfl rfl (sw_true rfl rfl rfl (by decide +kernel)) (pi_list (pv 1)) (blkOk_by (N := ["table", "found", "_", "partial", "rows", "known"]) (sc := defScope s_all_forced) (own := [("partial", 3), ("rows", 4), ("known", 5)]) (by decide +kernel)) (by decide) (fun _ _ _ _ _ => (pg_tup rfl (pgs_cons (pg_name (i := 3) sc_all_forced.nd rfl (.inl rfl)) (pgs_cons (pg_name (i := 4) sc_all_forced.nd rfl (.inl rfl)) pgs_nil)))) (fun _ _ _ _ _ => pts_nil) (fun _ _ _ _ _ => (kPiT (K := K) rfl (pe_tup (pa_cons (pe_un un_neg pe_int) (pa_cons pe_int (pa_cons pe_int pa_nil)))))) (fun _ _ _ _ _ => (pg_name (i := 5) sc_all_forced.nd rfl (.inl rfl))) (fun _ _ _ _ _ => pts_nil) (fun _ _ _ _ _ => (pe_tup (pa_cons (pe_op (kCatA (K := K) rfl) (pv 3) (pe_tup (pa_cons (pv 5) pa_nil))) (pa_cons (pe_call G_without_input (hr.mono (by omega)) (by rfl) g_without_input k_without_input b_without_input .nil pass0 (pa_cons (pv 4) (pa_cons (pv 5) pa_nil))) pa_nil)))))))
    (pss_one (ps_ret (pe_lc (own := [("partial", 3), ("rows", 4)]) (g := gTup K 2 (gCons (gName 3) (gCons (gName 4) gNil))) (tt := tYes) rfl sc_all_forced.nd (pi_list (pv 1)) (blkOk_by (N := ["table", "found", "_", "partial", "rows", "known"]) (sc := defScope s_all_forced) (own := [("partial", 3), ("rows", 4)]) (by decide +kernel)) (fun _ _ _ _ _ => (pg_tup rfl (pgs_cons (pg_name (i := 3) sc_all_forced.nd rfl (.inl rfl)) (pgs_cons (pg_name (i := 4) sc_all_forced.nd rfl (.inl rfl)) pgs_nil)))) (fun _ _ _ _ _ => pts_nil) (fun _ _ _ _ _ => (pe_tup (pa_cons (pv 3) (pa_cons (pe_ix (kIxT (K := K) rfl) (pv 4) pe_int (fun _ _ => rfl)) pa_nil))))))))), ?_⟩
    refine ⟨(by show 0 ≤ sizeLine; decide), fun e0 ne0 => ⟨_, rfl, (by show 2 ≤ sizeLine; decide), fun a0 na0 => ⟨(by show 1 ≤ sizeLine; decide), fun L0 nL0 => ?_⟩⟩⟩
    have E1 := (Ex.new (o := .tup []) ne0).trans ((Ex.new (o := .tup [.ref e0, .ref t]) na0).trans (Ex.new (o := .lst [.ref a0]) nL0))
    have h1 : upd (upd (upd H e0 (.tup [])) a0 (.tup [.ref e0, .ref t])) L0 (.lst [.ref a0]) a0 = some (.tup [.ref e0, .ref t]) := by rw [upd_ne (ne_of_none upd_same nL0)]; exact upd_same
    have h2 : upd (upd (upd H e0 (.tup [])) a0 (.tup [.ref e0, .ref t])) L0 (.lst [.ref a0]) e0 = some (.tup []) := by
      have z : upd (upd H e0 (.tup [])) a0 (.tup [.ref e0, .ref t]) e0 = some (.tup []) := by rw [upd_ne (ne_of_none upd_same na0)]; exact upd_same
      rw [upd_ne (ne_of_none z nL0)]; exact z
    have h3 : upd (upd (upd H e0 (.tup [])) a0 (.tup [.ref e0, .ref t])) L0 (.lst [.ref a0]) L0 = some (.lst [.ref a0]) := upd_same
    generalize upd (upd (upd H e0 (.tup [])) a0 (.tup [.ref e0, .ref t])) L0 (.lst [.ref a0]) = H1 at *
    have ht1 := E1 _ _ ht
    refine ⟨_, rfl, t, bs, n, rfl, ht1, hl, n, rfl, by omega, by omega, for_range (n := ((n : Nat) : Int).toNat)
      (fun i σ H' => Ex H H' ∧ ∃ (L : Addr) (as : List Addr) (x2 x3 x4 x5 : Option V), H' L = some (.lst (as.map V.ref)) ∧ All2 (Pair1 bs H') as (parts i) ∧ σ = [some (.ref t), some (.ref L), x2, x3, x4, x5])
      ⟨E1, L0, [a0], _, _, _, _, h3, .cons ⟨e0, t, h1, h2, ?_⟩ .nil, rfl⟩ ?_ ?_⟩
    · rw [ht1]
      show some (HO.tup (bs.map V.bl)) = some (HO.tup ((bs.map some).map o2v))
      rw [List.map_map]; rfl
    · rintro i σ H2 hi ⟨E2, L, as, x2, x3, x4, x5, hL, hA, rfl⟩
      rw [Int.toNat_natCast] at hi
      have hlen : as.length ≤ 243 := by rw [hA.1, parts_len]; exact pow3_le (by omega)
      refine ⟨_, rfl, L, rfl, ⟨_, SqL.of hL⟩, fun M nM => wk_list (K := K) (a := L) (xs := as.map V.ref)
        (fun k H' => Ex H2 H' ∧ ∃ bsA : List Addr, H' M = some (.lst (bsA.map V.ref)) ∧ All2 (Pair1 bs (hid M H')) bsA (((parts i).take k).flatMap ext3))
        ⟨Ex.new nM, [], upd_same, .nil⟩ (fun k H' _ g => SqL.of (g.1 _ _ hL)) ?_ ?_⟩
      · rintro k x H3 hx ⟨E3, bA, hM, hB⟩
        obtain ⟨a, ha, rfl⟩ : ∃ a, as[k]? = some a ∧ x = .ref a := by
          rw [List.getElem?_map] at hx
          cases e : as[k]? with
          | none => rw [e] at hx; cases hx
          | some a => rw [e] at hx; cases hx; exact ⟨a, rfl, rfl⟩
        obtain ⟨p, hp, pt, rt, g1, g2, g3⟩ := hA.at_ ha
        have hpl : p.length = i := (mem_parts.mp (List.mem_of_getElem? hp)).1
        have hk3 : k < 3 ^ i := by rw [← parts_len]; exact (List.getElem?_eq_some_iff.mp hp).1
        have neM : ∀ {b : Addr} {o : HO}, H2 b = some o → b ≠ M := fun {b o} z => ne_of_none z nM
        refine ⟨a, _, rfl, SqT.of (E3 _ _ g1), rfl, _, _, rfl, _, _, rfl, rfl, rfl, tYes_in ?_⟩
        refine ⟨_, rfl, (by show 3 ≤ sizeLine; decide), fun b nb => ⟨b, rfl, ⟨_, SqT.of upd_same⟩, wk_tup (K := K) (a := b) (xs := [.int (-1), .int 0, .int 1])
          (fun j H' => Ex H2 H' ∧ H' b = some (.tup [.int (-1), .int 0, .int 1]) ∧ ∃ bsA : List Addr, H' M = some (.lst (bsA.map V.ref)) ∧ All2 (Pair1 bs (hid M H')) bsA (((parts i).take k).flatMap ext3 ++ (ext3 p).take j)) ?_ (fun j H' _ g => SqT.of g.2.1) ?_ ?_⟩⟩
        · have nbM : M ≠ b := ne_of_none hM nb
          refine ⟨E3.trans (Ex.new nb), upd_same, bA, (upd_ne nbM).trans hM, ?_⟩
          rw [List.take_zero, List.append_nil]
          refine hB.imp fun c r hc => hc.ex ?_
          rw [hid_upd_ne nbM.symm]
          exact Ex.new (hid_none nb)
        · rintro j x H4 hj ⟨E4, hb4, cA, hM4, hC⟩
          obtain ⟨kk, rfl, hp3, hj3⟩ := ex3_at (p := p) hj
          have hcl : cA.length ≤ 1000 := by
            rw [hC.1, List.length_append, List.length_take]
            have : (((parts i).take k).flatMap ext3).length = 3 * ((parts i).take k).length := by
              generalize (parts i).take k = l
              induction l with
              | nil => rfl
              | cons a r ih => rw [List.flatMap_cons, List.length_append, ih, List.length_cons]; show 3 + _ = _; omega
            rw [this, List.length_take, parts_len]
            have := pow3_le (n := i) (by omega)
            omega
          refine ⟨rfl, tYes_in ?_⟩
          refine ⟨_, rfl, _, rfl, (by show 1 ≤ sizeLine; decide), fun c nc => cat_tup (K := K) (xs := p.map V.int) (ys := [.int kk]) ((Ex.new nc) _ _ (E4 _ _ g2)) upd_same ?_ fun d H5 E5 hd => ?_⟩
          · refine Nat.le_of_lt (sz_lt ?_)
            rw [List.length_map]; show p.length + 1 < _; omega
          have E45 : Ex H4 H5 := (Ex.new nc).trans E5
          have hM5 := E45 _ _ hM4
          have er : (after (bs.map some) p).length = 2 * 2 ^ (n - i - 1) := by
            rw [after_len p (bs.map some) (n - i) (by rw [List.length_map, hl, hpl, show i + (n - i) = n by omega]), show n - i = (n - i - 1) + 1 by omega, Nat.pow_succ, Nat.mul_comm]
            rw [show n - i - 1 + 1 - 1 = n - i - 1 by omega]
          have h5 : 2 ^ (n - i - 1) ≤ 1000 := Nat.le_trans (Nat.pow_le_pow_right (by decide) (by omega : n - i - 1 ≤ 5)) (by decide)
          refine ⟨_, rfl, _, rfl, rt, after (bs.map some) p, kk, 2 ^ (n - i - 1), rfl, E45 _ _ (E4 _ _ g3), er, h5, fun r H6 nr E6 hr6 => ?_⟩
          refine ⟨(by show 2 ≤ sizeLine; decide), fun tt2 nt2 => ?_⟩
          have E46 := E45.trans E6
          have hM6 := E46 _ _ hM4
          have neM6 : M ≠ tt2 := ne_of_none hM6 nt2
          have hM7 : upd H6 tt2 (.tup [.ref d, .ref r]) M = some (.lst (cA.map V.ref)) := (upd_ne neM6).trans hM6
          refine ⟨_, hM7, sz_lt (by rw [List.length_map]; omega), (E4.trans (E46.trans (Ex.new nt2))).mut nM, ?_, cA ++ [tt2], ?_, ?_⟩
          · have := E46 _ _ hb4
            rw [upd_ne (ne_of this hM6 (by intro z; cases z)), upd_ne (ne_of_none this nt2)]; exact this
          · rw [upd_same, List.map_append]; rfl
          · rw [hid_upd, take_snoc1 hp3, ← List.append_assoc]
            have Eh : Ex (hid M H4) (hid M (upd H6 tt2 (.tup [.ref d, .ref r]))) := fun c o hc => by
              rw [hid_ne (hid_neq hc)]
              exact Ex.new nt2 _ _ (E46 _ _ (hid_get hc))
            refine (hC.imp fun c r hc => hc.ex Eh).snoc ⟨d, r, ?_, ?_, ?_⟩
            · rw [hid_ne neM6.symm]; exact upd_same
            · have h6 := E6 _ _ hd
              rw [hid_ne (ne_of h6 hM6 (by intro z; cases z)), upd_ne (ne_of_none h6 nt2), h6, List.map_append]; rfl
            · rw [hid_ne (ne_of hr6 hM6 (by intro z; cases z)), upd_ne (ne_of_none hr6 nt2), hr6, after_snoc]
        · rintro H4 ⟨E4, hb4, cA, hM4, hC⟩
          refine ⟨E4, cA, hM4, ?_⟩
          rw [flat_snoc hp]
          exact hC
      · rintro H3 ⟨E3, bA, hM, hB⟩
        refine ⟨E2.trans E3, M, bA, _, _, _, _, hM, ?_, rfl⟩
        rw [List.length_map, hA.1, List.take_length] at hB
        exact hB.imp fun c r hc => hc.ex hid_ex
    · rintro σ H2 ⟨E2, L, as, x2, x3, x4, x5, hL, hA, rfl⟩
      rw [Int.toNat_natCast] at hA
      refine ⟨_, rfl, L, rfl, ⟨_, SqL.of hL⟩, fun M nM => wk_list (K := K) (a := L) (xs := as.map V.ref)
        (fun k H' => Ex H2 H' ∧ ∃ bsA : List Addr, H' M = some (.lst (bsA.map V.ref)) ∧ All2 (Pair2 bs (hid M H')) bsA ((parts n).take k))
        ⟨Ex.new nM, [], upd_same, .nil⟩ (fun k H' _ g => SqL.of (g.1 _ _ hL)) ?_ ?_⟩
      · rintro k x H3 hx ⟨E3, bA, hM, hB⟩
        obtain ⟨a, ha, rfl⟩ : ∃ a, as[k]? = some a ∧ x = .ref a := by
          rw [List.getElem?_map] at hx
          cases e : as[k]? with
          | none => rw [e] at hx; cases hx
          | some a => rw [e] at hx; cases hx; exact ⟨a, rfl, rfl⟩
        obtain ⟨p, hp, pt, rt, g1, g2, g3⟩ := hA.at_ ha
        have hpl : p.length = n := (mem_parts.mp (List.mem_of_getElem? hp)).1
        have hlen : (after (bs.map some) p).length = 1 := by
          have := after_len p (bs.map some) 0 (by rw [List.length_map, hl, hpl]; rfl)
          exact this
        have e0 : ((after (bs.map some) p).map o2v)[0]? = some (o2v (forcedF (bs.map some) p)) := by
          rw [forced_after, List.getElem?_map, List.getElem?_eq_getElem (by omega), List.getD_eq_getElem?_getD, List.getElem?_eq_getElem (by omega)]; rfl
        refine ⟨a, _, rfl, SqT.of (E3 _ _ g1), rfl, _, _, rfl, _, _, rfl, rfl, rfl, tYes_in ?_⟩
        refine ⟨_, rfl, _, rfl, _, _, _, _, rfl, rfl, SqT.of (E3 _ _ g3), atI_nat (j := 0) e0, (by show 2 ≤ sizeLine; decide), fun tt2 nt2 => ?_⟩
        have neM6 : M ≠ tt2 := ne_of_none hM nt2
        have hbl : bA.length ≤ 243 := by rw [hB.1, List.length_take, parts_len]; have := pow3_le hn; omega
        refine ⟨_, (upd_ne neM6).trans hM, sz_lt (by rw [List.length_map]; omega), (E3.trans (Ex.new nt2)).mut nM, bA ++ [tt2], ?_, ?_⟩
        · rw [upd_same, List.map_append]; rfl
        · rw [hid_upd, take_snoc1 hp]
          have Eh : Ex (hid M H3) (hid M (upd H3 tt2 (.tup [.ref pt, o2v (forcedF (bs.map some) p)]))) := fun c o hc => by
            rw [hid_ne (hid_neq hc)]
            exact Ex.new nt2 _ _ (hid_get hc)
          refine (hB.imp fun c r hc => hc.ex Eh).snoc ⟨pt, ?_, ?_⟩
          · rw [hid_ne neM6.symm]; exact upd_same
          · have h6 := E3 _ _ g2
            rw [hid_ne (ne_of h6 hM (by intro z; cases z)), upd_ne (ne_of_none h6 nt2), h6]
      · rintro H3 ⟨E3, bA, hM, hB⟩
        rw [List.length_map, hA.1, List.take_length] at hB
        exact q M bA H3 (E2.trans E3) hM (hB.imp fun c r hc => hc.ex hid_ex)
/-- the tuple of a wider one, at a -/
def TupAt (H : Hp) (a : Addr) (p : List Int) : Prop := H a = some (.tup (p.map V.int))
theorem widen_V {p : List Int} {k : Nat} (h : k < p.length) : (cutV (p.map V.int) none (some (k : Int)) ++ [V.int (-1)]) ++ cutV (p.map V.int) (some ((k + 1 : Nat) : Int)) none = (widen p k).map V.int := by
  have hl : (p.map V.int).length = p.length := List.length_map ..
  rw [cutV_head (by omega), cutV_tail (by omega), ← List.map_take, ← List.map_drop]
  unfold widen
  rw [List.map_append, List.map_append]; rfl
def spWider : Sp := fun vs H Q _ => ∃ (pt : Addr) (p : List Int), vs = [.ref pt] ∧ TupAt H pt p ∧ p.length ≤ 5 ∧ ∀ (L : Addr) (as : List Addr) (H' : Hp), H L = none → Ex H H' → H' L = some (.lst (as.map V.ref)) → All2 (TupAt H') as (widerL p) → Q (.ref L) H'
theorem ats_take {p : List Int} {i : Nat} (hi : i < p.length) : ((List.range (i + 1)).filter fun k => !decide (p.getD k 0 = -1)) = if (!decide (p.getD i 0 = -1)) = true then ((List.range i).filter fun k => !decide (p.getD k 0 = -1)) ++ [i] else (List.range i).filter fun k => !decide (p.getD k 0 = -1) := by
  rw [List.range_succ, List.filter_append]
  cases h : !decide (p.getD i 0 = -1) with
  | true => rw [if_pos rfl, List.filter_cons_of_pos (p := fun k => !decide (p.getD k 0 = -1)) h]; rfl
  | false => rw [if_neg Bool.false_ne_true, List.filter_cons_of_neg (p := fun k => !decide (p.getD k 0 = -1)) (by rw [h]; decide), List.filter_nil, List.append_nil]
theorem decV_int (i j : Int) : decide (V.int i = V.int j) = decide (i = j) := by
  by_cases h : i = j
  · subst h; rw [decide_eq_true rfl, decide_eq_true rfl]
  · rw [decide_eq_false h, decide_eq_false (fun z => h (V.int.inj z))]
theorem sc_wider : FnScope ["partial", "k", "known"] ["partial"] (defScope s_wider) := ⟨rfl, rfl, rfl, by decide +kernel, rfl, by decide +kernel, by decide +kernel⟩
theorem ok_wider (D : Dfd K mg "_wider" s_wider ["partial"]) (T : TxtC mg) : Has P w K mg base 1 "_wider" ["partial"] spWider := by
  refine D.has fun f fd F => F.ok sc_wider (fun vs H Q E h => ?_) (fun cdv A outer s H vs Q E hr h => ?_)
  · obtain ⟨pt, p, rfl, _⟩ := h
    rfl
  · obtain ⟨pt, p, rfl, hp, hn, q⟩ := h
    refine ⟨_, (pss_one (ps_ret (pe_lc (own := [("k", 1), ("known", 2)]) (g := gTup K 2 (gCons (gName 1) (gCons (gName 2) gNil))) (tt := _) rfl sc_wider.nd (pi_enumT (by rfl) T.enumerate (pa_cons (pv 0) pa_nil)) (blkOk_by (N := ["partial", "k", "known"]) (sc := defScope s_wider) (own := [("k", 1), ("known", 2)]) (by decide +kernel)) (fun _ _ _ _ _ => (pg_tup rfl (pgs_cons (pg_name (i := 1) sc_wider.nd rfl (.inl rfl)) (pgs_cons (pg_name (i := 2) sc_wider.nd rfl (.inl rfl)) pgs_nil)))) (fun _ _ _ _ _ => pts_one (pt_cmpR op_ne (pv 2) (pe_un un_neg pe_int) (nomark _))) (fun _ _ _ _ _ => (pe_op (kCatA (K := K) rfl) (pe_op (kCatA (K := K) rfl) (pe_slice (kSlA (K := K) rfl) (pv 0) po_none (po_some (pv 1))) (pe_tup (pa_cons (pe_un un_neg pe_int) pa_nil))) (pe_slice (kSlA (K := K) rfl) (pv 0) (po_some (pe_op op_add (pv 1) pe_int)) po_none)))))), ?_⟩
    have hl : (p.map V.int).length = p.length := List.length_map ..
    refine ⟨_, rfl, pt, _, rfl, SqT.of hp, fun L nL => lc_it walk_enumT
      (fun i H' => Ex H H' ∧ ∃ as : List Addr, H' L = some (.lst (as.map V.ref)) ∧ All2 (TupAt (hid L H')) as (((List.range i).filter fun k => !decide (p.getD k 0 = -1)).map (widen p)))
      ⟨Ex.new nL, [], upd_same, .nil⟩ (fun i H' _ g => SqT.of (g.1 _ _ hp)) ?_ ?_⟩
    · rintro i x H1 H2 hi ⟨e1, as, hL, hA⟩ ⟨A1, x0, y0, rfl, nA, rfl, hx, hy⟩
      rw [hl] at hi
      obtain rfl : V.int (i : Nat) = x0 := Option.some.inj hx
      have ey : y0 = .int (p.getD i 0) := by
        have hy : (p.map V.int)[i]? = some y0 := hy
        rw [List.getElem?_map, List.getElem?_eq_getElem hi] at hy
        rw [← Option.some.inj hy, List.getD_eq_getElem?_getD, List.getElem?_eq_getElem hi]; rfl
      subst ey
      have nLA : L ≠ A1 := ne_of_none hL nA
      have e2 := e1.trans (Ex.new (o := .tup [V.int (i : Nat), V.int (p.getD i 0)]) nA)
      have hL2 : upd H1 A1 (.tup [V.int (i : Nat), V.int (p.getD i 0)]) L = some (.lst (as.map V.ref)) := (upd_ne nLA).trans hL
      have Eh : Ex (hid L H1) (hid L (upd H1 A1 (.tup [V.int (i : Nat), V.int (p.getD i 0)]))) := fun c o hc => by
        rw [hid_ne (hid_neq hc)]
        exact Ex.new nA _ _ (hid_get hc)
      refine ⟨A1, _, rfl, SqT.of upd_same, rfl, _, _, rfl, _, _, rfl, rfl, rfl, ?_⟩
      generalize upd H1 A1 (.tup [V.int (i : Nat), V.int (p.getD i 0)]) = H3 at *
      refine ⟨_, rfl, _, rfl, rfl, _, rfl, ?_⟩
      rw [decV_int]
      have hat := ats_take hi
      cases hc : !decide (p.getD i 0 = -1) with
      | false =>
        rw [hc, if_neg Bool.false_ne_true] at hat
        refine iteF ⟨e2, as, hL2, ?_⟩
        rw [hat]
        exact hA.imp fun c r z => Eh _ _ z
      | true =>
        rw [hc, if_pos rfl] at hat
        refine iteT ⟨_, rfl, _, rfl, _, rfl, cut_tup (K := K) (xs := p.map V.int) (e2 _ _ hp) fun c H4 E4 hc4 => ⟨_, rfl, (by show 1 ≤ sizeLine; decide), fun m nm => cat_tup (K := K) (ys := [.int (-1)]) ((Ex.new nm) _ _ hc4) upd_same ?_ fun d H5 E5 hd => ?_⟩⟩
        · rw [cutV_head (by omega)]
          refine Nat.le_of_lt (sz_lt ?_)
          rw [List.length_take, hl]
          show min i p.length + 1 < _
          omega
        have E35 := E4.trans ((Ex.new nm).trans E5)
        refine ⟨_, rfl, _, rfl, _, _, rfl, rfl, _, rfl, ?_⟩
        unfold tNoPart
        dsimp only
        refine cut_tup (K := K) (xs := p.map V.int) (E35 _ _ (e2 _ _ hp)) fun g H6 E6 hg => cat_tup (K := K) (E6 _ _ hd) hg ?_ fun k H7 E7 hk => ?_
        · refine Nat.le_of_lt (sz_lt ?_)
          have := congrArg List.length (widen_V hi)
          rw [List.length_append, List.length_map, widen_len hi] at this
          show (cutV (p.map V.int) none (some (i : Int)) ++ [V.int (-1)]).length + (cutV (p.map V.int) (some ((i + 1 : Nat) : Int)) none).length < _
          omega
        · have E37 := E35.trans (E6.trans E7)
          have hL7 := E37 _ _ hL2
          have hk' : H7 k = some (.tup ((widen p i).map V.int)) := by rw [← widen_V hi]; exact hk
          refine ⟨_, hL7, sz_lt ?_, (e2.trans E37).mut nL, as ++ [k], by rw [upd_same, List.map_append]; rfl, ?_⟩
          · rw [List.length_map, hA.1, List.length_map]
            have := List.length_filter_le (fun k => !decide (p.getD k 0 = -1)) (List.range i)
            rw [List.length_range] at this
            omega
          · rw [hat, List.map_append, hid_upd]
            refine All2.snoc (hA.imp fun c r z => ?_) ?_
            · have z2 := Eh _ _ z
              show hid L H7 c = _
              rw [hid_ne (hid_neq z2)]
              exact E37 _ _ (hid_get z2)
            · show hid L H7 k = _
              rw [hid_ne (ne_of hk' hL7 (by intro z; cases z))]; exact hk'
    · rintro H1 ⟨e1, as, hL, hA⟩
      rw [hl] at hA
      exact q L as H1 nL e1 hL (hA.imp fun c r z => hid_get z)
theorem inl_inj : ∀ {a b : List Int}, (a.map fun i => (Sum.inl i : Key)) = b.map (fun i => (Sum.inl i : Key)) → a = b
  | [], [], _ => rfl
  | [], _ :: _, h => nomatch h
  | _ :: _, [], h => nomatch h
  | x :: a, y :: b, h => by
    obtain ⟨h1, h2⟩ := List.cons.inj h
    rw [Sum.inl.inj h1, inl_inj h2]
def keyOf (p : List Int) : List Key := p.map fun i => Sum.inl i
theorem keyOf_V (p : List Int) : (keyOf p).map kV = p.map V.int := by
  unfold keyOf
  rw [List.map_map]; rfl
/-- the dict holds just these -/
def Knows (es : List (List Key × V)) (F : List (List Int)) : Prop := ∀ q : List Int, (valV es (keyOf q)).isSome = decide (q ∈ F)
theorem Knows.put {es : List (List Key × V)} {F : List (List Int)} {p : List Int} {v : V} (h : Knows es F) : Knows (putK es (keyOf p) v) (F ++ [p]) := by
  intro q
  rw [valV_put]
  by_cases e : q = p
  · rw [if_pos (by rw [e])]
    rw [decide_eq_true (by rw [e]; simp)]; rfl
  · rw [if_neg (show ¬ keyOf q = keyOf p from fun z => e (inl_inj z)), h q]
    rw [decide_eq_decide]
    simp [e]
theorem filt_take {l : List (List Int)} {i : Nat} {p : List Int} {f : List Int → Bool} (h : l[i]? = some p) : (l.take (i + 1)).filter f = if f p = true then (l.take i).filter f ++ [p] else (l.take i).filter f := by
  rw [take_snoc1 h, List.filter_append]
  cases e : f p with
  | true => rw [if_pos rfl, List.filter_cons_of_pos e]; rfl
  | false => rw [if_neg Bool.false_ne_true, List.filter_cons_of_neg (by rw [e]; decide), List.filter_nil, List.append_nil]
theorem TupAt.ex {H H' : Hp} {a : Addr} {p : List Int} (e : Ex H H') (h : TupAt H a p) : TupAt H' a p := e _ _ h
/-- a list M grows by one reference -/
theorem grow {H0 H3 : Hp} {M a : Addr} {fs : List Addr} {Ps : List (List Int)} {p : List Int} (hM : H3 M = some (.lst (fs.map V.ref))) (hF : All2 (TupAt (hid M H3)) fs Ps) (ha : TupAt H3 a p) : ∃ gs : List Addr, upd H3 M (.lst (fs.map V.ref ++ [.ref a])) M = some (.lst (gs.map V.ref)) ∧ All2 (TupAt (hid M (upd H3 M (.lst (fs.map V.ref ++ [.ref a]))))) gs (Ps ++ [p]) := by
  refine ⟨fs ++ [a], by rw [upd_same, List.map_append]; rfl, ?_⟩
  rw [hid_upd]
  refine hF.snoc ?_
  show hid M H3 a = _
  rw [hid_ne (ne_of ha hM (by intro z; cases z))]; exact ha
theorem filt_le (l : List (List Int)) (f : List Int → Bool) (i : Nat) {n : Nat} (hl : l.length ≤ n) : ((l.take i).filter f).length ≤ n := by
  refine Nat.le_trans (List.length_filter_le _ _) ?_
  rw [List.length_take]; omega
def spCubes : Sp := fun vs H Q _ => ∃ (t : Addr) (bs : List Bool) (v : Bool) (n : Nat), vs = [.ref t, .bl v] ∧ H t = some (.tup (bs.map V.bl)) ∧ bs.length = 2 ^ n ∧ n ≤ 5 ∧ ∀ (L : Addr) (as : List Addr) (H' : Hp), H L = none → Ex H H' → H' L = some (.lst (as.map V.ref)) → All2 (TupAt H') as (cubesL bs v n) → Q (.ref L) H'
theorem sc_cubes : FnScope ["table", "value", "forcing", "known", "partial", "found", "wider"] ["table", "value"] (defScope s_cubes) := ⟨rfl, rfl, rfl, by decide +kernel, rfl, by decide +kernel, by decide +kernel⟩
theorem ok_cubes (D : Dfd K mg "cubes" s_cubes ["table", "value"]) (T : TxtC mg) (C1 : Has P w K mg base 2 "_all_forced" ["table"] spAll) (C2 : Has P w K mg base 1 "_wider" ["partial"] spWider) : Has P w K mg base 3 "cubes" ["table", "value"] spCubes := by
  obtain ⟨f_all_forced, d_all_forced, G_all_forced, g_all_forced, k_all_forced, b_all_forced⟩ := C1
  obtain ⟨f_wider, d_wider, G_wider, g_wider, k_wider, b_wider⟩ := C2
  refine D.has fun f fd F => F.ok sc_cubes (fun vs H Q E h => ?_) (fun cdv A outer s H vs Q E hr h => ?_)
  · obtain ⟨t, bs, v, n, rfl, _⟩ := h
    rfl
  · obtain ⟨t, bs, v, n, rfl, ht, hl, hn, q⟩ := h
    refine ⟨_, (pss_cons (ps_setLc (i := 2) (own := [("partial", 4), ("found", 5)]) (g := gTup K 2 (gCons (gName 4) (gCons (gName 5) gNil))) (tt := _) rfl sc_cubes.nd rfl rfl (sw_true rfl rfl rfl (by decide +kernel)) (pi_list (pe_call G_all_forced (hr.mono (by omega)) (by rfl) g_all_forced k_all_forced b_all_forced .nil pass0 (pa_cons (pv 0) pa_nil))) (blkOk_by (N := ["table", "value", "forcing", "known", "partial", "found", "wider"]) (sc := defScope s_cubes) (own := [("partial", 4), ("found", 5)]) (by decide +kernel)) (fun _ _ _ _ _ => (pg_tup rfl (pgs_cons (pg_name (i := 4) sc_cubes.nd rfl (.inl rfl)) (pgs_cons (pg_name (i := 5) sc_cubes.nd rfl (.inl rfl)) pgs_nil)))) (fun _ _ _ _ _ => pts_one (pt_cmpR op_eq (pv 5) (pv 1) (nomark _))) (fun _ _ _ _ _ => (pv 4)))
    (pss_cons (ps_set (i := 3) sc_cubes.nd rfl (.inr rfl) (pe_dct (own := [("partial", 4)]) (g := gName 4) (tt := tYes) rfl sc_cubes.nd hr.units0 (pi_list (pv 2)) (blkOk_by (N := ["table", "value", "forcing", "known", "partial", "found", "wider"]) (sc := defScope s_cubes) (own := [("partial", 4)]) (by decide +kernel)) (fun _ _ _ _ _ => (pg_name (i := 4) sc_cubes.nd rfl (.inl rfl))) (fun _ _ _ _ _ => pts_nil) (fun _ _ _ _ _ => (pv 4)) (fun _ _ _ _ _ => pe_bl)))
    (pss_one (ps_ret (pe_lc (own := [("partial", 4)]) (g := gName 4) (tt := _) rfl sc_cubes.nd (pi_list (pv 2)) (blkOk_by (N := ["table", "value", "forcing", "known", "partial", "found", "wider"]) (sc := defScope s_cubes) (own := [("partial", 4)]) (by decide +kernel)) (fun _ _ _ _ _ => (pg_name (i := 4) sc_cubes.nd rfl (.inl rfl))) (fun _ _ _ _ _ => pts_one (pt_not (pt_val (pe_callB (kAny (K := K) rfl rfl) (by rfl) T.any (by decide +kernel) (pa_cons (pe_lc (own := [("wider", 6)]) (g := gName 6) (tt := tYes) rfl sc_cubes.nd (kPiL (K := K) rfl (pe_call G_wider (hr.mono (by omega)) (by rfl) g_wider k_wider b_wider .nil pass0 (pa_cons (pv 4) pa_nil))) (blkOk_by (own := [("wider", 6)]) (by kernel_rfl)) (fun _ _ _ _ _ => (pg_name (i := 6) sc_cubes.nd rfl (.inl rfl))) (fun _ _ _ _ _ => pts_nil) (fun _ _ _ _ _ => (pe_cmp (pc_din (hu_of hr) (pv 6) (pv 3))))) pa_nil))))) (fun _ _ _ _ _ => (pv 4))))))), ?_⟩
    have h243 := pow3_le hn
    have hpl : (parts n).length ≤ 243 := by rw [parts_len]; exact h243
    refine ⟨_, rfl, t, bs, n, rfl, ht, hl, hn, fun L0 as H1 E1 hL0 hA => ⟨L0, rfl, ⟨_, SqL.of hL0⟩, fun M nM => wk_list (K := K) (a := L0) (xs := as.map V.ref)
      (fun k H' => Ex H1 H' ∧ ∃ fs : List Addr, H' M = some (.lst (fs.map V.ref)) ∧ All2 (TupAt (hid M H')) fs (((parts n).take k).filter (Fo bs v)))
      ⟨Ex.new nM, [], upd_same, .nil⟩ (fun k H' _ g => SqL.of (g.1 _ _ hL0)) ?_ ?_⟩⟩
    · rintro k x H3 hx ⟨E3, fs, hM, hF⟩
      obtain ⟨a, ha, rfl⟩ := refs_get hx
      obtain ⟨p, hp, pt, g1, g2⟩ := hA.at_ ha
      refine ⟨a, _, rfl, SqT.of (E3 _ _ g1), rfl, _, _, rfl, _, _, rfl, rfl, rfl, ?_⟩
      refine ⟨_, rfl, _, rfl, o2v_scal _ (some v), _, rfl, ?_⟩
      have hat := filt_take (f := Fo bs v) hp
      show if decide (o2v (forcedF (bs.map some) p) = o2v (some v)) = true then _ else _
      rw [o2v_inj]
      cases hc : decide (forcedF (bs.map some) p = some v) with
      | false =>
        rw [if_neg (by unfold Fo; rw [hc]; decide)] at hat
        exact iteF ⟨E3, fs, hM, by rw [hat]; exact hF⟩
      | true =>
        rw [if_pos (by unfold Fo; exact hc)] at hat
        obtain ⟨gs, hM', hG⟩ := grow (H0 := H1) hM hF (E3 _ _ g2)
        refine iteT ⟨_, rfl, _, hM, sz_lt ?_, E3.mut nM, gs, hM', by rw [hat]; exact hG⟩
        rw [List.length_map, hF.1]
        have := filt_le (parts n) (Fo bs v) k hpl
        omega
    · rintro H2 ⟨E2, fs, hM, hF⟩
      rw [List.length_map, hA.1, List.take_length] at hF
      have hF : All2 (TupAt H2) fs (forcingL bs v n) := hF.imp fun a p z => hid_get z
      have hfl : (forcingL bs v n).length ≤ 243 := Nat.le_trans (List.length_filter_le _ _) hpl
      refine ⟨_, rfl, M, rfl, ⟨_, SqL.of hM⟩, fun Dc nDc => wk_list (K := K) (a := M) (xs := fs.map V.ref)
        (fun k H' => Ex H2 H' ∧ ∃ es : List (List Key × V), H' Dc = some (.dT es) ∧ es.length ≤ k ∧ Knows es ((forcingL bs v n).take k))
        ⟨Ex.new nDc, [], upd_same, Nat.le_refl _, fun q => by rw [List.take_zero]; rfl⟩ (fun k H' _ g => SqL.of (g.1 _ _ hM)) ?_ ?_⟩
      · rintro k x H3 hx ⟨E3, es, hD, hel, hk⟩
        obtain ⟨a, ha, rfl⟩ := refs_get hx
        obtain ⟨p, hp, g1⟩ := hF.at_ ha
        have hk2 : k < 243 := by have := (List.getElem?_eq_some_iff.mp hp).1; omega
        refine ⟨rfl, tYes_in ⟨_, rfl, es, keyOf p, a, rfl, by rw [keyOf_V]; exact E3 _ _ g1, hD, sz_lt (by omega), E3.mut nDc, _, upd_same, ?_, ?_⟩⟩
        · exact Nat.le_trans (length_putK _ _ _) (Nat.succ_le_succ hel)
        · rw [take_snoc1 hp]; exact hk.put
      · rintro H3 ⟨E3, es, hD, _, hk⟩
        rw [List.length_map, hF.1, List.take_length] at hk
        have hM3 := E3 _ _ hM
        refine ⟨_, rfl, M, rfl, ⟨_, SqL.of hM3⟩, fun R nR => wk_list (K := K) (a := M) (xs := fs.map V.ref)
          (fun k H' => Ex H3 H' ∧ ∃ gs : List Addr, H' R = some (.lst (gs.map V.ref)) ∧ All2 (TupAt (hid R H')) gs (((forcingL bs v n).take k).filter fun p => !(widerL p).any fun q => decide (q ∈ forcingL bs v n)))
          ⟨Ex.new nR, [], upd_same, .nil⟩ (fun k H' _ g => SqL.of (g.1 _ _ hM3)) ?_ ?_⟩
        · rintro k x H4 hx ⟨E4, gs, hR, hG⟩
          obtain ⟨a, ha, rfl⟩ := refs_get hx
          obtain ⟨p, hp, g1⟩ := hF.at_ ha
          have g4 : TupAt H4 a p := E4 _ _ (E3 _ _ g1)
          have hp5 : p.length ≤ 5 := by rw [(mem_forcing.mp (List.mem_of_getElem? hp)).1.1]; exact hn
          refine ⟨rfl, _, rfl, a, p, rfl, g4, hp5, fun L2 as2 H5 nL2 E5 hL2 hA2 => ⟨L2, rfl, ⟨_, SqL.of hL2⟩, fun N nN => wk_list (K := K) (a := L2) (xs := as2.map V.ref)
            (fun j H' => Ex H5 H' ∧ H' N = some (.lst ((((widerL p).take j).map fun q => decide (q ∈ forcingL bs v n)).map V.bl)))
            ⟨Ex.new nN, upd_same⟩ (fun k H' _ g => SqL.of (g.1 _ _ hL2)) ?_ ?_⟩⟩
          · rintro j x H6 hx ⟨E6, hN⟩
            obtain ⟨b, hb, rfl⟩ := refs_get hx
            obtain ⟨r, hr2, r1⟩ := hA2.at_ hb
            have hD6 := E6 _ _ (E5 _ _ (E4 _ _ hD))
            have hget : DGet H6 Dc (.ref b) (valV es (keyOf r)) := DGet.t hD6 (by rw [keyOf_V]; exact E6 _ _ r1)
            refine ⟨rfl, tYes_in ⟨_, rfl, _, rfl, Dc, _, rfl, hget, _, hN, sz_lt ?_, E6.mut nN, ?_⟩⟩
            · rw [List.length_map, List.length_map, List.length_take]
              have : (widerL p).length ≤ 5 := by
                unfold widerL ats
                rw [List.length_map]
                have := List.length_filter_le (fun k => !decide (p.getD k 0 = -1)) (List.range p.length)
                rw [List.length_range] at this
                omega
              omega
            · rw [upd_same, take_snoc1 hr2, List.map_append, List.map_append, hk r]; rfl
          · rintro H6 ⟨E6, hN⟩
            rw [List.length_map, hA2.1, List.take_length] at hN
            refine ⟨N, _, rfl, SqL.of hN, _, rfl, ?_⟩
            have E46 := E5.trans E6
            have hR6 := E46 _ _ hR
            have hG6 : All2 (TupAt (hid R H6)) gs (((forcingL bs v n).take k).filter fun p => !(widerL p).any fun q => decide (q ∈ forcingL bs v n)) := hG.imp fun c z hc => by
              show hid R H6 c = _
              rw [hid_ne (hid_neq hc)]; exact E46 _ _ (hid_get hc)
            have hat := filt_take (f := fun p => !(widerL p).any fun q => decide (q ∈ forcingL bs v n)) hp
            have ea : ((widerL p).map fun q => decide (q ∈ forcingL bs v n)).any id = (widerL p).any fun q => decide (q ∈ forcingL bs v n) := by rw [List.any_map]; rfl
            rw [ea]
            cases hc : (widerL p).any fun q => decide (q ∈ forcingL bs v n) with
            | true =>
              rw [hc, if_neg (by decide)] at hat
              exact iteF ⟨E4.trans E46, gs, hR6, by rw [hat]; exact hG6⟩
            | false =>
              rw [hc, if_pos (by rfl)] at hat
              obtain ⟨ks, hR', hK⟩ := grow (H0 := H3) hR6 hG6 (E46 _ _ g4)
              refine iteT ⟨_, rfl, _, hR6, sz_lt ?_, (E4.trans E46).mut nR, ks, hR', by rw [hat]; exact hK⟩
              rw [List.length_map, hG6.1]
              have := filt_le (forcingL bs v n) (fun p => !(widerL p).any fun q => decide (q ∈ forcingL bs v n)) k hfl
              omega
        · rintro H4 ⟨E4, gs, hR, hG⟩
          rw [List.length_map, hF.1, List.take_length] at hG
          refine q R gs H4 (fresh_back (E1.trans (E2.trans E3)) nR) (E1.trans (E2.trans (E3.trans E4))) hR ?_
          exact hG.imp fun a p z => hid_get z
end
end G
namespace G
open PySem PySem.Spec PyProof.Rows L2 Evl
theorem tabV_at {bs : List Bool} {r : Nat} (h : r < bs.length) : (bs.map V.bl)[r]? = some (.bl (bs.getD r false)) := by
  rw [List.getElem?_map, List.getElem?_eq_getElem h, List.getD_eq_getElem?_getD, List.getElem?_eq_getElem h]; rfl
theorem ints_at {ps : List Int} {r : Nat} (h : r < ps.length) : (ps.map V.int)[r]? = some (.int (ps.getD r 0)) := by
  rw [List.getElem?_map, List.getElem?_eq_getElem h, List.getD_eq_getElem?_getD, List.getElem?_eq_getElem h]; rfl
theorem bits_at {x m r : Nat} (h : r < m) : ((bitsOf x m).map V.bl)[r]? = some (.bl (x.testBit r)) := by
  unfold bitsOf
  rw [List.map_map, List.getElem?_map, List.getElem?_range h]; rfl
theorem disV (p : Int) (b : Bool) : ((!decide (V.int p = V.int (-1))) && (!decide (V.bl (decide (V.int p = V.int 1)) = V.bl b))) = dis p b := by
  unfold dis
  simp
theorem given_ints {n : Nat} {f : Nat → Bool} {g : Nat → Int} : given n f (fun k => V.int (g k)) = (((List.range n).filter f).map g).map V.int := by
  unfold given
  rw [List.map_map]; rfl
theorem no_dis {ps : List Int} {i : Nat} : (((List.range ps.length).filter fun k => dis (ps.getD k 0) (i.testBit k)).map fun (k : Nat) => (0 : Int) + (k : Int)).isEmpty = agr i ps := by
  rw [Bool.eq_iff_iff, agr_iff, List.isEmpty_iff, List.map_eq_nil_iff, List.filter_eq_nil_iff]
  constructor
  · intro h j hj
    have := h j (List.mem_range.mpr hj)
    simpa using this
  · intro h j hj
    rw [h j (List.mem_range.mp hj)]
    decide
end G
namespace G
open PySem PySem.Spec PyProof.Rows L2 Evl
theorem lay_tups : ∀ Ps : List (List Int), PyData.canLayAll0 (Ps.map fun p => .tuple (p.map PyData.int)) = true ∧ PyData.depthAll (Ps.map fun p => .tuple (p.map PyData.int)) ≤ 1
  | [] => ⟨rfl, Nat.zero_le _⟩
  | p :: r => by
    have ih := lay_tups r
    have h1 := PySem.W.ke_canLayAll0 p
    have h2 := PySem.W.ke_depthAll p
    constructor
    · simp [PyData.canLayAll0, PyData.canLay0, h1, ih.1]
    · have := ih.2
      simp [PyData.depthAll, PyData.depth, h2]
      omega
theorem shaped_tups (Ps : List (List Int)) : SeqAt.shaped (.list (Ps.map fun p => .tuple (p.map PyData.int))) = true := by
  have h := lay_tups Ps
  have h2 := h.2
  simp [SeqAt.shaped, PyData.canLay0, PyData.depth, h.1]
  omega
theorem dp_tups {K : PySem.W.Frag} {H : Hp} : ∀ {gs : List Addr} {Ps : List (List Int)}, All2 (TupAt H) gs Ps → DpAll K H (gs.map V.ref) (Ps.map fun p => .tuple (p.map PyData.int))
  | [], [], _ => .nil
  | [], _ :: _, h => nomatch h.1
  | _ :: _, [], h => nomatch h.1
  | a :: r, p :: Ps, h => .cons (.tup (SqT.of (h.2 0 a p rfl rfl)) (dpAll_map (fun i => .int i) p)) (dp_tups ⟨Nat.succ.inj h.1, fun i x y h1 h2 => h.2 (i + 1) x y h1 h2⟩)
theorem rep_tints {H : Hp} {a : Addr} {l : List Int} (h : H a = some (.tup (l.map V.int))) : Rep H (.ref a) (.tup (l.map D.int)) :=
  let r := rep_map (H := H) (f := V.int) (g := D.int) (l := l) fun i => .int i
  .tup h r.1 r.2
theorem okD_tints {l : List Int} (h : l.length < 2 ^ 61) : okD 1 (.tup (l.map D.int)) := ⟨by rw [List.length_map]; exact h, fun d hd => by obtain ⟨_, _, rfl⟩ := List.mem_map.mp hd; trivial⟩
section
variable {P : Program} {w : World} {K : PySem.W.Frag} {mg : Str → Option Value} {base : Heap}
def spForces : Sp := fun vs H Q _ => ∃ (t pt : Addr) (bs : List Bool) (ps : List Int) (v : Bool), vs = [.ref t, .ref pt, .bl v] ∧ H t = some (.tup (bs.map V.bl)) ∧ TupAt H pt ps ∧ bs.length = 2 ^ ps.length ∧ ps.length ≤ 5 ∧ tern ps ∧ ∀ H', Ex H H' → Q (.bl (Fo bs v ps)) H'
theorem sc_law_forces : FnScope ["table", "partial", "value", "index", "bits", "k"] ["table", "partial", "value"] (defScope s_law_forces) := ⟨rfl, rfl, rfl, by decide +kernel, rfl, by decide +kernel, by decide +kernel⟩
theorem ok_law_forces (D : Dfd K mg "_law_forces" s_law_forces ["table", "partial", "value"]) (T : TxtS mg) (C : Has P w K mg base 1 "_law_bits" ["index", "many"] spBits) : Has P w K mg base 2 "_law_forces" ["table", "partial", "value"] spForces := by
  obtain ⟨f_law_bits, d_law_bits, G_law_bits, g_law_bits, k_law_bits, b_law_bits⟩ := C
  refine D.has fun f fd F => F.ok sc_law_forces (fun vs H Q E h => ?_) (fun cdv A outer s H vs Q E hr h => ?_)
  · obtain ⟨t, pt, bs, ps, v, rfl, _⟩ := h
    rfl
  · obtain ⟨t, pt, bs, ps, v, rfl, ht, hp, hl, hm, hk, q⟩ := h
    have h32 : bs.length ≤ 32 := by rw [hl]; exact Nat.le_trans (Nat.pow_le_pow_right (by decide) hm) (by decide)
    have hlp : (ps.map V.int).length = ps.length := List.length_map ..
    have hlb : (bs.map V.bl).length = bs.length := List.length_map ..
    have hfo := fo_iff (v := v) hl hk
    refine ⟨_, (pss_cons (ps_for PassesOwn.never rfl (pi_range1 rfl T.range (pa_cons (pe_callB call_len_seq (by rfl) T.len (by decide +kernel) (pa_cons (pv 0) pa_nil)) pa_nil)) (pg_name (i := 3) sc_law_forces.nd rfl (.inl rfl))
      (pss_cons (ps_set (i := 4) sc_law_forces.nd rfl (.inr rfl) (pe_call G_law_bits (hr.mono (by omega)) (by rfl) g_law_bits k_law_bits b_law_bits .nil pass0 (pa_cons (pv 3) (pa_cons (pe_callB call_len_seq (by rfl) T.len (by decide +kernel) (pa_cons (pv 1) pa_nil)) pa_nil))))
      (pss_one (ps_if (pt_cmpR (op_eqD hr.units) (pe_lc (own := [("k", 5)]) (g := gName 5) (tt := _) rfl sc_law_forces.nd (pi_range1 rfl T.range (pa_cons (pe_callB call_len_seq (by rfl) T.len (by decide +kernel) (pa_cons (pv 1) pa_nil)) pa_nil)) (blkOk_by (N := ["table", "partial", "value", "index", "bits", "k"]) (sc := defScope s_law_forces) (own := [("k", 5)]) (by decide +kernel)) (fun _ _ _ _ _ => (pg_name (i := 5) sc_law_forces.nd rfl (.inl rfl))) (fun _ _ _ _ _ => pts_one (PW.pt (pw_and (pt_cmpR op_ne (pe_ix (kIxT (K := K) rfl) (pv 1) (pv 5) (fun _ _ => rfl)) (pe_un un_neg pe_int) (nomark _)) (pw_and1 (pt_cmpR op_ne (pe_cmpR op_eq (pe_ix (kIxT (K := K) rfl) (pv 1) (pv 5) (fun _ _ => rfl)) pe_int (nomark _)) (pe_ix (kIxT (K := K) rfl) (pv 4) (pv 5) (fun _ _ => rfl)) (nomark _)))))) (fun _ _ _ _ _ => (pv 5))) (pe_lst pa_nil) (nomark _))
        (pss_one (ps_if (pt_cmpR op_ne (pe_ix ix_tup (pv 0) (pv 3) (fun _ _ => rfl)) (pv 2) (nomark _))
          (pss_one (ps_ret pe_bl))
          pss_nil))
        pss_nil))))
    (pss_one (ps_ret pe_bl))), ?_⟩
    refine ⟨_, rfl, _, _, rfl, .inr (SqT.of ht), _, rfl, by omega, by omega, for_range (n := (((bs.map V.bl).length : Nat) : Int).toNat)
      (fun i σ H' => Ex H H' ∧ (∀ x, x < i → agr x ps = true → bs.getD x false = v) ∧ ∃ (x y z : Option V), σ = [some (.ref t), some (.ref pt), some (.bl v), x, y, z]) ⟨Ex.refl _, fun x h _ => absurd h (Nat.not_lt_zero x), _, _, _, rfl⟩ ?_ ?_⟩
    · rintro i σ H1 hi ⟨e1, hall, x, y, z, rfl⟩
      have hi' : i < bs.length := by omega
      have e0 : (0 : Int) + (i : Int) = (i : Int) := Int.zero_add _
      rw [e0]
      refine ⟨_, rfl, _, rfl, _, _, rfl, .inr (SqT.of (e1 _ _ hp)), i, ps.length, by rw [hlp]; rfl, by omega, fun tb2 H2 n2 E2 h2 => ?_⟩
      have e2 := e1.trans E2
      refine ⟨_, rfl, _, _, rfl, .inr (SqT.of (e2 _ _ hp)), _, rfl, by omega, by omega, fun L nL => lcR (fun k => dis (ps.getD k 0) (i.testBit k)) (fun k => .int (0 + (k : Int))) (by omega) (fun _ => rfl) ?_ (fun k H3 _ _ _ Q q => ⟨_, rfl, q⟩) ?_⟩
      · intro k H3 hk3 eH Q q
        have x3 : Ex H2 H3 := by rw [eH]; exact Ex.new nL
        have hk4 : k < ps.length := by omega
        have ek : (0 : Int) + (k : Int) = (k : Int) := Int.zero_add _
        rw [ek]
        refine ⟨_, rfl, _, rfl, _, _, _, _, rfl, rfl, SqT.of (x3 _ _ (e2 _ _ hp)), atI_nat (ints_at hk4), _, rfl, rfl, _, rfl, ?_⟩
        have qq := q
        rw [← disV] at qq
        cases hc : (!decide (V.int (ps.getD k 0) = V.int (-1))) with
        | false => rw [hc] at qq; exact iteF qq
        | true =>
          rw [hc] at qq
          exact iteT ⟨_, rfl, _, rfl, _, _, _, _, rfl, rfl, SqT.of (x3 _ _ (e2 _ _ hp)), atI_nat (ints_at hk4), rfl, _, rfl, _, rfl, _, _, _, _, rfl, rfl, SqT.of (x3 _ _ h2), atI_nat (bits_at hk4), rfl, _, rfl, qq⟩
      · refine ⟨Nat.zero_le _, fun L2 nL2 => ?_⟩
        have x3 : Ex H2 (upd H2 L (.lst (given ((((ps.map V.int).length : Nat) : Int)).toNat (fun k => dis (ps.getD k 0) (i.testBit k)) fun k => .int (0 + (k : Int))))) := Ex.new nL
        have x4 := (e2.trans x3).trans (Ex.new (o := .lst []) nL2)
        have hL : upd (upd H2 L (.lst (given ((((ps.map V.int).length : Nat) : Int)).toNat (fun k => dis (ps.getD k 0) (i.testBit k)) fun k => .int (0 + (k : Int))))) L2 (.lst []) L = some (.lst ((((List.range ps.length).filter fun k => dis (ps.getD k 0) (i.testBit k)).map fun (k : Nat) => (0 : Int) + (k : Int)).map V.int)) := by
          rw [upd_ne (ne_of_none upd_same nL2), upd_same, given_ints (g := fun k => (0 : Int) + (k : Int)), hlp, Int.toNat_natCast]
        refine ⟨_, _, dp_ints (SqL.of hL), dp_nil (SqL.of upd_same), PySem.W.ke_shaped_ints _, shaped_nil, _, rfl, ?_⟩
        rw [eqv_nil]
        generalize upd (upd H2 L (.lst (given ((((ps.map V.int).length : Nat) : Int)).toNat (fun k => dis (ps.getD k 0) (i.testBit k)) fun k => .int (0 + (k : Int))))) L2 (.lst []) = H4 at *
        have em : (((((List.range ps.length).filter fun k => dis (ps.getD k 0) (i.testBit k)).map fun (k : Nat) => (0 : Int) + (k : Int)).map PyData.int)).isEmpty = agr i ps := by
          rw [← no_dis, List.isEmpty_map]
        rw [em]
        cases ha : agr i ps with
        | false =>
          refine iteF ⟨x4, fun x hx hax => ?_, _, _, _, rfl⟩
          rcases Nat.lt_succ_iff_lt_or_eq.mp hx with z | z
          · exact hall x z hax
          · rw [z, ha] at hax; cases hax
        | true =>
          refine iteT ⟨_, rfl, _, rfl, _, _, _, _, rfl, rfl, SqT.of (x4 _ _ ht), atI_nat (tabV_at hi'), _, rfl, rfl, _, rfl, ?_⟩
          have ed : decide (V.bl (bs.getD i false) = V.bl v) = decide (bs.getD i false = v) := by cases bs.getD i false <;> cases v <;> rfl
          rw [ed]
          cases hv : decide (bs.getD i false = v) with
          | true =>
            refine iteF ⟨x4, fun x hx hax => ?_, _, _, _, rfl⟩
            rcases Nat.lt_succ_iff_lt_or_eq.mp hx with z | z
            · exact hall x z hax
            · rw [z]; exact of_decide_eq_true hv
          | false =>
            refine iteT ?_
            have ef : Fo bs v ps = false := by
              cases e : Fo bs v ps with
              | false => rfl
              | true => exact absurd (hfo.mp e i hi' ha) (of_decide_eq_false hv)
            have := q H4 x4
            rw [ef] at this
            exact this
    · rintro σ H1 ⟨e1, hall, x, y, z, rfl⟩
      rw [hlb, Int.toNat_natCast] at hall
      have := q H1 e1
      rw [hfo.mpr hall] at this
      exact this
def spPartial : Sp := fun vs H Q _ => ∃ (x : Int) (m : Nat), vs = [.int x, .int m] ∧ m ≤ 5 ∧ ∀ (t : Addr) (ps : List Int) (H' : Hp), H t = none → Ex H H' → TupAt H' t ps → ps.length = m → tern ps → Q (.ref t) H'
theorem sc_law_partial : FnScope ["number", "many", "out", "k"] ["number", "many"] (defScope s_law_partial) := ⟨rfl, rfl, rfl, by decide +kernel, rfl, by decide +kernel, by decide +kernel⟩
theorem ok_law_partial (D : Dfd K mg "_law_partial" s_law_partial ["number", "many"]) (T : TxtS mg) : Has P w K mg base 1 "_law_partial" ["number", "many"] spPartial := by
  refine D.has fun f fd F => F.ok sc_law_partial (fun vs H Q E h => ?_) (fun cdv A outer s H vs Q E hr h => ?_)
  · obtain ⟨x, m, rfl, _⟩ := h
    rfl
  · obtain ⟨x, m, rfl, hm, q⟩ := h
    refine ⟨_, (pss_cons (ps_set (i := 2) sc_law_partial.nd rfl (.inl rfl) (pe_lst pa_nil))
    (pss_cons (ps_for PassesOwn.never rfl (pi_range1 rfl T.range (pa_cons (pv 1) pa_nil)) (pg_name (i := 3) sc_law_partial.nd rfl (.inl rfl))
      (pss_cons (ps_expr (pe_bm PySem.F.plainAttrs_list PySem.F.slot_list_append PySem.F.type_list_append mt_append (pv 2) (pa_cons (pe_op op_sub (pe_op op_mod (pe_callTy call_int1 (by rfl) T.int (by decide +kernel) (pa_cons (pv 0) pa_nil)) pe_int) pe_int) pa_nil)))
      (pss_one (ps_set (i := 0) sc_law_partial.nd rfl (.inl rfl) (pe_op op_fdiv (pv 0) pe_int)))))
    (pss_one (ps_ret (pe_callTy call_tuple_of (by rfl) T.tuple (by decide +kernel) (pa_cons (pv 2) pa_nil)))))), ?_⟩
    refine ⟨Nat.zero_le _, fun o no => ⟨_, rfl, _, rfl, by omega, by omega, for_range (n := ((m : Nat) : Int).toNat)
      (fun i σ H' => Ex H H' ∧ ∃ (ps : List Int) (y : Int) (z : Option V), ps.length = i ∧ tern ps ∧ H' o = some (.lst (ps.map V.int)) ∧ σ = [some (.int y), some (.int m), some (.ref o), z]) ⟨Ex.new no, [], x, none, rfl, (fun _ h => nomatch h), upd_same, rfl⟩ ?_ ?_⟩⟩
    · rintro i σ H1 hi ⟨e1, ps, y, z, hps, ht, ho, rfl⟩
      rw [Int.toNat_natCast] at hi
      refine ⟨_, rfl, .inl ⟨rfl, _, SqL.of ho⟩, _, rfl, .inl ⟨_, rfl, _, _, rfl, rfl, (by show (0 : Int) < 3; decide), _, _, rfl, rfl, o, _, _, rfl, rfl, ho, sz_lt (by rw [List.length_map]; omega), _, rfl, _, _, rfl, rfl, ⟨by decide, by decide⟩, e1.mut no, ps ++ [y % 3 - 1], y / 3, _, ?_, ?_, ?_, rfl⟩⟩
      · rw [List.length_append, hps]; rfl
      · intro j hj
        rcases List.mem_append.mp hj with z | z
        · exact ht j z
        · rw [List.mem_singleton.mp z]
          omega
      · rw [upd_same, List.map_append]; rfl
    · rintro σ H1 ⟨e1, ps, y, z, hps, ht, ho, rfl⟩
      rw [Int.toNat_natCast] at hps
      refine ⟨_, rfl, _, _, rfl, .inl ⟨SqL.of ho, fun t nt => ?_⟩⟩
      exact q t ps _ (fresh_back e1 nt) (e1.trans (Ex.new nt)) upd_same hps ht
def spInside : Sp := fun vs H Q _ => ∃ (ct pt : Addr) (c p : List Int), vs = [.ref ct, .ref pt] ∧ TupAt H ct c ∧ TupAt H pt p ∧ c.length = p.length ∧ p.length ≤ 5 ∧ ∀ H', Ex H H' → Q (.bl (insd c p)) H'
theorem insd_empty {c p : List Int} : (((List.range c.length).filter fun k => !decide (c.getD k 0 = -1) && !decide (c.getD k 0 = p.getD k 0)).map fun (k : Nat) => (0 : Int) + (k : Int)).isEmpty = insd c p := by
  unfold insd
  rw [Bool.eq_iff_iff, List.isEmpty_iff, List.map_eq_nil_iff, List.filter_eq_nil_iff, List.all_eq_true]
  constructor
  · intro h j hj
    have := h j hj
    cases z : (!decide (c.getD j 0 = -1) && !decide (c.getD j 0 = p.getD j 0)) with
    | false => rfl
    | true => exact absurd z this
  · intro h j hj
    have := h j hj
    intro z
    rw [z] at this; cases this
theorem sc_law_inside : FnScope ["cube", "partial", "k"] ["cube", "partial"] (defScope s_law_inside) := ⟨rfl, rfl, rfl, by decide +kernel, rfl, by decide +kernel, by decide +kernel⟩
theorem ok_law_inside (D : Dfd K mg "_law_inside" s_law_inside ["cube", "partial"]) (T : TxtS mg) : Has P w K mg base 1 "_law_inside" ["cube", "partial"] spInside := by
  refine D.has fun f fd F => F.ok sc_law_inside (fun vs H Q E h => ?_) (fun cdv A outer s H vs Q E hr h => ?_)
  · obtain ⟨ct, pt, c, p, rfl, _⟩ := h
    rfl
  · obtain ⟨ct, pt, c, p, rfl, hc, hp, hl, hm, q⟩ := h
    have hlc : (c.map V.int).length = c.length := List.length_map ..
    refine ⟨_, (pss_one (ps_ret (pe_cmpR (op_eqD hr.units) (pe_lc (own := [("k", 2)]) (g := gName 2) (tt := _) rfl sc_law_inside.nd (pi_range1 rfl T.range (pa_cons (pe_callB call_len_seq (by rfl) T.len (by decide +kernel) (pa_cons (pv 0) pa_nil)) pa_nil)) (blkOk_by (N := ["cube", "partial", "k"]) (sc := defScope s_law_inside) (own := [("k", 2)]) (by decide +kernel)) (fun _ _ _ _ _ => (pg_name (i := 2) sc_law_inside.nd rfl (.inl rfl))) (fun _ _ _ _ _ => pts_one (PW.pt (pw_and (pt_cmpR op_ne (pe_ix (kIxT (K := K) rfl) (pv 0) (pv 2) (fun _ _ => rfl)) (pe_un un_neg pe_int) (nomark _)) (pw_and1 (pt_cmpR op_ne (pe_ix (kIxT (K := K) rfl) (pv 0) (pv 2) (fun _ _ => rfl)) (pe_ix (kIxT (K := K) rfl) (pv 1) (pv 2) (fun _ _ => rfl)) (nomark _)))))) (fun _ _ _ _ _ => (pv 2))) (pe_lst pa_nil) (nomark _)))), ?_⟩
    refine ⟨_, rfl, _, _, rfl, .inr (SqT.of hc), _, rfl, by omega, by omega, fun L nL => lcR (fun k => !decide (c.getD k 0 = -1) && !decide (c.getD k 0 = p.getD k 0)) (fun k => .int (0 + (k : Int))) (by omega) (fun _ => rfl) ?_ (fun k H3 _ _ _ Q q => ⟨_, rfl, q⟩) ?_⟩
    · intro k H3 hk3 eH Q q
      have x3 : Ex H H3 := by rw [eH]; exact Ex.new nL
      have hk4 : k < c.length := by omega
      have ek : (0 : Int) + (k : Int) = (k : Int) := Int.zero_add _
      rw [ek]
      refine ⟨_, rfl, _, rfl, _, _, _, _, rfl, rfl, SqT.of (x3 _ _ hc), atI_nat (ints_at hk4), _, rfl, rfl, _, rfl, ?_⟩
      have qq := q
      rw [← decV_int (c.getD k 0) (-1), ← decV_int (c.getD k 0)] at qq
      cases hd : (!decide (V.int (c.getD k 0) = V.int (-1))) with
      | false => rw [hd] at qq; exact iteF qq
      | true =>
        rw [hd] at qq
        exact iteT ⟨_, rfl, _, rfl, _, _, _, _, rfl, rfl, SqT.of (x3 _ _ hc), atI_nat (ints_at hk4), _, rfl, _, rfl, _, _, _, _, rfl, rfl, SqT.of (x3 _ _ hp), atI_nat (ints_at (by omega)), rfl, _, rfl, qq⟩
    · refine ⟨Nat.zero_le _, fun L2 nL2 => ?_⟩
      have hL : upd (upd H L (.lst (given ((((c.map V.int).length : Nat) : Int)).toNat (fun k => !decide (c.getD k 0 = -1) && !decide (c.getD k 0 = p.getD k 0)) fun k => .int (0 + (k : Int))))) L2 (.lst []) L = some (.lst ((((List.range c.length).filter fun k => !decide (c.getD k 0 = -1) && !decide (c.getD k 0 = p.getD k 0)).map fun (k : Nat) => (0 : Int) + (k : Int)).map V.int)) := by
        rw [upd_ne (ne_of_none upd_same nL2), upd_same, given_ints (g := fun k => (0 : Int) + (k : Int)), hlc, Int.toNat_natCast]
      refine ⟨_, _, dp_ints (SqL.of hL), dp_nil (SqL.of upd_same), PySem.W.ke_shaped_ints _, shaped_nil, ?_⟩
      rw [eqv_nil, List.isEmpty_map, insd_empty]
      exact q _ ((Ex.new nL).trans (Ex.new nL2))
def spAre : Sp := fun vs H Q _ => ∃ (t L : Addr) (as : List Addr) (bs : List Bool) (v : Bool) (n : Nat), vs = [.ref t, .ref L, .bl v, .int n] ∧ H t = some (.tup (bs.map V.bl)) ∧ H L = some (.lst (as.map V.ref)) ∧ All2 (TupAt H) as (cubesL bs v n) ∧ bs.length = 2 ^ n ∧ n ≤ 5 ∧ ∀ H', Ex H H' → Q (.bl true) H'
theorem no_mark {x : V} {i : Nat} {p : List Int} (ht : tern p) (h : (p.map V.int)[i]? = some x) : inV x [.int (-1), .int 0, .int 1] = true := by
  rw [List.getElem?_map] at h
  cases e : p[i]? with
  | none => rw [e] at h; cases h
  | some k =>
    rw [e] at h
    cases h
    rcases ht k (List.mem_of_getElem? e) with rfl | rfl | rfl <;> rfl
theorem sc_law_are_cubes : FnScope ["table", "found", "value", "many", "at", "cube", "k", "mark"] ["table", "found", "value", "many"] (defScope s_law_are_cubes) := ⟨rfl, rfl, rfl, by decide +kernel, rfl, by decide +kernel, by decide +kernel⟩
theorem ok_law_are_cubes (D : Dfd K mg "_law_are_cubes" s_law_are_cubes ["table", "found", "value", "many"]) (T : TxtS mg) (C1 : Has P w K mg base 2 "_law_same" ["actual", "due"] (spSame 2)) (C2 : Has P w K mg base 2 "_law_forces" ["table", "partial", "value"] spForces) :
    Has P w K mg base 3 "_law_are_cubes" ["table", "found", "value", "many"] spAre := by
  obtain ⟨f_law_same, d_law_same, G_law_same, g_law_same, k_law_same, b_law_same⟩ := C1
  obtain ⟨f_law_forces, d_law_forces, G_law_forces, g_law_forces, k_law_forces, b_law_forces⟩ := C2
  refine D.has fun f fd F => F.ok sc_law_are_cubes (fun vs H Q E h => ?_) (fun cdv A outer s H vs Q E hr h => ?_)
  · obtain ⟨t, L, as, bs, v, n, rfl, _⟩ := h
    rfl
  · obtain ⟨t, L, as, bs, v, n, rfl, ht, hL, hA, hl, hn, q⟩ := h
    have hal : as.length ≤ 243 := by rw [hA.1]; exact Nat.le_trans (cubes_le _ _ _) (pow3_le hn)
    have hlen : (as.map V.ref).length = as.length := List.length_map ..
    refine ⟨_, (pss_cons (ps_if (pt_not (pt_val (pe_callB call_isi (by rfl) T.isinstance (by decide +kernel) (pa_cons (pv 1) (pa_cons (pe_bltn (v := .ty "list") (by rfl) T.list (by decide +kernel) rfl) pa_nil)))))
      (pss_one (ps_ret pe_bl))
      pss_nil)
    (pss_cons (ps_for PassesOwn.never rfl (pi_range1 rfl T.range (pa_cons (pe_callB call_len_seq (by rfl) T.len (by decide +kernel) (pa_cons (pv 1) pa_nil)) pa_nil)) (pg_name (i := 4) sc_law_are_cubes.nd rfl (.inl rfl))
      (pss_cons (ps_set (i := 5) sc_law_are_cubes.nd rfl (.inl rfl) (pe_ix ix_list (pv 1) (pv 4) (fun _ _ => rfl)))
      (pss_cut (ps_if (PW.pt (pw_or (pt_not (pt_val (pe_call G_law_same (hr.mono (by omega)) (by rfl) g_law_same k_law_same b_law_same .nil pass0 (pa_cons (pv 5) (pa_cons (pe_callTy call_tuple_of (by rfl) T.tuple (by decide +kernel) (pa_cons (pe_lc (own := [("mark", 7)]) (g := gName 7) (tt := tYes) rfl sc_law_are_cubes.nd (pi_tup (pv 5)) (blkOk_by (N := ["table", "found", "value", "many", "at", "cube", "k", "mark"]) (sc := defScope s_law_are_cubes) (own := [("mark", 7)]) (by decide +kernel)) (fun _ _ _ _ _ => (pg_name (i := 7) sc_law_are_cubes.nd rfl (.inl rfl))) (fun _ _ _ _ _ => pts_nil) (fun _ _ _ _ _ => (pe_callTy call_int1 (by rfl) T.int (by decide +kernel) (pa_cons (pv 7) pa_nil)))) pa_nil)) pa_nil))))) (pw_or1 (pt_cmpR op_ne (pe_callB call_len_seq (by rfl) T.len (by decide +kernel) (pa_cons (pv 5) pa_nil)) (pv 3) (nomark _)))))
        (pss_one (ps_ret pe_bl))
        pss_nil)
      (pss_cut (ps_if (PW.pt (pw_or (pt_cmpR (op_neD hr.units) (pe_lc (own := [("mark", 7)]) (g := gName 7) (tt := _) rfl sc_law_are_cubes.nd (pi_tup (pv 5)) (blkOk_by (N := ["table", "found", "value", "many", "at", "cube", "k", "mark"]) (sc := defScope s_law_are_cubes) (own := [("mark", 7)]) (by decide +kernel)) (fun _ _ _ _ _ => (pg_name (i := 7) sc_law_are_cubes.nd rfl (.inl rfl))) (fun _ _ _ _ _ => pts_one (pt_cmpR (kNotIn (K := K) rfl) (pv 7) (pe_lst (pa_cons (pe_un un_neg pe_int) (pa_cons pe_int (pa_cons pe_int pa_nil)))) (by rfl))) (fun _ _ _ _ _ => (pv 7))) (pe_lst pa_nil) (nomark _)) (pw_or1 (PW.pt (pw_and (pt_cmpR op_gt (pv 4) pe_int (nomark _)) (pw_and1 (pt_not (pt_cmpR (op_ltT hr.units0) (pe_ix ix_list (pv 1) (pe_op op_sub (pv 4) pe_int) (fun _ _ => rfl)) (pv 5) (nomark _)))))))))
        (pss_one (ps_ret pe_bl))
        pss_nil)
      (pss_cons (ps_if (pt_not (pt_val (pe_call G_law_forces (hr.mono (by omega)) (by rfl) g_law_forces k_law_forces b_law_forces .nil pass0 (pa_cons (pv 0) (pa_cons (pv 5) (pa_cons (pv 2) pa_nil))))))
        (pss_one (ps_ret pe_bl))
        pss_nil)
      (pss_one (ps_for PassesOwn.never rfl (pi_range1 rfl T.range (pa_cons (pv 3) pa_nil)) (pg_name (i := 6) sc_law_are_cubes.nd rfl (.inl rfl))
        (pss_one (ps_if (PW.pt (pw_and (pt_cmpR op_ne (pe_ix ix_tup (pv 5) (pv 6) (fun _ _ => rfl)) (pe_un un_neg pe_int) (nomark _)) (pw_and1 (pt_val (pe_call G_law_forces (hr.mono (by omega)) (by rfl) g_law_forces k_law_forces b_law_forces .nil pass0 (pa_cons (pv 0) (pa_cons (pe_op op_catA (pe_op op_catA (pe_slice sl_tupA (pv 5) po_none (po_some (pv 6))) (pe_tup (pa_cons (pe_un un_neg pe_int) pa_nil))) (pe_slice sl_tupA (pv 5) (po_some (pe_op op_add (pv 6) pe_int)) po_none)) (pa_cons (pv 2) pa_nil))))))))
          (pss_one (ps_ret pe_bl))
          pss_nil)))))))))
    (pss_one (ps_ret pe_bl)))), ?_⟩
    refine ⟨_, rfl, _, _, _, _, _, rfl, .ty "list", .base (.lst hL), kit_ty (a := "list") (r := true) (by decide +kernel), _, rfl, iteF ⟨_, rfl, _, _, rfl, .inl (SqL.of hL), _, rfl, by omega, by omega, for_range (n := (((as.map V.ref).length : Nat) : Int).toNat)
      (fun i σ H' => Ex H H' ∧ ∃ (x y z w : Option V), σ = [some (.ref t), some (.ref L), some (.bl v), some (.int n), x, y, z, w]) ⟨Ex.refl _, _, _, _, _, rfl⟩ ?_ ?_⟩⟩
    · rintro i σ H1 hi ⟨e1, x, y, z, w, rfl⟩
      have hi' : i < as.length := by omega
      have e0 : (0 : Int) + (i : Int) = (i : Int) := Int.zero_add _
      rw [e0]
      obtain ⟨c, hc⟩ : ∃ c, as[i]? = some c := ⟨_, List.getElem?_eq_getElem hi'⟩
      have hcV : (as.map V.ref)[i]? = some (.ref c) := by rw [List.getElem?_map, hc]; rfl
      obtain ⟨p, hp, hcp⟩ := hA.at_ hc
      obtain ⟨⟨hpl, hpt⟩, hpf, hpw⟩ := mem_cubes.mp (List.mem_of_getElem? hp)
      have hpm : (p.map V.int).length = p.length := List.length_map ..
      have hbl : bs.length = 2 ^ p.length := by rw [hpl]; exact hl
      refine ⟨_, rfl, _, rfl, _, _, _, _, rfl, rfl, SqL.of (e1 _ _ hL), atI_nat hcV, ?_⟩
      refine ⟨fun σ H' => Ex H H' ∧ ∃ (z w : Option V), σ = [some (.ref t), some (.ref L), some (.bl v), some (.int n), some (.int (i : Int)), some (.ref c), z, w], ?_, ?_⟩
      · refine ⟨_, rfl, _, rfl, c, rfl, ⟨_, SqT.of (e1 _ _ hcp)⟩, fun M nM => lcTm (xs := p.map V.int) id (SqT.of (e1 _ _ hcp)) nM (by omega) (fun _ => rfl) (fun j x H4 hx _ Q q => ?_) ?_⟩
        · obtain ⟨k, rfl⟩ : ∃ k, x = .int k := by
            rw [List.getElem?_map] at hx
            cases e : p[j]? with
            | none => rw [e] at hx; cases hx
            | some k => rw [e] at hx; cases hx; exact ⟨k, rfl⟩
          exact ⟨_, rfl, .inl ⟨_, rfl, q⟩⟩
        · refine ⟨_, _, rfl, .inl ⟨SqL.of upd_same, fun tt nt => ?_⟩⟩
          rw [List.map_id] at nt ⊢
          have E2 := (Ex.new (o := .lst (p.map V.int)) nM).trans (Ex.new (o := .tup (p.map V.int)) nt)
          refine ⟨_, _, .tup (p.map G.D.int), rfl, rep_tints (E2 _ _ (e1 _ _ hcp)), rep_tints upd_same, okD_tints (l := p) (by omega), _, rfl, iteF ⟨_, rfl, _, _, rfl, .inr (SqT.of (E2 _ _ (e1 _ _ hcp))), _, rfl, rfl, _, rfl, ?_⟩⟩
          have ed : (!decide (V.int ((p.map V.int).length : Int) = V.int (n : Int))) = false := by rw [hpm, hpl, decide_eq_true rfl]; rfl
          rw [ed]
          exact iteF ⟨e1.trans E2, _, _, rfl⟩
      · rintro σ H2 ⟨e2, z, w, rfl⟩
        refine ⟨fun σ H' => Ex H H' ∧ ∃ (z w : Option V), σ = [some (.ref t), some (.ref L), some (.bl v), some (.int n), some (.int (i : Int)), some (.ref c), z, w], ?_, ?_⟩
        · refine ⟨_, rfl, c, rfl, ⟨_, SqT.of (e2 _ _ hcp)⟩, fun M nM => wk_tup (K := K) (a := c) (xs := p.map V.int) (fun j H' => Ex H2 H' ∧ H' M = some (.lst [])) ⟨Ex.new nM, upd_same⟩ (fun j H' _ g => SqT.of (g.1 _ _ (e2 _ _ hcp))) ?_ ?_⟩
          · rintro j x H3 hx ⟨E3, hM⟩
            have hin := no_mark hpt hx
            obtain ⟨k, rfl⟩ : ∃ k, x = .int k := by
              rw [List.getElem?_map] at hx
              cases e : p[j]? with
              | none => rw [e] at hx; cases hx
              | some k => rw [e] at hx; cases hx; exact ⟨k, rfl⟩
            refine ⟨rfl, _, rfl, _, rfl, (by show 3 ≤ sizeLine; decide), fun l nl => ⟨l, _, rfl, .inl (SqL.of upd_same), rfl, rfl, _, rfl, ?_⟩⟩
            show if (if true = true then !inV (.int k) [.int (-1), .int 0, .int 1] else inV (.int k) [.int (-1), .int 0, .int 1]) = true then _ else _
            rw [if_pos rfl, hin]
            exact iteF ⟨E3.trans (Ex.new nl), (upd_ne (ne_of_none hM nl)).trans hM⟩
          · rintro H3 ⟨E3, hM⟩
            refine ⟨Nat.zero_le _, fun L2 nL2 => ⟨_, _, dp_nil (SqL.of ((upd_ne (ne_of_none hM nL2)).trans hM)), dp_nil (SqL.of upd_same), shaped_nil, shaped_nil, _, rfl, ?_⟩⟩
            rw [eqv_nil]
            have E4 := e2.trans (E3.trans (Ex.new (o := .lst []) nL2))
            generalize upd H3 L2 (.lst []) = H4 at *
            refine iteF ⟨_, rfl, _, _, rfl, rfl, _, rfl, ite2 (fun g => ?_) (fun g => ⟨E4, _, _, rfl⟩)⟩
            have hi0 : 0 < i := by have := of_decide_eq_true g; omega
            obtain ⟨c2, hc2⟩ : ∃ c, as[i - 1]? = some c := ⟨_, List.getElem?_eq_getElem (by omega)⟩
            obtain ⟨p2, hp2, hcp2⟩ := hA.at_ hc2
            have hc2V : (as.map V.ref)[i - 1]? = some (.ref c2) := by rw [List.getElem?_map, hc2]; rfl
            have ei : (i : Int) - 1 = ((i - 1 : Nat) : Int) := by omega
            refine ⟨_, rfl, _, rfl, _, _, rfl, rfl, _, _, _, _, rfl, rfl, SqL.of (E4 _ _ hL), (by rw [ei]; exact atI_nat hc2V), _, rfl, c2, c, p2, p, rfl, rfl, SqT.of (E4 _ _ hcp2), SqT.of (E4 _ _ hcp), _, rfl, ?_⟩
            have hlt : HT.lexLt p2 p = true := by
              obtain ⟨a1, b1⟩ := List.getElem?_eq_some_iff.mp hp2
              obtain ⟨a2, b2⟩ := List.getElem?_eq_some_iff.mp hp
              have := List.pairwise_iff_getElem.mp (cubes_sorted bs v n) (i - 1) i a1 a2 (by omega)
              rw [b1, b2] at this
              exact this
            rw [hlt]
            exact iteF ⟨E4, _, _, rfl⟩
        · rintro σ H3 ⟨e3, z, w, rfl⟩
          refine ⟨_, rfl, _, rfl, _, rfl, t, c, bs, p, v, rfl, e3 _ _ ht, e3 _ _ hcp, hbl, by omega, hpt, fun H4 E4 => ⟨_, rfl, ?_⟩⟩
          rw [hpf]
          have e4 := e3.trans E4
          refine iteF ⟨_, rfl, _, rfl, by omega, by omega, for_range (n := ((n : Nat) : Int).toNat) (fun k σ H' => Ex H H' ∧ ∃ (z w : Option V), σ = [some (.ref t), some (.ref L), some (.bl v), some (.int n), some (.int (i : Int)), some (.ref c), z, w]) ⟨e4, _, _, rfl⟩ ?_ ?_⟩
          · rintro k σ H5 hk ⟨e5, z, w, rfl⟩
            rw [Int.toNat_natCast] at hk
            have hk' : k < p.length := by omega
            have ek : (0 : Int) + (k : Int) = (k : Int) := Int.zero_add _
            rw [ek]
            refine ⟨_, rfl, _, rfl, _, _, _, _, rfl, rfl, SqT.of (e5 _ _ hcp), atI_nat (ints_at hk'), _, rfl, rfl, _, rfl, ?_⟩
            rw [decV_int]
            cases hd : !decide (p.getD k 0 = -1) with
            | false => exact iteF ⟨e5, _, _, rfl⟩
            | true =>
              have hne : p.getD k 0 ≠ -1 := fun z => by rw [decide_eq_true z] at hd; cases hd
              refine iteT ⟨_, rfl, _, rfl, _, rfl, _, rfl, cut_tup (K := K) (xs := p.map V.int) (e5 _ _ hcp) fun g H6 E6 hg => ⟨_, rfl, (by show 1 ≤ sizeLine; decide), fun m nm => cat_tup (K := K) (ys := [.int (-1)]) ((Ex.new nm) _ _ hg) upd_same ?_ fun d H7 E7 hd7 => ?_⟩⟩
              · rw [cutV_head (by omega)]
                refine Nat.le_of_lt (sz_lt ?_)
                rw [List.length_take, hpm]
                show min k p.length + 1 < _
                omega
              have E57 := E6.trans ((Ex.new nm).trans E7)
              refine ⟨_, rfl, _, rfl, _, _, rfl, rfl, _, rfl, ?_⟩
              unfold tNoPart
              dsimp only
              refine cut_tup (K := K) (xs := p.map V.int) (E57 _ _ (e5 _ _ hcp)) fun g2 H8 E8 hg2 => cat_tup (K := K) (E8 _ _ hd7) hg2 ?_ fun r H9 E9 hr9 => ?_
              · refine Nat.le_of_lt (sz_lt ?_)
                have := congrArg List.length (widen_V hk')
                rw [List.length_append, List.length_map, widen_len hk'] at this
                show (cutV (p.map V.int) none (some (k : Int)) ++ [V.int (-1)]).length + (cutV (p.map V.int) (some ((k + 1 : Nat) : Int)) none).length < _
                omega
              · have e9 := e5.trans (E57.trans (E8.trans E9))
                have hr' : TupAt H9 r (widen p k) := by unfold TupAt; rw [← widen_V hk']; exact hr9
                refine ⟨_, rfl, t, r, bs, widen p k, v, rfl, e9 _ _ ht, hr', by rw [widen_len hk']; exact hbl, by rw [widen_len hk']; omega, tern_widen hpt, fun H10 E10 => ⟨_, rfl, ?_⟩⟩
                rw [hpw k hk' hne]
                exact iteF ⟨e9.trans E10, _, _, rfl⟩
          · rintro σ H5 ⟨e5, z, w, rfl⟩
            exact ⟨e5, _, _, _, _, rfl⟩
    · rintro σ H1 ⟨e1, x, y, z, w, rfl⟩
      exact q H1 e1
def spLaw (K : PySem.W.Frag) : Sp := fun vs H Q _ => ∃ (a : Addr) (ns : List Int), vs = [.ref a] ∧ SqL K H a (ns.map V.int) ∧ ns.length ≤ 63 ∧ ∀ H', Q (.bl true) H'
theorem PoolOk.hidT {p a c : Addr} {H : Hp} {q : List Int} (h : PoolOk p a H) (t : TupAt H c q) : TupAt (hid p H) c q := by
  obtain ⟨_, _, _, _, _, e, _⟩ := h
  show hid p H c = _
  rw [hid_ne (ne_of t e (by intro z; cases z))]; exact t
def cnt (m : Nat) : Nat := [1, 3, 9, 27, 81, 60].getD m 0
theorem cnt_at : ∀ {m : Nat}, m ≤ 5 → ([.int 1, .int 3, .int 9, .int 27, .int 81, .int 60] : List V)[m]? = some (.int ((cnt m : Nat) : Int)) ∧ cnt m ≤ 81
  | 0, _ => ⟨rfl, by decide⟩
  | 1, _ => ⟨rfl, by decide⟩
  | 2, _ => ⟨rfl, by decide⟩
  | 3, _ => ⟨rfl, by decide⟩
  | 4, _ => ⟨rfl, by decide⟩
  | 5, _ => ⟨rfl, by decide⟩
  | n + 6, h => absurd h (by omega)
theorem sc_law : FnScope ["script", "pool", "many", "table", "value", "found", "number", "partial", "cube"] ["script"] (defScope s_law) := ⟨rfl, rfl, rfl, by decide +kernel, rfl, by decide +kernel, by decide +kernel⟩
theorem fn_law {f : Addr} {fd : FuncData} (F : Fun K "law" "law" s_law f fd) (T : TxtS mg) (C1 : Has P w K mg base 1 "_law_pool" ["script"] (spPool K)) (C2 : Has P w K mg base 2 "_law_draw" ["pool", "many"] spDrawX) (C3 : Has P w K mg base 3 "_law_table" ["pool", "many"] spTable)
    (C4 : Has P w K mg base 3 "cubes" ["table", "value"] spCubes) (C5 : Has P w K mg base 3 "_law_are_cubes" ["table", "found", "value", "many"] spAre) (C6 : Has P w K mg base 1 "_law_partial" ["number", "many"] spPartial) (C7 : Has P w K mg base 2 "_law_forces" ["table", "partial", "value"] spForces)
    (C8 : Has P w K mg base 1 "_law_inside" ["cube", "partial"] spInside) : FnOk P w K mg base CX0 4 f fd ["script"] (spLaw K) := by
  obtain ⟨f_law_pool, d_law_pool, G_law_pool, g_law_pool, k_law_pool, b_law_pool⟩ := C1
  obtain ⟨f_law_draw, d_law_draw, G_law_draw, g_law_draw, k_law_draw, b_law_draw⟩ := C2
  obtain ⟨f_law_table, d_law_table, G_law_table, g_law_table, k_law_table, b_law_table⟩ := C3
  obtain ⟨f_cubes, d_cubes, G_cubes, g_cubes, k_cubes, b_cubes⟩ := C4
  obtain ⟨f_law_are_cubes, d_law_are_cubes, G_law_are_cubes, g_law_are_cubes, k_law_are_cubes, b_law_are_cubes⟩ := C5
  obtain ⟨f_law_partial, d_law_partial, G_law_partial, g_law_partial, k_law_partial, b_law_partial⟩ := C6
  obtain ⟨f_law_forces, d_law_forces, G_law_forces, g_law_forces, k_law_forces, b_law_forces⟩ := C7
  obtain ⟨f_law_inside, d_law_inside, G_law_inside, g_law_inside, k_law_inside, b_law_inside⟩ := C8
  refine F.ok sc_law (fun vs H Q E h => ?_) (fun cdv A outer s H vs Q E hr h => ?_)
  · obtain ⟨a, ns, rfl, _⟩ := h
    rfl
  · obtain ⟨sa, ns, rfl, hs, hn, q⟩ := h
    refine ⟨_, (pss_cons (ps_set (i := 1) sc_law.nd rfl (.inl rfl) (pe_call G_law_pool (hr.mono (by omega)) (by rfl) g_law_pool k_law_pool b_law_pool .nil pass0 (pa_cons (pv 0) pa_nil)))
    (pss_cons (ps_set (i := 2) sc_law.nd rfl (.inl rfl) (pe_call G_law_draw (hr.mono (by omega)) (by rfl) g_law_draw k_law_draw b_law_draw .nil pass0 (pa_cons (pv 1) (pa_cons pe_int pa_nil))))
    (pss_cut (ps_if (pt_cmpR op_eq (pe_call G_law_draw (hr.mono (by omega)) (by rfl) g_law_draw k_law_draw b_law_draw .nil pass0 (pa_cons (pv 1) (pa_cons pe_int pa_nil))) pe_int (nomark _))
      (pss_one (ps_set (i := 2) sc_law.nd rfl (.inl rfl) pe_int))
      pss_nil)
    (pss_cons (ps_set (i := 3) sc_law.nd rfl (.inl rfl) (pe_call G_law_table (hr.mono (by omega)) (by rfl) g_law_table k_law_table b_law_table .nil pass0 (pa_cons (pv 1) (pa_cons (pv 2) pa_nil))))
    (pss_cons (ps_for PassesOwn.never rfl (pi_list (pe_lst (pa_cons pe_bl (pa_cons pe_bl pa_nil)))) (pg_name (i := 4) sc_law.nd rfl (.inl rfl))
      (pss_cons (ps_set (i := 5) sc_law.nd rfl (.inl rfl) (pe_call G_cubes (hr.mono (by omega)) (by rfl) g_cubes k_cubes b_cubes .nil pass0 (pa_cons (pv 3) (pa_cons (pv 4) pa_nil))))
      (pss_cons (ps_if (pt_not (pt_val (pe_call G_law_are_cubes (hr.mono (by omega)) (by rfl) g_law_are_cubes k_law_are_cubes b_law_are_cubes .nil pass0 (pa_cons (pv 3) (pa_cons (pv 5) (pa_cons (pv 4) (pa_cons (pv 2) pa_nil)))))))
        (pss_one (ps_ret pe_bl))
        pss_nil)
      (pss_one (ps_for PassesOwn.never rfl (pi_range1 rfl T.range (pa_cons (pe_ix ix_list (pe_lst (pa_cons pe_int (pa_cons pe_int (pa_cons pe_int (pa_cons pe_int (pa_cons pe_int (pa_cons pe_int pa_nil))))))) (pv 2) (fun _ _ => rfl)) pa_nil)) (pg_name (i := 6) sc_law.nd rfl (.inl rfl))
        (pss_cons (ps_set (i := 7) sc_law.nd rfl (.inr rfl) (pe_call G_law_partial (hr.mono (by omega)) (by rfl) g_law_partial k_law_partial b_law_partial .nil pass0 (pa_cons (pv 6) (pa_cons (pv 2) pa_nil))))
        (pss_cut (ps_if (pt_cmpR op_eq (pv 2) pe_int (nomark _))
          (pss_one (ps_set (i := 7) sc_law.nd rfl (.inr rfl) (pe_call G_law_partial (hr.mono (by omega)) (by rfl) g_law_partial k_law_partial b_law_partial .nil pass0 (pa_cons (pe_call G_law_draw (hr.mono (by omega)) (by rfl) g_law_draw k_law_draw b_law_draw .nil pass0 (pa_cons (pv 1) (pa_cons pe_int pa_nil))) (pa_cons pe_int pa_nil)))))
          pss_nil)
        (pss_one (ps_if (pt_cmpR op_ne (pe_call G_law_forces (hr.mono (by omega)) (by rfl) g_law_forces k_law_forces b_law_forces .nil pass0 (pa_cons (pv 3) (pa_cons (pv 7) (pa_cons (pv 4) pa_nil)))) (pe_cmpR (op_neD hr.units) (pe_lc (own := [("cube", 8)]) (g := gName 8) (tt := _) rfl sc_law.nd (pi_list (pv 5)) (blkOk_by (N := ["script", "pool", "many", "table", "value", "found", "number", "partial", "cube"]) (sc := defScope s_law) (own := [("cube", 8)]) (by decide +kernel)) (fun _ _ _ _ _ => (pg_name (i := 8) sc_law.nd rfl (.inl rfl))) (fun _ _ _ _ _ => pts_one (pt_val (pe_call G_law_inside (hr.mono (by omega)) (by rfl) g_law_inside k_law_inside b_law_inside .nil pass0 (pa_cons (pv 8) (pa_cons (pv 7) pa_nil))))) (fun _ _ _ _ _ => (pv 8))) (pe_lst pa_nil) (nomark _)) (nomark _))
          (pss_one (ps_ret pe_bl))
          pss_nil)))))))))
    (pss_one (ps_ret pe_bl))))))), ?_⟩
    refine ⟨_, rfl, sa, ns, rfl, hs, by omega, fun p a H0 hp _ _ => ⟨_, rfl, p, a, 5, rfl, by decide, by decide, hp, fun m0 H1 hm0 X1 _ => ?_⟩⟩
    refine ⟨fun σ H' => PoolOk p a H' ∧ ∃ m : Nat, m ≤ 5 ∧ σ = [some (.ref sa), some (.ref p), some (.int m), none, none, none, none, none, none], ?_, ?_⟩
    · refine ⟨_, rfl, p, a, 5, rfl, by decide, by decide, X1.pool, fun v H2 hv X2 _ => ⟨rfl, _, rfl, ite2 (fun e => ⟨X2.pool, 5, by decide, rfl⟩) (fun e => ⟨X2.pool, m0, by omega, rfl⟩)⟩⟩
    rintro σ H1 ⟨hp1, m, hm, rfl⟩
    refine ⟨_, rfl, _, rfl, p, a, m, rfl, by omega, hp1, fun t bs H3 hl Y3 nt0 ht0 => ?_⟩
    have ht3 := Y3.seen nt0 ht0
    refine ⟨(by show 2 ≤ sizeLine; decide), fun l nl => ⟨l, rfl, ⟨_, SqL.of upd_same⟩, for_list (K := K) (a := l) (xs := [.bl false, .bl true])
      (fun i σ H' => Px p a H3 H' ∧ hid p H' l = some (.lst [.bl false, .bl true]) ∧ ∃ (x4 x5 x6 x7 x8 : Option V), σ = [some (.ref sa), some (.ref p), some (.int m), some (.ref t), x4, x5, x6, x7, x8])
      ⟨(Px.refl Y3.pool).new nl, ((Px.refl Y3.pool).new nl).seen nl upd_same, _, _, _, _, _, rfl⟩ (fun i σ H' _ g => SqL.of (hid_get g.2.1)) ?_ ?_⟩⟩
    · rintro i x σ H4 hx ⟨X4, hl4, x4, x5, x6, x7, x8, rfl⟩
      obtain ⟨v, rfl⟩ : ∃ v, x = .bl v := by
        match i with
        | 0 => cases hx; exact ⟨_, rfl⟩
        | 1 => cases hx; exact ⟨_, rfl⟩
        | n + 2 => exact nomatch hx
      refine ⟨_, rfl, _, rfl, t, bs, v, m, rfl, X4.at_ ht3, hl, hm, fun L as H5 nL E5 hL hA => ?_⟩
      have Y5 := Px.ofEx X4.pool E5
      have X5 := X4.trans Y5
      have hL5 := Y5.seen nL hL
      have hA5 : All2 (TupAt (hid p H5)) as (cubesL bs v m) := hA.imp fun c r z => X5.pool.hidT z
      refine ⟨_, rfl, _, rfl, _, rfl, _, rfl, t, L, as, bs, v, m, rfl, X5.at_ ht3, hL, hA, hl, hm, fun H6 E6 => ⟨_, rfl, iteF ?_⟩⟩
      have Y6 := Px.ofEx X5.pool E6
      obtain ⟨hcn, hcl⟩ := cnt_at hm
      refine ⟨(by show 6 ≤ sizeLine; decide), fun l2 nl2 => ⟨_, rfl, _, _, _, _, rfl, rfl, SqL.of upd_same, atI_nat hcn, _, rfl, by omega, by omega, for_range (n := ((cnt m : Nat) : Int).toNat)
        (fun i σ H' => Px p a H5 H' ∧ ∃ (x6 x7 x8 : Option V), σ = [some (.ref sa), some (.ref p), some (.int m), some (.ref t), some (.bl v), some (.ref L), x6, x7, x8]) ⟨Y6.new nl2, _, _, _, rfl⟩ ?_ ?_⟩⟩
      · rintro k σ H7 hk ⟨X7, x6, x7, x8, rfl⟩
        refine ⟨_, rfl, _, rfl, _, m, rfl, hm, fun pt ps H8 npt E8 hpt hpl htn => ?_⟩
        have X8 := X7.more E8
        refine ⟨fun σ H' => Px p a H5 H' ∧ ∃ (pt : Addr) (ps : List Int) (x8 : Option V), TupAt (hid p H') pt ps ∧ ps.length = m ∧ tern ps ∧ σ = [some (.ref sa), some (.ref p), some (.int m), some (.ref t), some (.bl v), some (.ref L), some (.int (0 + (k : Int))), some (.ref pt), x8], ?_, ?_⟩
        · refine ⟨_, rfl, rfl, _, rfl, ite2 (fun e => ?_) (fun e => ⟨X8, pt, ps, _, X8.pool.hidT hpt, hpl, htn, rfl⟩)⟩
          have e5 : m = 5 := by have := V.int.inj (of_decide_eq_true e); omega
          refine ⟨_, rfl, p, a, 243, rfl, by decide, by decide, X8.pool, fun u H9 hu9 Y9 _ => ⟨_, 5, rfl, by decide, fun pt2 ps2 H10 npt2 E10 hpt2 hpl2 htn2 => ?_⟩⟩
          have X10 := (X8.trans Y9).more E10
          exact ⟨X10, pt2, ps2, _, X10.pool.hidT hpt2, by omega, htn2, rfl⟩
        · rintro σ H9 ⟨X9, pt, ps, y8, hpt, hpl, htn, rfl⟩
          have hbl : bs.length = 2 ^ ps.length := by rw [hpl]; exact hl
          have ht9 := (X5.trans X9).at_ ht3
          have hL9 := X9.at_ hL5
          have hA9 : All2 (TupAt H9) as (cubesL bs v m) := hA5.imp fun c r z => X9.at_ z
          have hpt9 : TupAt H9 pt ps := hid_get hpt
          refine ⟨_, rfl, _, rfl, _, rfl, t, pt, bs, ps, v, rfl, ht9, hpt9, hbl, by omega, htn, fun H10 E10 => ?_⟩
          refine ⟨_, rfl, L, rfl, ⟨_, SqL.of (E10 _ _ hL9)⟩, fun M nM => wk_list (K := K) (a := L) (xs := as.map V.ref)
            (fun j H' => Ex H10 H' ∧ ∃ gs : List Addr, H' M = some (.lst (gs.map V.ref)) ∧ All2 (TupAt (hid M H')) gs (((cubesL bs v m).take j).filter fun c => insd c ps))
            ⟨Ex.new nM, [], upd_same, .nil⟩ (fun j H' _ g => SqL.of (g.1 _ _ (E10 _ _ hL9))) ?_ ?_⟩
          · rintro j x H11 hx ⟨E11, gs, hM, hG⟩
            obtain ⟨c, hc, rfl⟩ := refs_get hx
            obtain ⟨r, hr2, hcr⟩ := hA9.at_ hc
            have hrl := (mem_cubes.mp (List.mem_of_getElem? hr2)).1.1
            have hcr11 : TupAt H11 c r := E11 _ _ (E10 _ _ hcr)
            refine ⟨rfl, _, rfl, _, rfl, c, pt, r, ps, rfl, hcr11, E11 _ _ (E10 _ _ hpt9), by omega, by omega, fun H12 E12 => ⟨_, rfl, ?_⟩⟩
            have hM12 := E12 _ _ hM
            have hG12 : All2 (TupAt (hid M H12)) gs (((cubesL bs v m).take j).filter fun c => insd c ps) := hG.imp fun c z hc => by
              show hid M H12 c = _
              rw [hid_ne (hid_neq hc)]; exact E12 _ _ (hid_get hc)
            have hat := filt_take (f := fun c => insd c ps) hr2
            cases hi : insd r ps with
            | false =>
              rw [hi, if_neg Bool.false_ne_true] at hat
              exact iteF ⟨E11.trans E12, gs, hM12, by rw [hat]; exact hG12⟩
            | true =>
              rw [hi, if_pos rfl] at hat
              obtain ⟨ks, hM', hK⟩ := grow (H0 := H10) hM12 hG12 (E12 _ _ hcr11)
              refine iteT ⟨_, rfl, _, hM12, sz_lt ?_, (E11.trans E12).mut nM, ks, hM', by rw [hat]; exact hK⟩
              rw [List.length_map, hG12.1]
              have := filt_le (cubesL bs v m) (fun c => insd c ps) j (n := 243) (Nat.le_trans (cubes_le _ _ _) (pow3_le hm))
              omega
          · rintro H11 ⟨E11, gs, hM, hG⟩
            rw [List.length_map, hA9.1, List.take_length] at hG
            refine ⟨Nat.zero_le _, fun L2 nL2 => ?_⟩
            have hM2 : upd H11 L2 (.lst []) M = some (.lst (gs.map V.ref)) := (upd_ne (ne_of_none hM nL2)).trans hM
            have hG2 : All2 (TupAt (upd H11 L2 (.lst []))) gs ((cubesL bs v m).filter fun c => insd c ps) := hG.imp fun c z hc => Ex.new nL2 _ _ (hid_get hc)
            refine ⟨_, _, .lst (SqL.of hM2) (dp_tups hG2), dp_nil (SqL.of upd_same), shaped_tups _, shaped_nil, rfl, _, rfl, ?_⟩
            rw [eqv_nil, List.isEmpty_map, cube_due hl hpl htn, decide_eq_true rfl]
            exact iteF ⟨((X9.more E10).more E11).new nL2, _, _, _, rfl⟩
      · rintro σ H7 ⟨X7, x6, x7, x8, rfl⟩
        exact ⟨X5.trans X7, X7.get (Y5.get hl4), _, _, _, _, _, rfl⟩
    · rintro σ H4 ⟨X4, _, x4, x5, x6, x7, x8, rfl⟩
      exact q H4
end
end G
namespace G
open PySem PySem.Spec PyProof.Rows L2
/-- the defs and the built-in names as the top has left them -/
structure All (K : PySem.W.Frag) (mg : Str → Option Value) : Prop where
  d_inputs_of : Dfd K mg "inputs_of" s_inputs_of ["table"]
  d_cubes : Dfd K mg "cubes" s_cubes ["table", "value"]
  d_without_input : Dfd K mg "_without_input" s_without_input ["rows", "known"]
  d_all_forced : Dfd K mg "_all_forced" s_all_forced ["table"]
  d_wider : Dfd K mg "_wider" s_wider ["partial"]
  d_law_pool : Dfd K mg "_law_pool" s_law_pool ["script"]
  d_law_spread : Dfd K mg "_law_spread" s_law_spread ["cell"]
  d_law_draw : Dfd K mg "_law_draw" s_law_draw ["pool", "many"]
  d_law_same : Dfd K mg "_law_same" s_law_same ["actual", "due"]
  d_law_bits : Dfd K mg "_law_bits" s_law_bits ["index", "many"]
  d_law_table : Dfd K mg "_law_table" s_law_table ["pool", "many"]
  d_law_forces : Dfd K mg "_law_forces" s_law_forces ["table", "partial", "value"]
  d_law_partial : Dfd K mg "_law_partial" s_law_partial ["number", "many"]
  d_law_inside : Dfd K mg "_law_inside" s_law_inside ["cube", "partial"]
  d_law_are_cubes : Dfd K mg "_law_are_cubes" s_law_are_cubes ["table", "found", "value", "many"]
  z_len : mg "len" = none
  z_any : mg "any" = none
  z_tuple : mg "tuple" = none
  z_zip : mg "zip" = none
  z_range : mg "range" = none
  z_enumerate : mg "enumerate" = none
  z_int : mg "int" = none
  z_list : mg "list" = none
  z_isinstance : mg "isinstance" = none
  z_bool : mg "bool" = none
  z_str : mg "str" = none
end G
namespace G
open PySem PySem.Spec PyProof.Rows L2
theorem glue {P : Program} {w : World} {K : PySem.W.Frag} {mg : Str → Option Value} {base : Heap} (A : All K mg) {f : Addr} {fd : FuncData} (F : Fun K "law" "law" s_law f fd) : FnOk P w K mg base CX0 4 f fd ["script"] (spLaw K) := by
  have TL : TxtL mg := ⟨A.z_int, A.z_len, A.z_list, A.z_range⟩
  have TS : TxtS mg := ⟨A.z_isinstance, A.z_tuple, A.z_list, A.z_len, A.z_range, A.z_bool, A.z_int, A.z_str⟩
  have TF : TxtF mg := ⟨A.z_tuple, A.z_zip⟩
  have TC : TxtC mg := ⟨A.z_range, A.z_any, A.z_enumerate⟩
  have hd := drawX (P := P) (w := w) (base := base) (ok_law_draw A.d_law_draw TL (ok_law_spread A.d_law_spread TL))
  have hb := ok_law_bits (P := P) (w := w) (base := base) A.d_law_bits TS
  have hf := ok_law_forces (P := P) (w := w) (base := base) A.d_law_forces TS hb
  exact fn_law F TS (ok_law_pool A.d_law_pool TL) hd (ok_law_table A.d_law_table TS hd hb)
    (ok_cubes A.d_cubes TC (ok_all_forced A.d_all_forced TC (ok_inputs_of A.d_inputs_of ⟨A.z_len⟩) (ok_without_input A.d_without_input TF)) (ok_wider A.d_wider TC))
    (ok_law_are_cubes A.d_law_are_cubes TS (ok_law_same A.d_law_same TS 2) hf) (ok_law_partial A.d_law_partial TS) hf (ok_law_inside A.d_law_inside TS)
end G
namespace G
open PySem PySem.Spec PyProof.Rows L2
theorem all_mk {l : PySem.W.OpenLaw} {w : World} {K : PySem.W.Frag} {h : Heap} {mg : Str → Option Value} {fa f0 f1 f2 f3 f4 f5 f6 f7 f8 f9 f10 f11 f12 f13 f14 f15 : Addr} (X : K.In h) (G : h.Ns mainGlobals mg) (hfa : mg "law" = some (.ref fa))
    {od0 an0 od1 an1 od2 an2 od3 an3 od4 an4 od5 an5 od6 an6 od7 an7 od8 an8 od9 an9 od10 an10 od11 an11 od12 an12 od13 an13 od14 an14 od15 an15 : Option Addr} {sl0 sl1 sl2 sl3 sl4 sl5 sl6 sl7 sl8 sl9 sl10 sl11 sl12 sl13 sl14 sl15 : Array (Option Value)} {oc0 kv0 dc0 pm0 cd0 ct0 oc1 kv1 dc1 pm1 cd1 ct1 oc2 kv2 dc2 pm2 cd2 ct2 oc3 kv3 dc3 pm3 cd3 ct3 oc4 kv4 dc4 pm4 cd4 ct4 oc5 kv5 dc5 pm5 cd5 ct5 oc6 kv6 dc6 pm6 cd6 ct6 oc7 kv7 dc7 pm7 cd7 ct7 oc8 kv8 dc8 pm8 cd8 ct8 oc9 kv9 dc9 pm9 cd9 ct9 oc10 kv10 dc10 pm10 cd10 ct10 oc11 kv11 dc11 pm11 cd11 ct11 oc12 kv12 dc12 pm12 cd12 ct12 oc13 kv13 dc13 pm13 cd13 ct13 oc14 kv14 dc14 pm14 cd14 ct14 oc15 kv15 dc15 pm15 cd15 ct15 : Value}
    (a0 : PySem.W.nsIn K mainGlobals "inputs_of" = some (some (.ref f0))) (l0 : K.lookup f0 = some ⟨oc0, od0, .func (PySem.W.fnOf "inputs_of" "inputs_of" (defArgs s_inputs_of) (defBody s_inputs_of) (defScope s_inputs_of) .none kv0 dc0 pm0 an0 cd0 ct0), sl0⟩) (c0 : PySem.W.codeIn K cd0 "inputs_of" = true) (k0 : PySem.W.keepIn K (.ref f0) = true)
    (a1 : PySem.W.nsIn K mainGlobals "cubes" = some (some (.ref f1))) (l1 : K.lookup f1 = some ⟨oc1, od1, .func (PySem.W.fnOf "cubes" "cubes" (defArgs s_cubes) (defBody s_cubes) (defScope s_cubes) .none kv1 dc1 pm1 an1 cd1 ct1), sl1⟩) (c1 : PySem.W.codeIn K cd1 "cubes" = true) (k1 : PySem.W.keepIn K (.ref f1) = true)
    (a2 : PySem.W.nsIn K mainGlobals "_without_input" = some (some (.ref f2))) (l2 : K.lookup f2 = some ⟨oc2, od2, .func (PySem.W.fnOf "_without_input" "_without_input" (defArgs s_without_input) (defBody s_without_input) (defScope s_without_input) .none kv2 dc2 pm2 an2 cd2 ct2), sl2⟩) (c2 : PySem.W.codeIn K cd2 "_without_input" = true) (k2 : PySem.W.keepIn K (.ref f2) = true)
    (a3 : PySem.W.nsIn K mainGlobals "_all_forced" = some (some (.ref f3))) (l3 : K.lookup f3 = some ⟨oc3, od3, .func (PySem.W.fnOf "_all_forced" "_all_forced" (defArgs s_all_forced) (defBody s_all_forced) (defScope s_all_forced) .none kv3 dc3 pm3 an3 cd3 ct3), sl3⟩) (c3 : PySem.W.codeIn K cd3 "_all_forced" = true) (k3 : PySem.W.keepIn K (.ref f3) = true)
    (a4 : PySem.W.nsIn K mainGlobals "_wider" = some (some (.ref f4))) (l4 : K.lookup f4 = some ⟨oc4, od4, .func (PySem.W.fnOf "_wider" "_wider" (defArgs s_wider) (defBody s_wider) (defScope s_wider) .none kv4 dc4 pm4 an4 cd4 ct4), sl4⟩) (c4 : PySem.W.codeIn K cd4 "_wider" = true) (k4 : PySem.W.keepIn K (.ref f4) = true)
    (a5 : PySem.W.nsIn K mainGlobals "_law_pool" = some (some (.ref f5))) (l5 : K.lookup f5 = some ⟨oc5, od5, .func (PySem.W.fnOf "_law_pool" "_law_pool" (defArgs s_law_pool) (defBody s_law_pool) (defScope s_law_pool) .none kv5 dc5 pm5 an5 cd5 ct5), sl5⟩) (c5 : PySem.W.codeIn K cd5 "_law_pool" = true) (k5 : PySem.W.keepIn K (.ref f5) = true)
    (a6 : PySem.W.nsIn K mainGlobals "_law_spread" = some (some (.ref f6))) (l6 : K.lookup f6 = some ⟨oc6, od6, .func (PySem.W.fnOf "_law_spread" "_law_spread" (defArgs s_law_spread) (defBody s_law_spread) (defScope s_law_spread) .none kv6 dc6 pm6 an6 cd6 ct6), sl6⟩) (c6 : PySem.W.codeIn K cd6 "_law_spread" = true) (k6 : PySem.W.keepIn K (.ref f6) = true)
    (a7 : PySem.W.nsIn K mainGlobals "_law_draw" = some (some (.ref f7))) (l7 : K.lookup f7 = some ⟨oc7, od7, .func (PySem.W.fnOf "_law_draw" "_law_draw" (defArgs s_law_draw) (defBody s_law_draw) (defScope s_law_draw) .none kv7 dc7 pm7 an7 cd7 ct7), sl7⟩) (c7 : PySem.W.codeIn K cd7 "_law_draw" = true) (k7 : PySem.W.keepIn K (.ref f7) = true)
    (a8 : PySem.W.nsIn K mainGlobals "_law_same" = some (some (.ref f8))) (l8 : K.lookup f8 = some ⟨oc8, od8, .func (PySem.W.fnOf "_law_same" "_law_same" (defArgs s_law_same) (defBody s_law_same) (defScope s_law_same) .none kv8 dc8 pm8 an8 cd8 ct8), sl8⟩) (c8 : PySem.W.codeIn K cd8 "_law_same" = true) (k8 : PySem.W.keepIn K (.ref f8) = true)
    (a9 : PySem.W.nsIn K mainGlobals "_law_bits" = some (some (.ref f9))) (l9 : K.lookup f9 = some ⟨oc9, od9, .func (PySem.W.fnOf "_law_bits" "_law_bits" (defArgs s_law_bits) (defBody s_law_bits) (defScope s_law_bits) .none kv9 dc9 pm9 an9 cd9 ct9), sl9⟩) (c9 : PySem.W.codeIn K cd9 "_law_bits" = true) (k9 : PySem.W.keepIn K (.ref f9) = true)
    (a10 : PySem.W.nsIn K mainGlobals "_law_table" = some (some (.ref f10))) (l10 : K.lookup f10 = some ⟨oc10, od10, .func (PySem.W.fnOf "_law_table" "_law_table" (defArgs s_law_table) (defBody s_law_table) (defScope s_law_table) .none kv10 dc10 pm10 an10 cd10 ct10), sl10⟩) (c10 : PySem.W.codeIn K cd10 "_law_table" = true) (k10 : PySem.W.keepIn K (.ref f10) = true)
    (a11 : PySem.W.nsIn K mainGlobals "_law_forces" = some (some (.ref f11))) (l11 : K.lookup f11 = some ⟨oc11, od11, .func (PySem.W.fnOf "_law_forces" "_law_forces" (defArgs s_law_forces) (defBody s_law_forces) (defScope s_law_forces) .none kv11 dc11 pm11 an11 cd11 ct11), sl11⟩) (c11 : PySem.W.codeIn K cd11 "_law_forces" = true) (k11 : PySem.W.keepIn K (.ref f11) = true)
    (a12 : PySem.W.nsIn K mainGlobals "_law_partial" = some (some (.ref f12))) (l12 : K.lookup f12 = some ⟨oc12, od12, .func (PySem.W.fnOf "_law_partial" "_law_partial" (defArgs s_law_partial) (defBody s_law_partial) (defScope s_law_partial) .none kv12 dc12 pm12 an12 cd12 ct12), sl12⟩) (c12 : PySem.W.codeIn K cd12 "_law_partial" = true) (k12 : PySem.W.keepIn K (.ref f12) = true)
    (a13 : PySem.W.nsIn K mainGlobals "_law_inside" = some (some (.ref f13))) (l13 : K.lookup f13 = some ⟨oc13, od13, .func (PySem.W.fnOf "_law_inside" "_law_inside" (defArgs s_law_inside) (defBody s_law_inside) (defScope s_law_inside) .none kv13 dc13 pm13 an13 cd13 ct13), sl13⟩) (c13 : PySem.W.codeIn K cd13 "_law_inside" = true) (k13 : PySem.W.keepIn K (.ref f13) = true)
    (a14 : PySem.W.nsIn K mainGlobals "_law_are_cubes" = some (some (.ref f14))) (l14 : K.lookup f14 = some ⟨oc14, od14, .func (PySem.W.fnOf "_law_are_cubes" "_law_are_cubes" (defArgs s_law_are_cubes) (defBody s_law_are_cubes) (defScope s_law_are_cubes) .none kv14 dc14 pm14 an14 cd14 ct14), sl14⟩) (c14 : PySem.W.codeIn K cd14 "_law_are_cubes" = true) (k14 : PySem.W.keepIn K (.ref f14) = true)
    (a15 : PySem.W.nsIn K mainGlobals "law" = some (some (.ref f15))) (l15 : K.lookup f15 = some ⟨oc15, od15, .func (PySem.W.fnOf "law" "law" (defArgs s_law) (defBody s_law) (defScope s_law) .none kv15 dc15 pm15 an15 cd15 ct15), sl15⟩) (c15 : PySem.W.codeIn K cd15 "law" = true) (k15 : PySem.W.keepIn K (.ref f15) = true)
    (z0 : PySem.W.nsIn K mainGlobals "len" = some none) (z1 : PySem.W.nsIn K mainGlobals "any" = some none) (z2 : PySem.W.nsIn K mainGlobals "tuple" = some none) (z3 : PySem.W.nsIn K mainGlobals "zip" = some none) (z4 : PySem.W.nsIn K mainGlobals "range" = some none) (z5 : PySem.W.nsIn K mainGlobals "enumerate" = some none) (z6 : PySem.W.nsIn K mainGlobals "int" = some none) (z7 : PySem.W.nsIn K mainGlobals "list" = some none) (z8 : PySem.W.nsIn K mainGlobals "isinstance" = some none) (z9 : PySem.W.nsIn K mainGlobals "bool" = some none) (z10 : PySem.W.nsIn K mainGlobals "str" = some none) :
    ∃ fd : FuncData, (∀ (s : Shared) (v : Value), BindsTo s fd ⟨[v], []⟩ [("script", v)]) ∧ ∀ base : Heap, K.In base → base.Ns mainGlobals mg → FnOk l.prog w K mg base CX0 4 fa fd ["script"] (spLaw K) := by
  have e := hfa.symm.trans (PySem.W.mg_of X G a15)
  cases e
  have F0 := fun_mk (st := s_inputs_of) l0 c0 k0
  have F1 := fun_mk (st := s_cubes) l1 c1 k1
  have F2 := fun_mk (st := s_without_input) l2 c2 k2
  have F3 := fun_mk (st := s_all_forced) l3 c3 k3
  have F4 := fun_mk (st := s_wider) l4 c4 k4
  have F5 := fun_mk (st := s_law_pool) l5 c5 k5
  have F6 := fun_mk (st := s_law_spread) l6 c6 k6
  have F7 := fun_mk (st := s_law_draw) l7 c7 k7
  have F8 := fun_mk (st := s_law_same) l8 c8 k8
  have F9 := fun_mk (st := s_law_bits) l9 c9 k9
  have F10 := fun_mk (st := s_law_table) l10 c10 k10
  have F11 := fun_mk (st := s_law_forces) l11 c11 k11
  have F12 := fun_mk (st := s_law_partial) l12 c12 k12
  have F13 := fun_mk (st := s_law_inside) l13 c13 k13
  have F14 := fun_mk (st := s_law_are_cubes) l14 c14 k14
  have F15 := fun_mk (st := s_law) l15 c15 k15
  have A : All K mg := ⟨⟨f0, _, F0, PySem.W.mg_of X G a0, F0.binds (ps := ["table"]) fun _ _ _ _ _ _ us hl => match us, hl with | [_], _ => rfl⟩,
    ⟨f1, _, F1, PySem.W.mg_of X G a1, F1.binds (ps := ["table", "value"]) fun _ _ _ _ _ _ us hl => match us, hl with | [_, _], _ => rfl⟩,
    ⟨f2, _, F2, PySem.W.mg_of X G a2, F2.binds (ps := ["rows", "known"]) fun _ _ _ _ _ _ us hl => match us, hl with | [_, _], _ => rfl⟩,
    ⟨f3, _, F3, PySem.W.mg_of X G a3, F3.binds (ps := ["table"]) fun _ _ _ _ _ _ us hl => match us, hl with | [_], _ => rfl⟩,
    ⟨f4, _, F4, PySem.W.mg_of X G a4, F4.binds (ps := ["partial"]) fun _ _ _ _ _ _ us hl => match us, hl with | [_], _ => rfl⟩,
    ⟨f5, _, F5, PySem.W.mg_of X G a5, F5.binds (ps := ["script"]) fun _ _ _ _ _ _ us hl => match us, hl with | [_], _ => rfl⟩,
    ⟨f6, _, F6, PySem.W.mg_of X G a6, F6.binds (ps := ["cell"]) fun _ _ _ _ _ _ us hl => match us, hl with | [_], _ => rfl⟩,
    ⟨f7, _, F7, PySem.W.mg_of X G a7, F7.binds (ps := ["pool", "many"]) fun _ _ _ _ _ _ us hl => match us, hl with | [_, _], _ => rfl⟩,
    ⟨f8, _, F8, PySem.W.mg_of X G a8, F8.binds (ps := ["actual", "due"]) fun _ _ _ _ _ _ us hl => match us, hl with | [_, _], _ => rfl⟩,
    ⟨f9, _, F9, PySem.W.mg_of X G a9, F9.binds (ps := ["index", "many"]) fun _ _ _ _ _ _ us hl => match us, hl with | [_, _], _ => rfl⟩,
    ⟨f10, _, F10, PySem.W.mg_of X G a10, F10.binds (ps := ["pool", "many"]) fun _ _ _ _ _ _ us hl => match us, hl with | [_, _], _ => rfl⟩,
    ⟨f11, _, F11, PySem.W.mg_of X G a11, F11.binds (ps := ["table", "partial", "value"]) fun _ _ _ _ _ _ us hl => match us, hl with | [_, _, _], _ => rfl⟩,
    ⟨f12, _, F12, PySem.W.mg_of X G a12, F12.binds (ps := ["number", "many"]) fun _ _ _ _ _ _ us hl => match us, hl with | [_, _], _ => rfl⟩,
    ⟨f13, _, F13, PySem.W.mg_of X G a13, F13.binds (ps := ["cube", "partial"]) fun _ _ _ _ _ _ us hl => match us, hl with | [_, _], _ => rfl⟩,
    ⟨f14, _, F14, PySem.W.mg_of X G a14, F14.binds (ps := ["table", "found", "value", "many"]) fun _ _ _ _ _ _ us hl => match us, hl with | [_, _, _, _], _ => rfl⟩,
    PySem.W.mg_none_of X G z0,
    PySem.W.mg_none_of X G z1,
    PySem.W.mg_none_of X G z2,
    PySem.W.mg_none_of X G z3,
    PySem.W.mg_none_of X G z4,
    PySem.W.mg_none_of X G z5,
    PySem.W.mg_none_of X G z6,
    PySem.W.mg_none_of X G z7,
    PySem.W.mg_none_of X G z8,
    PySem.W.mg_none_of X G z9,
    PySem.W.mg_none_of X G z10⟩
  exact ⟨_, fun s v => .of_eq rfl, fun base _ _ => glue A F15⟩
end G
open PySem PySem.W PyProof.Rows
set_option maxRecDepth 100000 in
set_option maxHeartbeats 0 in
theorem PySem.Challenge.cw_signoff_k13_whole_cubes_force_holds : PySem.Challenge.rw_signoff_k13_whole_cubes_force.Holds := by
  w_on; o_law; k_head; (case hw => w_witness2)
  k_fill
  refine L2.walk_of (l := PySem.Challenge.rw_signoff_k13_whole_cubes_force) (n := 63) (k := 4) (x := "script") (CX := fun _ => L2.CX0) (sp := fun w => G.spLaw _) rfl (by decide) rfl ⟨rfl, by decide, by decide⟩ (fun w h Y => PySem.W.kIn_of Y) ?F (fun _ _ a ns hl _ hS => ⟨a, ns, rfl, hS, hl, fun _ => rfl⟩) (fun _ _ _ _ _ h => h)
  case F =>
    intro w mg fa h KX GN hmg
    refine' G.all_mk KX GN hmg ?a0 ?l0 ?c0 ?k0 ?a1 ?l1 ?c1 ?k1 ?a2 ?l2 ?c2 ?k2 ?a3 ?l3 ?c3 ?k3 ?a4 ?l4 ?c4 ?k4 ?a5 ?l5 ?c5 ?k5 ?a6 ?l6 ?c6 ?k6 ?a7 ?l7 ?c7 ?k7 ?a8 ?l8 ?c8 ?k8 ?a9 ?l9 ?c9 ?k9 ?a10 ?l10 ?c10 ?k10 ?a11 ?l11 ?c11 ?k11 ?a12 ?l12 ?c12 ?k12 ?a13 ?l13 ?c13 ?k13 ?a14 ?l14 ?c14 ?k14 ?a15 ?l15 ?c15 ?k15 ?z0 ?z1 ?z2 ?z3 ?z4 ?z5 ?z6 ?z7 ?z8 ?z9 ?z10
    (case a0 => k_is)
    (case l0 => k_is)
    (case c0 => k_is)
    (case k0 => k_is)
    (case a1 => k_is)
    (case l1 => k_is)
    (case c1 => k_is)
    (case k1 => k_is)
    (case a2 => k_is)
    (case l2 => k_is)
    (case c2 => k_is)
    (case k2 => k_is)
    (case a3 => k_is)
    (case l3 => k_is)
    (case c3 => k_is)
    (case k3 => k_is)
    (case a4 => k_is)
    (case l4 => k_is)
    (case c4 => k_is)
    (case k4 => k_is)
    (case a5 => k_is)
    (case l5 => k_is)
    (case c5 => k_is)
    (case k5 => k_is)
    (case a6 => k_is)
    (case l6 => k_is)
    (case c6 => k_is)
    (case k6 => k_is)
    (case a7 => k_is)
    (case l7 => k_is)
    (case c7 => k_is)
    (case k7 => k_is)
    (case a8 => k_is)
    (case l8 => k_is)
    (case c8 => k_is)
    (case k8 => k_is)
    (case a9 => k_is)
    (case l9 => k_is)
    (case c9 => k_is)
    (case k9 => k_is)
    (case a10 => k_is)
    (case l10 => k_is)
    (case c10 => k_is)
    (case k10 => k_is)
    (case a11 => k_is)
    (case l11 => k_is)
    (case c11 => k_is)
    (case k11 => k_is)
    (case a12 => k_is)
    (case l12 => k_is)
    (case c12 => k_is)
    (case k12 => k_is)
    (case a13 => k_is)
    (case l13 => k_is)
    (case c13 => k_is)
    (case k13 => k_is)
    (case a14 => k_is)
    (case l14 => k_is)
    (case c14 => k_is)
    (case k14 => k_is)
    (case a15 => k_is)
    (case l15 => k_is)
    (case c15 => k_is)
    (case k15 => k_is)
    (case z0 => k_is)
    (case z1 => k_is)
    (case z2 => k_is)
    (case z3 => k_is)
    (case z4 => k_is)
    (case z5 => k_is)
    (case z6 => k_is)
    (case z7 => k_is)
    (case z8 => k_is)
    (case z9 => k_is)
    (case z10 => k_is)
#print axioms PySem.Challenge.cw_signoff_k13_whole_cubes_force_holds
