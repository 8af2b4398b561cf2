import PyProof.Rows.All
import Wide.All
import OpenK.AllK
import Wide.FinOn
import HandS.ForMost
import HandS.Evl
import HandS.Wide
import HandS.WideBits
import HandS.Flow
import HandS.IsInst
import HandS.TupAny
import HandS.Walk
import HandS.Zip
import HandS.Steps
import KE.GoesMore
import KE.GoesEnum
import KE.KEqSeq
import PySem.Challenge.RW_signoff_k12_what_is_forced
set_option Elab.async false
set_option linter.all false
set_option maxRecDepth 100000
set_option maxHeartbeats 4000000
set_option Elab.async false
set_option linter.all false
set_option maxRecDepth 100000
set_option maxHeartbeats 4000000
namespace G
open PySem PySem.Spec PyProof.Rows L2 Evl
/-! ## defs by name -/
def Dfd (K : PySem.W.Frag) (mg : Str → Option Value) (x : Str) (st : Stmt) (ps : List Str) : Prop := ∃ (f : Addr) (fd : FuncData), Fun K x x st f fd ∧ mg x = some (.ref f) ∧ Binds K fd ps []
def Has (P : Program) (w : World) (K : PySem.W.Frag) (mg : Str → Option Value) (base : Heap) (k : Nat) (x : Str) (ps : List Str) (sp : Sp) : Prop :=
  ∃ (f : Addr) (fd : FuncData), FnOk P w K mg base CX0 k f fd ps sp ∧ mg x = some (.ref f) ∧ PySem.W.keepIn K (.ref f) = true ∧ Binds K fd ps []
section
variable {P : Program} {w : World} {K : PySem.W.Frag} {mg : Str → Option Value} {base : Heap}
theorem Dfd.has {x : Str} {st : Stmt} {ps : List Str} {k : Nat} {sp : Sp} (d : Dfd K mg x st ps) (h : ∀ f fd, Fun K x x st f fd → FnOk P w K mg base CX0 k f fd ps sp) : Has P w K mg base k x ps sp := by
  obtain ⟨f, fd, F, g, b⟩ := d
  exact ⟨f, fd, h f fd F, g, F.kp, b⟩
theorem Has.mono {x : Str} {ps : List Str} {j k : Nat} {sp : Sp} (h : Has P w K mg base j x ps sp) (l : j ≤ k) : Has P w K mg base k x ps sp := by
  obtain ⟨f, fd, F, g⟩ := h
  exact ⟨f, fd, F.mono l, g⟩
theorem Has.imp {x : Str} {ps : List Str} {k : Nat} {sp sp' : Sp} (h : Has P w K mg base k x ps sp) (i : ∀ vs H Q E, sp' vs H Q E → sp vs H Q E) : Has P w K mg base k x ps sp' := by
  obtain ⟨f, fd, F, g⟩ := h
  exact ⟨f, fd, F.imp i, g⟩
end
/-! ## heaps -/
theorem sq_ex {K : PySem.W.Frag} {H H' : Hp} {a : Addr} {xs : List V} (e : Ex H H') (h : SqL K H a xs) : SqL K H' a xs := ex_l e h
/-- the heap without what stands at p -/
def hid (p : Addr) (H : Hp) : Hp := fun b => if b = p then none else H b
theorem hid_self {p : Addr} {H : Hp} : hid p H p = none := by unfold hid; rw [if_pos rfl]
theorem hid_ne {p b : Addr} {H : Hp} (h : b ≠ p) : hid p H b = H b := by unfold hid; rw [if_neg h]
theorem hid_get {p b : Addr} {H : Hp} {o : HO} (h : hid p H b = some o) : H b = some o := by
  by_cases e : b = p
  · subst e; rw [hid_self] at h; cases h
  · rw [hid_ne e] at h; exact h
theorem hid_neq {p b : Addr} {H : Hp} {o : HO} (h : hid p H b = some o) : b ≠ p := by
  intro e; subst e; rw [hid_self] at h; cases h
theorem hid_ex {p : Addr} {H : Hp} : Ex (hid p H) H := fun _ _ h => hid_get h
theorem hid_upd {p : Addr} {H : Hp} {o : HO} : hid p (upd H p o) = hid p H := by
  funext b
  by_cases e : b = p
  · subst e; rw [hid_self, hid_self]
  · rw [hid_ne e, hid_ne e, upd_ne e]
theorem hid_upd_ne {p q : Addr} {H : Hp} {o : HO} (h : q ≠ p) : hid p (upd H q o) = upd (hid p H) q o := by
  funext b
  by_cases e2 : b = q
  · subst e2; rw [hid_ne h, upd_same, upd_same]
  · rw [upd_ne e2]
    by_cases e : b = p
    · subst e; rw [hid_self, hid_self]
    · rw [hid_ne e, hid_ne e, upd_ne e2]
theorem hid_none {p b : Addr} {H : Hp} (h : H b = none) : hid p H b = none := by
  unfold hid; split
  · rfl
  · exact h
/-! ## the pool of draws: the list at p, the script's copy at a -/
def PoolOk (p a : Addr) (H : Hp) : Prop := ∃ (ns : List Int) (i : Nat) (c k s : Int), H p = some (.lst [.ref a, .int i, .int c, .int k, .int s]) ∧ hid p H a = some (.lst (ns.map V.int)) ∧ ns.length ≤ 1000
/-- from H to H' all but the pool is kept, and the pool is a pool -/
structure Px (p a : Addr) (H H' : Hp) : Prop where
  was : PoolOk p a H
  pool : PoolOk p a H'
  ex : Ex (hid p H) (hid p H')
section
variable {p a : Addr} {H H1 H2 H' : Hp}
theorem Px.refl (h : PoolOk p a H) : Px p a H H := ⟨h, h, Ex.refl _⟩
theorem Px.trans (x : Px p a H H1) (y : Px p a H1 H2) : Px p a H H2 := ⟨x.was, y.pool, x.ex.trans y.ex⟩
theorem PoolOk.ne {b : Addr} (h : PoolOk p a H) (n : H b = none) : b ≠ p := by
  obtain ⟨_, _, _, _, _, e, _⟩ := h
  exact (ne_of_none e n).symm
theorem PoolOk.ne2 {b : Addr} (h : PoolOk p a H) (n : H b = none) : a ≠ b := by
  obtain ⟨_, _, _, _, _, _, e, _⟩ := h
  exact ne_of_none (hid_get e) n
theorem PoolOk.kept (h : PoolOk p a H) (e : Ex H H') : PoolOk p a H' := by
  obtain ⟨ns, i, c, k, s, h1, h2, h3⟩ := h
  exact ⟨ns, i, c, k, s, e _ _ h1, by rw [hid_ne (hid_neq h2)]; exact e _ _ (hid_get h2), h3⟩
theorem Px.ofEx (h : PoolOk p a H) (e : Ex H H') : Px p a H H' := ⟨h, h.kept e, fun b o hb => by rw [hid_ne (hid_neq hb)]; exact e _ _ (hid_get hb)⟩
theorem Px.more (x : Px p a H H1) (e : Ex H1 H2) : Px p a H H2 := x.trans (Px.ofEx x.pool e)
theorem Px.draw {o : HO} (w : PoolOk p a H) (h : PoolOk p a (upd H p o)) : Px p a H (upd H p o) := ⟨w, h, by rw [hid_upd]; exact Ex.refl _⟩
theorem Px.new (x : Px p a H H1) {l : Addr} {o : HO} (n : H1 l = none) : Px p a H (upd H1 l o) := x.more (Ex.new n)
/-- what H has is kept -/
theorem Px.get (x : Px p a H H1) {b : Addr} {o : HO} (h : hid p H b = some o) : hid p H1 b = some o := x.ex _ _ h
theorem Px.at_ (x : Px p a H H1) {b : Addr} {o : HO} (h : hid p H b = some o) : H1 b = some o := hid_get (x.ex _ _ h)
theorem Px.free (x : Px p a H H1) {b : Addr} (n : H1 b = none) : H b = none := by
  cases e : H b with
  | none => rfl
  | some o =>
    have hb : b ≠ p := x.pool.ne n
    have := x.ex b o (by rw [hid_ne hb]; exact e)
    rw [hid_get this] at n; cases n
/-- an object that H does not have may change -/
theorem Px.mut (x : Px p a H H1) {l : Addr} {o : HO} (n : H l = none) : Px p a H (upd H1 l o) := by
  have hl : l ≠ p := x.was.ne n
  have ha : a ≠ l := x.was.ne2 n
  refine ⟨x.was, ?_, ?_⟩
  · obtain ⟨ns, i, c, k, s, h1, h2, h3⟩ := x.pool
    exact ⟨ns, i, c, k, s, by rw [upd_ne hl.symm]; exact h1, by rw [hid_upd_ne hl, upd_ne ha]; exact h2, h3⟩
  · rw [hid_upd_ne hl]; exact Ex.mut x.ex (hid_none n)
/-- a fresh object stands apart from the pool -/
theorem Px.seen (x : Px p a H H1) {l : Addr} {o : HO} (n : H l = none) (e : H1 l = some o) : hid p H1 l = some o := by
  rw [hid_ne (x.was.ne n)]; exact e
end
end G
namespace G
open PySem PySem.Spec PyProof.Rows L2 Evl
/-! ## comprehensions whose elements are plain values -/
theorem given_all {n : Nat} {v : Nat → V} : given n (fun _ => true) v = (List.range n).map v := by
  unfold given
  rw [List.filter_eq_self.mpr (fun _ _ => rfl)]
section
variable {lo : Int} {n j : Nat} {tt : TT} {te : TE} {vs : List Nat} {σ : L2.St} {H1 : Hp} {D : Addr} {Qd : Hp → Prop} {K : PySem.W.Frag} {a : Addr} {xs : List V}
theorem lc_turn {f : Nat → Bool} {v : Nat → V} {i : Nat} {H : Hp} {σ2 : L2.St} (e : H = upd H1 D (.lst (given i f v))) (hi : i < 100000) (ht : Ans tt σ2 H (f i)) (he : f i = true → Val te σ2 H (v i)) :
    tt σ2 H fun b H3 => if b = true then te σ2 H3 fun y H4 => ∃ acc, H4 D = some (.lst acc) ∧ acc.length < sizeLine ∧ (upd H4 D (.lst (acc ++ [y]))) = upd H1 D (.lst (given (i + 1) f v)) else H3 = upd H1 D (.lst (given (i + 1) f v)) := by
  refine ht _ ?_
  subst e
  cases hf : f i with
  | true =>
    refine iteT (he hf _ ⟨_, upd_same, sz_lt (by have := given_len i f v; omega), ?_⟩)
    rw [given_yes hf, upd_upd]
  | false =>
    refine iteF ?_
    rw [given_no hf]
theorem lcR (f : Nat → Bool) (v : Nat → V) (hn : n ≤ 100000) (hw : ∀ x, wipe ((wipe σ vs).set j (some x)) vs = wipe σ vs)
    (ht : ∀ (i : Nat) (H : Hp), i < n → H = upd H1 D (.lst (given i f v)) → Ans tt ((wipe σ vs).set j (some (.int (lo + i)))) H (f i))
    (he : ∀ (i : Nat) (H : Hp), i < n → H = upd H1 D (.lst (given i f v)) → f i = true → Val te ((wipe σ vs).set j (some (.int (lo + i)))) H (v i)) (q : Qd (upd H1 D (.lst (given n f v)))) :
    ∃ W : Nat → Nat → Hp → Prop, (∃ m, W 0 m (upd H1 D (.lst []))) ∧ ∀ i m H, W i m H →
      ((Itr lo n).stop i H ∧ Qd H) ∨ ((Itr lo n).go i H ∧ ∃ Nx : Hp → Prop, (∀ H', Nx H' → ∃ m', m' < m ∧ W (i + 1) m' H') ∧ ∀ x H', (Itr lo n).yld i H x H' → gName j x (wipe σ vs) H' fun σ2 H2 => wipe σ2 vs = wipe σ vs ∧ tt σ2 H2 fun b H3 =>
        if b = true then te σ2 H3 fun y H4 => ∃ acc, H4 D = some (.lst acc) ∧ acc.length < sizeLine ∧ Nx (upd H4 D (.lst (acc ++ [y]))) else Nx H3) :=
  lc_range (fun i H => H = upd H1 D (.lst (given i f v))) rfl (fun i H hi e => ⟨hw _, lc_turn e (by omega) (ht i H hi e) (he i H hi e)⟩) (fun H e => by rw [e]; exact q)
theorem lcRv (v : Nat → V) (hn : n ≤ 100000) (hw : ∀ x, wipe ((wipe σ vs).set j (some x)) vs = wipe σ vs)
    (he : ∀ (i : Nat) (H : Hp), i < n → H = upd H1 D (.lst (given i (fun _ => true) v)) → Val te ((wipe σ vs).set j (some (.int (lo + i)))) H (v i)) (q : Qd (upd H1 D (.lst ((List.range n).map v)))) :
    ∃ W : Nat → Nat → Hp → Prop, (∃ m, W 0 m (upd H1 D (.lst []))) ∧ ∀ i m H, W i m H →
      ((Itr lo n).stop i H ∧ Qd H) ∨ ((Itr lo n).go i H ∧ ∃ Nx : Hp → Prop, (∀ H', Nx H' → ∃ m', m' < m ∧ W (i + 1) m' H') ∧ ∀ x H', (Itr lo n).yld i H x H' → gName j x (wipe σ vs) H' fun σ2 H2 => wipe σ2 vs = wipe σ vs ∧ tYes σ2 H2 fun b H3 =>
        if b = true then te σ2 H3 fun y H4 => ∃ acc, H4 D = some (.lst acc) ∧ acc.length < sizeLine ∧ Nx (upd H4 D (.lst (acc ++ [y]))) else Nx H3) :=
  lcR (fun _ => true) v hn hw (fun _ _ _ _ => fun _ q => q) (fun i H hi e _ => he i H hi e) (by rw [given_all]; exact q)
theorem lcL (f : Nat → Bool) (v : Nat → V) (hx : SqL K H1 a xs) (hD : H1 D = none) (hn : xs.length ≤ 100000) (hw : ∀ x, wipe ((wipe σ vs).set j (some x)) vs = wipe σ vs)
    (ht : ∀ (i : Nat) (x : V) (H : Hp), xs[i]? = some x → H = upd H1 D (.lst (given i f v)) → Ans tt ((wipe σ vs).set j (some x)) H (f i))
    (he : ∀ (i : Nat) (x : V) (H : Hp), xs[i]? = some x → H = upd H1 D (.lst (given i f v)) → f i = true → Val te ((wipe σ vs).set j (some x)) H (v i)) (q : Qd (upd H1 D (.lst (given xs.length f v)))) :
    ∃ W : Nat → Nat → Hp → Prop, (∃ m, W 0 m (upd H1 D (.lst []))) ∧ ∀ i m H, W i m H →
      ((Itl K a).stop i H ∧ Qd H) ∨ ((Itl K a).go i H ∧ ∃ Nx : Hp → Prop, (∀ H', Nx H' → ∃ m', m' < m ∧ W (i + 1) m' H') ∧ ∀ x H', (Itl K a).yld i H x H' → gName j x (wipe σ vs) H' fun σ2 H2 => wipe σ2 vs = wipe σ vs ∧ tt σ2 H2 fun b H3 =>
        if b = true then te σ2 H3 fun y H4 => ∃ acc, H4 D = some (.lst acc) ∧ acc.length < sizeLine ∧ Nx (upd H4 D (.lst (acc ++ [y]))) else Nx H3) :=
  lc_list (fun i H => H = upd H1 D (.lst (given i f v))) rfl (fun i H hi e => by rw [e]; exact ex_l (Ex.new hD) hx) (fun i x H hi e => ⟨hw _, lc_turn e (by have := (List.getElem?_eq_some_iff.mp hi).1; omega) (ht i x H hi e) (he i x H hi e)⟩) (fun H e => by rw [e]; exact q)
theorem lcT (f : Nat → Bool) (v : Nat → V) (hx : SqT K H1 a xs) (hD : H1 D = none) (hn : xs.length ≤ 100000) (hw : ∀ x, wipe ((wipe σ vs).set j (some x)) vs = wipe σ vs)
    (ht : ∀ (i : Nat) (x : V) (H : Hp), xs[i]? = some x → H = upd H1 D (.lst (given i f v)) → Ans tt ((wipe σ vs).set j (some x)) H (f i))
    (he : ∀ (i : Nat) (x : V) (H : Hp), xs[i]? = some x → H = upd H1 D (.lst (given i f v)) → f i = true → Val te ((wipe σ vs).set j (some x)) H (v i)) (q : Qd (upd H1 D (.lst (given xs.length f v)))) :
    ∃ W : Nat → Nat → Hp → Prop, (∃ m, W 0 m (upd H1 D (.lst []))) ∧ ∀ i m H, W i m H →
      ((Itt K a).stop i H ∧ Qd H) ∨ ((Itt K a).go i H ∧ ∃ Nx : Hp → Prop, (∀ H', Nx H' → ∃ m', m' < m ∧ W (i + 1) m' H') ∧ ∀ x H', (Itt K a).yld i H x H' → gName j x (wipe σ vs) H' fun σ2 H2 => wipe σ2 vs = wipe σ vs ∧ tt σ2 H2 fun b H3 =>
        if b = true then te σ2 H3 fun y H4 => ∃ acc, H4 D = some (.lst acc) ∧ acc.length < sizeLine ∧ Nx (upd H4 D (.lst (acc ++ [y]))) else Nx H3) :=
  lc_tup (fun i H => H = upd H1 D (.lst (given i f v))) rfl (fun i H hi e => by rw [e]; exact ex_t (Ex.new hD) hx) (fun i x H hi e => ⟨hw _, lc_turn e (by have := (List.getElem?_eq_some_iff.mp hi).1; omega) (ht i x H hi e) (he i x H hi e)⟩) (fun H e => by rw [e]; exact q)
theorem lcLm (g : V → V) (hx : SqL K H1 a xs) (hD : H1 D = none) (hn : xs.length ≤ 100000) (hw : ∀ x, wipe ((wipe σ vs).set j (some x)) vs = wipe σ vs)
    (he : ∀ (i : Nat) (x : V) (H : Hp), xs[i]? = some x → H = upd H1 D (.lst ((xs.take i).map g)) → Val te ((wipe σ vs).set j (some x)) H (g x)) (q : Qd (upd H1 D (.lst (xs.map g)))) :
    ∃ W : Nat → Nat → Hp → Prop, (∃ m, W 0 m (upd H1 D (.lst []))) ∧ ∀ i m H, W i m H →
      ((Itl K a).stop i H ∧ Qd H) ∨ ((Itl K a).go i H ∧ ∃ Nx : Hp → Prop, (∀ H', Nx H' → ∃ m', m' < m ∧ W (i + 1) m' H') ∧ ∀ x H', (Itl K a).yld i H x H' → gName j x (wipe σ vs) H' fun σ2 H2 => wipe σ2 vs = wipe σ vs ∧ tYes σ2 H2 fun b H3 =>
        if b = true then te σ2 H3 fun y H4 => ∃ acc, H4 D = some (.lst acc) ∧ acc.length < sizeLine ∧ Nx (upd H4 D (.lst (acc ++ [y]))) else Nx H3) :=
  lc_list (fun i H => H = upd H1 D (.lst ((xs.take i).map g))) (by rw [List.take_zero]; rfl) (fun i H hi e => by rw [e]; exact ex_l (Ex.new hD) hx)
    (fun i x H hi e => ⟨hw _, by
      refine iteT (B := H = upd H1 D (.lst ((xs.take (i + 1)).map g))) ?_
      refine he i x H hi e _ ?_
      subst e
      refine ⟨_, upd_same, sz_lt ?_, ?_⟩
      · rw [List.length_map, List.length_take]; have := (List.getElem?_eq_some_iff.mp hi).1; omega
      · rw [upd_upd, List.take_add_one, hi, List.map_append]; rfl⟩) (fun H e => by rw [e, List.take_length]; exact q)
theorem lcTm (g : V → V) (hx : SqT K H1 a xs) (hD : H1 D = none) (hn : xs.length ≤ 100000) (hw : ∀ x, wipe ((wipe σ vs).set j (some x)) vs = wipe σ vs)
    (he : ∀ (i : Nat) (x : V) (H : Hp), xs[i]? = some x → H = upd H1 D (.lst ((xs.take i).map g)) → Val te ((wipe σ vs).set j (some x)) H (g x)) (q : Qd (upd H1 D (.lst (xs.map g)))) :
    ∃ W : Nat → Nat → Hp → Prop, (∃ m, W 0 m (upd H1 D (.lst []))) ∧ ∀ i m H, W i m H →
      ((Itt K a).stop i H ∧ Qd H) ∨ ((Itt K a).go i H ∧ ∃ Nx : Hp → Prop, (∀ H', Nx H' → ∃ m', m' < m ∧ W (i + 1) m' H') ∧ ∀ x H', (Itt K a).yld i H x H' → gName j x (wipe σ vs) H' fun σ2 H2 => wipe σ2 vs = wipe σ vs ∧ tYes σ2 H2 fun b H3 =>
        if b = true then te σ2 H3 fun y H4 => ∃ acc, H4 D = some (.lst acc) ∧ acc.length < sizeLine ∧ Nx (upd H4 D (.lst (acc ++ [y]))) else Nx H3) :=
  lc_tup (fun i H => H = upd H1 D (.lst ((xs.take i).map g))) (by rw [List.take_zero]; rfl) (fun i H hi e => by rw [e]; exact ex_t (Ex.new hD) hx)
    (fun i x H hi e => ⟨hw _, by
      refine iteT (B := H = upd H1 D (.lst ((xs.take (i + 1)).map g))) ?_
      refine he i x H hi e _ ?_
      subst e
      refine ⟨_, upd_same, sz_lt ?_, ?_⟩
      · rw [List.length_map, List.length_take]; have := (List.getElem?_eq_some_iff.mp hi).1; omega
      · rw [upd_upd, List.take_add_one, hi, List.map_append]; rfl⟩) (fun H e => by rw [e, List.take_length]; exact q)
end
end G
namespace G
open PySem PySem.Spec PyProof.Rows L2 Evl
/-! ## rules within a comprehension's block: the written part by its letter -/
section
variable {X : Cx} {K : PySem.W.Frag}
theorem kIxT (h : X.K = K) : IxR X (rIxT K) := by subst h; exact ix_tup
theorem kIxL (h : X.K = K) : IxR X (rIxL K) := by subst h; exact ix_list
theorem kIx (h : X.K = K) : IxR X (rIx K) := by subst h; exact ix_seq
theorem kIn (h : X.K = K) : OpR X (compareOp .In) (rIn K false) := by subst h; exact op_in_seq
theorem kNotIn (h : X.K = K) : OpR X (compareOp .NotIn) (rIn K true) := by subst h; exact op_notIn_seq
theorem kLen (h : X.K = K) : CallR X (.builtin "len") (rLenS K) := by subst h; exact call_len_seq
theorem gStr {x s : Str} {t : Tok} {pos : Pos} (hg : Gl X x) (h : X.mg x = some (.str s t)) (hd : (x == ("__debug__" : Str)) = false := by decide) : PE X (.Name x pos) (tC (.str s)) := pe_glob (v := .str s) hg h ⟨t, rfl⟩ hd
theorem gInt {x : Str} {i : Int} {t : Tok} {pos : Pos} (hg : Gl X x) (h : X.mg x = some (.int i t)) (hd : (x == ("__debug__" : Str)) = false := by decide) : PE X (.Name x pos) (tC (.int i)) := pe_glob (v := .int i) hg h ⟨t, rfl⟩ hd
theorem gRef {x : Str} {a : Addr} {pos : Pos} (hg : Gl X x) (h : X.mg x = some (.ref a)) (hd : (x == ("__debug__" : Str)) = false := by decide) : PE X (.Name x pos) (tC (.ref a)) := pe_glob (v := .ref a) hg h rfl hd
theorem kSlL (h : X.K = K) : SlR X (rSlL K) := by subst h; exact sl_list
theorem kCatA (h : X.K = K) : OpR X (binaryOp .Add) (rCatA K) := by subst h; exact op_catA
theorem kAny (h : X.K = K) (hc : X.calm = true) : CallR X (.builtin "any") (rAny K) := by subst h; exact cr_any hc
theorem kAll (h : X.K = K) (hc : X.calm = true) : CallR X (.builtin "all") (rAll K) := by subst h; exact cr_all hc
theorem kLtT (h : X.K = K) (hu : X.A.units < cLine) : OpR X (compareOp .Lt) (rLtT K) := by subst h; exact op_ltT hu
theorem kPiT {e tg : Expr} {te : TE} (h : X.K = K) (he : PE X e te) : PI X tg e (iTup K te) := by subst h; exact pi_tup he
theorem kPiL {e tg : Expr} {te : TE} (h : X.K = K) (he : PE X e te) : PI X tg e (iList K te) := by subst h; exact pi_list he
theorem kSlA (h : X.K = K) : SlR X (rSlA K) := by subst h; exact sl_tupA
end
end G
namespace G
open PySem PySem.Spec PyProof.Rows L2 Evl
theorem dpAll_map {α : Type} {K : PySem.W.Frag} {H : Hp} {f : α → V} {g : α → PyData} (h : ∀ x, Dp K H (f x) (g x)) : ∀ l : List α, DpAll K H (l.map f) (l.map g)
  | [] => .nil
  | x :: r => .cons (h x) (dpAll_map h r)
theorem dp_ints {K : PySem.W.Frag} {H : Hp} {a : Addr} {ns : List Int} (h : SqL K H a (ns.map V.int)) : Dp K H (.ref a) (.list (ns.map PyData.int)) := .lst h (dpAll_map (fun i => .int i) ns)
theorem dp_nil {K : PySem.W.Frag} {H : Hp} {a : Addr} (h : SqL K H a []) : Dp K H (.ref a) (.list []) := .lst h .nil
theorem eqv_nil (l : List PyData) : PyData.eqv (.list l) (.list []) = l.isEmpty := by cases l <;> rfl
theorem shaped_nil : SeqAt.shaped (.list []) = true := by decide +kernel
end G
/-! t[a::2], t a tuple -/
namespace HT
open PySem PySem.Spec PyProof.Rows L2
section
variable {prog : Program} {w : World} {A : Around} {E : Value → Shared → Prop} {s : Shared}
theorem g_applied {sl : Addr} {vl vu vs : Value} {lo hi : Option Int} {st : Int} {n : Nat} {Q : Int × Int × Nat → Shared → Prop} (hs : s.heap.IsSliceOf sl vl vu vs) (pl : IsPart vl lo) (pu : IsPart vu hi) (ps : IsPart vs (some st)) (h0 : st ≠ 0)
    (h : Q ((Builtin.Slice.sliceAdjust lo hi st (n : Int)).1, st, Builtin.Slice.slicePlaces (Builtin.Slice.sliceAdjust lo hi st (n : Int)).1 (Builtin.Slice.sliceAdjust lo hi st (n : Int)).2 st) s) :
    wpAny (model prog w) A (Builtin.Slice.sliceApplied (.ref sl) (pure (n : Int))) Q E s := by
  obtain ⟨ob, hob, _, hd⟩ := id hs
  unfold Builtin.Slice.sliceApplied Builtin.Slice.sliceFields
  refine wpAny_bind (wpAny_bind (wpAny_field hob hd (x := vl) rfl (wpAny_bind (wpAny_field hob hd (x := vu) rfl (wpAny_bind (wpAny_field hob hd (x := vs) rfl (wpAny_pure ?_)))))))
  refine wpAny_bind (slicePart_ ps ?_)
  show wpAny _ _ (if (st == 0) = true then _ else _) _ _ s
  rw [if_neg (by intro q; exact h0 (eq_of_beq q))]
  exact wpAny_bind (slicePart_ pl (wpAny_bind (slicePart_ pu (wpAny_bind (wpAny_pure (wpAny_pure h))))))
def stepped (xs : List Value) (lo st : Int) (n : Nat) : List Value := (List.range n).filterMap fun (k : Nat) => xs.toArray[(lo + (k : Int) * st).toNat]?
theorem g_getStep {t sl : Addr} {its : List Value} {vl vu vs : Value} {lo hi : Option Int} {st : Int} {Q : Value → Shared → Prop} (ht : IsTup s.heap t its.toArray) (hs : s.heap.IsSliceOf sl vl vu vs) (pl : IsPart vl lo) (pu : IsPart vu hi) (ps : IsPart vs (some st)) (h0 : st ≠ 0) (h1 : st ≠ 1)
    (hz : (stepped its (Builtin.Slice.sliceAdjust lo hi st (its.toArray.size : Int)).1 st (Builtin.Slice.slicePlaces (Builtin.Slice.sliceAdjust lo hi st (its.toArray.size : Int)).1 (Builtin.Slice.sliceAdjust lo hi st (its.toArray.size : Int)).2 st)).length ≤ sizeLine)
    (h : Q (.ref s.heap.objs.size) { s with heap := s.heap.push { cls := .type "tuple", data := .seq (stepped its (Builtin.Slice.sliceAdjust lo hi st (its.toArray.size : Int)).1 st (Builtin.Slice.slicePlaces (Builtin.Slice.sliceAdjust lo hi st (its.toArray.size : Int)).1 (Builtin.Slice.sliceAdjust lo hi st (its.toArray.size : Int)).2 st)).toArray } }) :
    wpAny (model prog w) A (getItem (.ref t) (.ref sl)) Q E s := by
  have ok : sizeOk (.seq (stepped its (Builtin.Slice.sliceAdjust lo hi st (its.toArray.size : Int)).1 st (Builtin.Slice.slicePlaces (Builtin.Slice.sliceAdjust lo hi st (its.toArray.size : Int)).1 (Builtin.Slice.sliceAdjust lo hi st (its.toArray.size : Int)).2 st)).toArray) := by
    show (stepped its _ st _).toArray.size ≤ sizeLine
    rw [List.size_toArray]; exact hz
  obtain ⟨ob, hob, hc, hd⟩ := id hs
  have hTs : s.TypeIs (.ref sl) "slice" := ⟨ob, hob, hc⟩
  unfold getItem
  try with_reducible refine wpAny_holding ?_
  first | refine wpAny_bind (wpAny_pure ?_) | skip
  refine wpAny_bind (wpAny_sequenceKey ht.typeIs (by decide) ?_)
  refine wpAny_bind (wpAny_callSpecial?_slot (name := Str.ofString "__getitem__") ht.typeIs slot_tuple_getitem (wpAny_call_entry slot_tuple_getitem ht.typeIs entry_tuple_getitem ?_ (args_tuple_getitem _ _)))
  show wpAny _ _ (Builtin.Tuple.tupleItemsOf (.ref t) >>= _) _ _ s
  refine wpAny_bind (tupleItemsOf_ ht (wpAny_bind (wpAny_typeOf hTs ?_)))
  rw [if_pos (by decide)]
  refine wpAny_bind (g_applied hs pl pu ps h0 ?_)
  generalize (Builtin.Slice.sliceAdjust lo hi st (its.toArray.size : Int)).1 = l0 at *
  generalize Builtin.Slice.slicePlaces l0 (Builtin.Slice.sliceAdjust lo hi st (its.toArray.size : Int)).2 st = n0 at *
  have hno : ¬ ((l0 == 0 && st == 1 && n0 == its.toArray.size) = true) := by
    intro q
    rw [Bool.and_eq_true, Bool.and_eq_true] at q
    exact h1 (eq_of_beq q.1.2)
  show wpAny _ _ (if (l0 == 0 && st == 1 && n0 == its.toArray.size) = true then _ else _) _ _ s
  rw [if_neg hno]
  first
    | exact wpAny_bind (m := Builtin.Tuple.tupleExact _) (wpAny_newObj_type (wpAny_pure ⟨_, rfl, wpAny_pure h⟩) ok)
    | exact wpAny_bind (m := Builtin.Tuple.tupleExact _) (wpAny_newObj_type (wpAny_bind (wpAny_pure (wpAny_pure ⟨_, rfl, wpAny_pure h⟩))) ok)
    | exact wpAny_bind (wpAny_bind (m := Builtin.Tuple.tupleExact _) (wpAny_newObj_type (wpAny_pure (wpAny_pure ⟨_, rfl, wpAny_pure h⟩)) ok))
    | exact wpAny_bind (wpAny_bind (m := Builtin.Tuple.tupleExact _) (wpAny_newObj_type (wpAny_pure ⟨_, rfl, wpAny_pure h⟩) ok))
end
end HT
namespace G
open PySem PySem.Spec PyProof.Rows L2 Evl
/-- every second item from a on -/
def halfL {α : Type} (a : Nat) (xs : List α) : List α := (List.range ((xs.length - a + 1) / 2)).filterMap fun k => xs[a + 2 * k]?
theorem halfL_len {α : Type} (a : Nat) (xs : List α) : (halfL a xs).length ≤ xs.length + 1 := by
  unfold halfL
  refine Nat.le_trans (List.length_filterMap_le _ _) ?_
  rw [List.length_range]; omega
theorem vals_filterMap {f : Nat → Option V} {g : Nat → Option Value} : ∀ {l : List Nat}, (∀ k, k ∈ l → RelO (f k) (g k)) → Vals (l.filterMap f) (l.filterMap g)
  | [], _ => .nil
  | k :: r, h => by
    have hk := h k (List.mem_cons_self ..)
    have ih := vals_filterMap (l := r) fun j hj => h j (List.mem_cons_of_mem _ hj)
    rw [List.filterMap_cons, List.filterMap_cons]
    cases e : f k with
    | none =>
      cases e2 : g k with
      | none => exact ih
      | some u => rw [e, e2] at hk; exact hk.elim
    | some v =>
      cases e2 : g k with
      | none => rw [e, e2] at hk; exact hk.elim
      | some u => rw [e, e2] at hk; exact .cons hk ih
def tHalf (K : PySem.W.Frag) (a : Nat) (te : TE) : TE := fun σ H Q => te σ H fun x H1 => ∃ t xs, x = .ref t ∧ SqT K H1 t xs ∧ xs.length ≤ 100000 ∧ ∀ p, H1 p = none → Q (.ref p) (upd H1 p (.tup (halfL a xs)))
theorem half_places {a n : Nat} (h : a ≤ 1) : (Builtin.Slice.sliceAdjust (some (a : Int)) none 2 (n : Int)).1 = ((min a n : Nat) : Int) ∧
    Builtin.Slice.slicePlaces (Builtin.Slice.sliceAdjust (some (a : Int)) none 2 (n : Int)).1 (Builtin.Slice.sliceAdjust (some (a : Int)) none 2 (n : Int)).2 2 = (n - a + 1) / 2 := by
  have h2 : ¬ ((2 : Int) < 0) := by omega
  have h3 : (2 : Int) > 0 := by omega
  have ha : ¬ ((a : Int) < 0) := by omega
  have e : Builtin.Slice.sliceAdjust (some (a : Int)) none 2 (n : Int) = (((min a n : Nat) : Int), (n : Int)) := by
    unfold Builtin.Slice.sliceAdjust
    simp only [h2, if_false, ha]
    refine Prod.ext ?_ rfl
    show min (a : Int) (n : Int) = ((min a n : Nat) : Int)
    omega
  rw [e]
  refine ⟨rfl, ?_⟩
  show Builtin.Slice.slicePlaces ((min a n : Nat) : Int) (n : Int) 2 = (n - a + 1) / 2
  unfold Builtin.Slice.slicePlaces
  simp only [h3, if_true]
  split <;> omega
section
variable {X : Cx}
theorem pe_half {e : Expr} {te : TE} {a : Nat} {k1 k2 : Nat} {p1 p2 p3 pos : Pos} (ha : a ≤ 1) (he : PE X e te) : PE X (.Subscript e (.Slice (some (.Constant (.int (a : Int)) k1 p1)) none (some (.Constant (.int 2) k2 p2)) p3) pos) (tHalf X.K a te) := by
  refine ⟨fun pins s σ H Q I h => Subscript_ (thn (he.run pins s σ H _ I h) fun v s1 ⟨x, H1, I1, r1, q1⟩ => ?_)⟩
  obtain ⟨t, xs, rfl, hx, hlen, q⟩ := q1
  cases r1
  have hlo : PO X (some (.Constant (.int (a : Int)) k1 p1)) (tPart (tC (.int (a : Int)))) := po_some pe_int
  have hst : PO X (some (.Constant (.int 2) k2 p2)) (tPart (tC (.int 2))) := po_some pe_int
  refine wpAny_Slice (thn (hlo.run pins s1 σ H1 (fun o H2 => o = some (a : Int) ∧ H2 = H1) I1 ⟨_, rfl, rfl, rfl⟩) fun vl s2 ⟨l, H2, I2, pl, el, e2⟩ => ?_)
  subst el e2
  refine thn (po_none.run pins s2 σ H2 (fun o H3 => o = none ∧ H3 = H2) I2 ⟨rfl, rfl⟩) fun vu s3 ⟨u, H3, I3, pu, eu, e3⟩ => ?_
  subst eu e3
  refine thn (hst.run pins s3 σ H3 (fun o H4 => o = some 2 ∧ H4 = H3) I3 ⟨_, rfl, rfl, rfl⟩) fun vs s4 ⟨o, H4, I4, ps, eo, e4⟩ => ?_
  subst eo e4
  have I5 : Inv X pins σ H4 { s4 with heap := s4.heap.push { cls := .type "slice", data := .fields #[vl, vu, vs] } } := I4.kept (t' := s4.toks) fun b ob q => Heap.get?_push_of_some _ q
  obtain ⟨its, r, ht, hz⟩ := I5.tuple hx
  have hl : its.toArray.size = xs.length := by rw [List.size_toArray]; exact r.length.symm
  obtain ⟨hp1, hp2⟩ := half_places (n := xs.length) ha
  have hrel : Vals (halfL a xs) (HT.stepped its ((min a xs.length : Nat) : Int) 2 ((xs.length - a + 1) / 2)) := by
    unfold halfL HT.stepped
    refine vals_filterMap fun k hk => ?_
    have hk' := List.mem_range.mp hk
    have hi : a + 2 * k < xs.length := by omega
    have en : (((min a xs.length : Nat) : Int) + (k : Int) * 2).toNat = a + 2 * k := by omega
    rw [en, List.getElem?_eq_getElem hi]
    obtain ⟨u, hu, ru⟩ := r.get (List.getElem?_eq_getElem hi)
    rw [List.getElem?_toArray, hu]
    exact ru
  have hsz : (halfL a xs).length ≤ sizeLine := sz_of (by
    unfold halfL
    refine Nat.le_trans (List.length_filterMap_le _ _) ?_
    rw [List.length_range]
    omega)
  show wpAny (model X.prog X.w) X.A (subscriptTail e (.Slice (some (.Constant (.int (a : Int)) k1 p1)) none (some (.Constant (.int 2) k2 p2)) p3) (.ref t) (.ref s4.heap.objs.size)) (EP X pins σ Q) X.xe { s4 with heap := s4.heap.push { cls := .type "slice", data := .fields #[vl, vu, vs] } }
  refine tail_any (ops := [.ref t, .ref s4.heap.objs.size]) ht.typeIs PyProof.Rows.slot_tuple_getitem.lookup ?_ (by with_unfolding_all rfl)
  refine HT.g_getStep ht (Heap.IsSliceOf.new _ vl vu vs) pl pu ps (by decide) (by decide) ?_ ?_
  · rw [hl, hp2, hp1, ← hrel.length]; exact hsz
  · rw [hl, hp2, hp1]
    refine ⟨.ref _, _, I5.laid (t' := s4.toks) (o := .tup (halfL a xs)) (fun b ob q => Heap.get?_push_of_some _ q) (Nat.le_refl _) ?_, rfl, q _ (I5.hok.fresh (Nat.le_refl _))⟩
    exact ⟨hsz, _, hrel, ⟨_, Heap.get?_push_size _ rfl, rfl, _, rfl⟩⟩
end
end G
namespace G
/-! ## what is forced: the mathematics -/
def meet (a b : Option Bool) : Option Bool := if a = b then a else none
def pairUp (rows : List (Option Bool)) : List (Option Bool) := (List.range (rows.length / 2)).map fun i => meet (rows.getD (2 * i) none) (rows.getD (2 * i + 1) none)
def pick (a : Nat) (rows : List (Option Bool)) : List (Option Bool) := (List.range (rows.length / 2)).map fun i => rows.getD (a + 2 * i) none
def wo (rows : List (Option Bool)) (k : Int) : List (Option Bool) := if k = 0 then pick 0 rows else if k = 1 then pick 1 rows else pairUp rows
def forcedF (rows : List (Option Bool)) : List Int → Option Bool
  | [] => rows.getD 0 none
  | k :: ps => forcedF (wo rows k) ps
theorem wo_len (rows : List (Option Bool)) (k : Int) : (wo rows k).length = rows.length / 2 := by
  unfold wo pick pairUp
  split
  · rw [List.length_map, List.length_range]
  · split <;> rw [List.length_map, List.length_range]
/-- the assignment x agrees with the partial one -/
def agr : Nat → List Int → Bool
  | _, [] => true
  | x, k :: ps => (decide (k = -1) || decide (k = 1) == (x % 2 == 1)) && agr (x / 2) ps
theorem getD_map {α β : Type} {f : Nat → β} {n i : Nat} {d : β} (h : i < n) : ((List.range n).map f).getD i d = f i := by
  rw [List.getD_eq_getElem?_getD, List.getElem?_map, List.getElem?_range h]
  rfl
theorem meet_some {a b : Option Bool} {v : Bool} : meet a b = some v ↔ a = some v ∧ b = some v := by
  unfold meet
  constructor
  · intro h
    by_cases e : a = b
    · rw [if_pos e] at h; exact ⟨h, by rw [← e]; exact h⟩
    · rw [if_neg e] at h; cases h
  · rintro ⟨h1, h2⟩
    rw [h1, h2, if_pos rfl]
theorem forcedF_iff : ∀ (ps : List Int) (rows : List (Option Bool)) (v : Bool), rows.length = 2 ^ ps.length → (∀ k ∈ ps, k = -1 ∨ k = 0 ∨ k = 1) →
    (forcedF rows ps = some v ↔ ∀ x, x < rows.length → agr x ps = true → rows.getD x none = some v)
  | [], rows, v, hl, _ => by
    have h1 : rows.length = 1 := hl
    unfold forcedF
    constructor
    · intro h x hx _
      have : x = 0 := by omega
      rw [this]; exact h
    · intro h
      exact h 0 (by omega) rfl
  | k :: ps, rows, v, hl, hk => by
    have hl2 : rows.length = 2 * 2 ^ ps.length := by rw [hl, List.length_cons, Nat.pow_succ, Nat.mul_comm]
    have hw : (wo rows k).length = 2 ^ ps.length := by rw [wo_len]; omega
    have hn : rows.length / 2 = 2 ^ ps.length := by omega
    have ih := forcedF_iff ps (wo rows k) v hw (fun j hj => hk j (List.mem_cons_of_mem _ hj))
    have hk' := hk k (List.mem_cons_self ..)
    show forcedF (wo rows k) ps = some v ↔ _
    rw [ih, hw]
    have e2 : ∀ x, (2 * x) / 2 = x := fun x => by omega
    have e3 : ∀ x, (2 * x + 1) / 2 = x := fun x => by omega
    rcases hk' with rfl | rfl | rfl
    · -- not known
      have ew : ∀ x, x < 2 ^ ps.length → (wo rows (-1)).getD x none = meet (rows.getD (2 * x) none) (rows.getD (2 * x + 1) none) := fun x hx => by
        have : wo rows (-1) = pairUp rows := by unfold wo; rw [if_neg (by decide), if_neg (by decide)]
        rw [this]; unfold pairUp; rw [hn]; exact getD_map (α := Nat) hx
      constructor
      · intro h x hx ha
        have ha' : agr (x / 2) ps = true := by
          have := (Bool.and_eq_true _ _ ▸ (show (_ && agr (x / 2) ps) = true from ha) : _ ∧ _).2
          exact this
        have h1 := h (x / 2) (by omega) ha'
        rw [ew _ (by omega)] at h1
        obtain ⟨q0, q1⟩ := meet_some.mp h1
        rcases Nat.mod_two_eq_zero_or_one x with c | c
        · rw [show 2 * (x / 2) = x by omega] at q0; exact q0
        · rw [show 2 * (x / 2) + 1 = x by omega] at q1; exact q1
      · intro h x hx ha
        rw [ew x hx]
        refine meet_some.mpr ⟨h (2 * x) (by omega) ?_, h (2 * x + 1) (by omega) ?_⟩
        · show ((decide ((-1 : Int) = -1) || _) && agr (2 * x / 2) ps) = true
          rw [e2, ha]; rfl
        · show ((decide ((-1 : Int) = -1) || _) && agr ((2 * x + 1) / 2) ps) = true
          rw [e3, ha]; rfl
    · have ew : ∀ x, x < 2 ^ ps.length → (wo rows 0).getD x none = rows.getD (0 + 2 * x) none := fun x hx => by
        have : wo rows 0 = pick 0 rows := by unfold wo; rw [if_pos rfl]
        rw [this]; unfold pick; rw [hn]; exact getD_map (α := Nat) hx
      constructor
      · intro h x hx ha
        have ha2 : ((decide ((0 : Int) = -1) || decide ((0 : Int) = 1) == (x % 2 == 1)) && agr (x / 2) ps) = true := ha
        rw [Bool.and_eq_true] at ha2
        have hx0 : x % 2 = 0 := by
          rcases Nat.mod_two_eq_zero_or_one x with c | c
          · exact c
          · rw [c] at ha2; exact absurd ha2.1 (by decide)
        have h1 := h (x / 2) (by omega) ha2.2
        rw [ew _ (by omega), show 0 + 2 * (x / 2) = x by omega] at h1
        exact h1
      · intro h x hx ha
        rw [ew x hx, Nat.zero_add]
        refine h (2 * x) (by omega) ?_
        show ((decide ((0 : Int) = -1) || decide ((0 : Int) = 1) == ((2 * x) % 2 == 1)) && agr (2 * x / 2) ps) = true
        rw [e2, ha, show (2 * x) % 2 = 0 by omega]; rfl
    · have ew : ∀ x, x < 2 ^ ps.length → (wo rows 1).getD x none = rows.getD (1 + 2 * x) none := fun x hx => by
        have : wo rows 1 = pick 1 rows := by unfold wo; rw [if_neg (by decide), if_pos rfl]
        rw [this]; unfold pick; rw [hn]; exact getD_map (α := Nat) hx
      constructor
      · intro h x hx ha
        have ha2 : ((decide ((1 : Int) = -1) || decide ((1 : Int) = 1) == (x % 2 == 1)) && agr (x / 2) ps) = true := ha
        rw [Bool.and_eq_true] at ha2
        have hx0 : x % 2 = 1 := by
          rcases Nat.mod_two_eq_zero_or_one x with c | c
          · rw [c] at ha2; exact absurd ha2.1 (by decide)
          · exact c
        have h1 := h (x / 2) (by omega) ha2.2
        rw [ew _ (by omega), show 1 + 2 * (x / 2) = x by omega] at h1
        exact h1
      · intro h x hx ha
        rw [ew x hx]
        refine h (1 + 2 * x) (by omega) ?_
        show ((decide ((1 : Int) = -1) || decide ((1 : Int) = 1) == ((1 + 2 * x) % 2 == 1)) && agr ((1 + 2 * x) / 2) ps) = true
        rw [show (1 + 2 * x) / 2 = x by omega, ha, show (1 + 2 * x) % 2 = 1 by omega]; rfl
/-- the law's own test of agreement -/
def dis (p : Int) (b : Bool) : Bool := !decide (p = -1) && !decide (decide (p = 1) = b)
theorem agr_iff : ∀ (ps : List Int) (x : Nat), agr x ps = true ↔ ∀ j, j < ps.length → dis (ps.getD j 0) (x.testBit j) = false
  | [], x => by
    constructor
    · intro _ j hj; exact absurd hj (by simp)
    · intro _; rfl
  | k :: ps, x => by
    have ih := agr_iff ps (x / 2)
    have e0 : x.testBit 0 = (x % 2 == 1) := by rw [Nat.testBit_zero]; rcases Nat.mod_two_eq_zero_or_one x with c | c <;> simp [c]
    have e1 : ∀ j, x.testBit (j + 1) = (x / 2).testBit j := fun j => Nat.testBit_succ x j
    have eh : (decide (k = -1) || decide (k = 1) == (x % 2 == 1)) = !dis k (x.testBit 0) := by
      unfold dis
      rw [e0]
      by_cases h1 : k = -1 <;> by_cases h2 : k = 1 <;> cases (x % 2 == 1) <;> simp [h1, h2]
    show ((decide (k = -1) || decide (k = 1) == (x % 2 == 1)) && agr (x / 2) ps) = true ↔ _
    rw [Bool.and_eq_true, ih, eh]
    constructor
    · rintro ⟨h, hr⟩ j hj
      cases j with
      | zero => simpa using h
      | succ j => rw [e1]; exact hr j (by simpa using hj)
    · intro h
      refine ⟨by have := h 0 (by simp); simpa using this, fun j hj => ?_⟩
      have := h (j + 1) (by simpa using hj)
      rw [e1] at this
      exact this
/-- the values that are shown, in order -/
def shownL (bs : List Bool) (ps : List Int) (n : Nat) : List Bool := ((List.range n).filter fun x => agr x ps).map fun x => bs.getD x false
def dueF (bs : List Bool) (ps : List Int) : Option Bool :=
  if (shownL bs ps bs.length).contains true && (shownL bs ps bs.length).contains false then none else (shownL bs ps bs.length).head?
theorem agr_ex : ∀ (ps : List Int), (∀ k ∈ ps, k = -1 ∨ k = 0 ∨ k = 1) → ∃ x, x < 2 ^ ps.length ∧ agr x ps = true
  | [], _ => ⟨0, by decide, rfl⟩
  | k :: ps, h => by
    obtain ⟨x, hx, ha⟩ := agr_ex ps fun j hj => h j (List.mem_cons_of_mem _ hj)
    have e : 2 ^ (k :: ps).length = 2 * 2 ^ ps.length := by rw [List.length_cons, Nat.pow_succ, Nat.mul_comm]
    rw [e]
    rcases h k (List.mem_cons_self ..) with rfl | rfl | rfl
    · refine ⟨2 * x, by omega, ?_⟩
      show ((decide ((-1 : Int) = -1) || _) && agr (2 * x / 2) ps) = true
      rw [show 2 * x / 2 = x by omega, ha]; rfl
    · refine ⟨2 * x, by omega, ?_⟩
      show ((decide ((0 : Int) = -1) || decide ((0 : Int) = 1) == ((2 * x) % 2 == 1)) && agr (2 * x / 2) ps) = true
      rw [show 2 * x / 2 = x by omega, ha, show (2 * x) % 2 = 0 by omega]; rfl
    · refine ⟨2 * x + 1, by omega, ?_⟩
      show ((decide ((1 : Int) = -1) || decide ((1 : Int) = 1) == ((2 * x + 1) % 2 == 1)) && agr ((2 * x + 1) / 2) ps) = true
      rw [show (2 * x + 1) / 2 = x by omega, ha, show (2 * x + 1) % 2 = 1 by omega]; rfl
theorem shown_mem {bs : List Bool} {ps : List Int} {n : Nat} {v : Bool} : v ∈ shownL bs ps n ↔ ∃ x, x < n ∧ agr x ps = true ∧ bs.getD x false = v := by
  unfold shownL
  rw [List.mem_map]
  constructor
  · rintro ⟨x, hx, rfl⟩
    obtain ⟨h1, h2⟩ := List.mem_filter.mp hx
    exact ⟨x, List.mem_range.mp h1, h2, rfl⟩
  · rintro ⟨x, h1, h2, rfl⟩
    exact ⟨x, List.mem_filter.mpr ⟨List.mem_range.mpr h1, h2⟩, rfl⟩
theorem forced_due {bs : List Bool} {ps : List Int} (hl : bs.length = 2 ^ ps.length) (hk : ∀ k ∈ ps, k = -1 ∨ k = 0 ∨ k = 1) : forcedF (bs.map some) ps = dueF bs ps := by
  have hl' : (bs.map some).length = 2 ^ ps.length := by rw [List.length_map]; exact hl
  have key : ∀ v, forcedF (bs.map some) ps = some v ↔ ∀ u ∈ shownL bs ps bs.length, u = v := fun v => by
    rw [forcedF_iff ps _ v hl' hk]
    constructor
    · intro h u hu
      obtain ⟨x, hx, ha, rfl⟩ := shown_mem.mp hu
      have := h x (by rw [List.length_map]; exact hx) ha
      rw [List.getD_eq_getElem?_getD, List.getElem?_map, List.getElem?_eq_getElem hx] at this
      rw [List.getD_eq_getElem?_getD, List.getElem?_eq_getElem hx]
      exact Option.some.inj this
    · intro h x hx ha
      rw [List.length_map] at hx
      have := h _ (shown_mem.mpr ⟨x, hx, ha, rfl⟩)
      rw [List.getD_eq_getElem?_getD, List.getElem?_eq_getElem hx] at this
      rw [List.getD_eq_getElem?_getD, List.getElem?_map, List.getElem?_eq_getElem hx, ← this]
      rfl
  obtain ⟨x0, hx0, ha0⟩ := agr_ex ps hk
  have hne : bs.getD x0 false ∈ shownL bs ps bs.length := shown_mem.mpr ⟨x0, by omega, ha0, rfl⟩
  unfold dueF
  by_cases hT : true ∈ shownL bs ps bs.length <;> by_cases hF : false ∈ shownL bs ps bs.length
  · rw [if_pos (by simp [hT, hF])]
    cases e : forcedF (bs.map some) ps with
    | none => rfl
    | some v =>
      have := (key v).mp e
      have h1 := this _ hT
      have h2 := this _ hF
      rw [← h1] at h2; cases h2
  all_goals
    rw [if_neg (by simp [hT, hF])]
    cases hs : shownL bs ps bs.length with
    | nil => rw [hs] at hne; cases hne
    | cons v r =>
      rw [List.head?_cons]
      rw [key v]
      intro u hu
      have hv : v ∈ shownL bs ps bs.length := by rw [hs]; exact List.mem_cons_self ..
      cases u <;> cases v <;> first | rfl | exact absurd hu hF | exact absurd hu hT | exact absurd hv hF | exact absurd hv hT
end G
namespace G
open PySem PySem.Spec PyProof.Rows L2
def topS (i : Nat) : Stmt := PySem.Challenge.pw_signoff_k12_what_is_forced.main.body.getD i (.Pass ⟨0, 0, 0, 0⟩)
abbrev s_forced : Stmt := topS 1
abbrev s_without_input : Stmt := topS 2
abbrev s_law_pool : Stmt := topS 4
abbrev s_law_spread : Stmt := topS 5
abbrev s_law_draw : Stmt := topS 6
abbrev s_law_same : Stmt := topS 7
abbrev s_law_bits : Stmt := topS 8
abbrev s_law_table : Stmt := topS 9
abbrev s_law_due : Stmt := topS 10
abbrev s_law : Stmt := topS 11
end G
namespace G
open PySem PySem.Spec PyProof.Rows L2 Evl
structure TxtL (mg : Str → Option Value) : Prop where
  int : mg "int" = none
  len : mg "len" = none
  list : mg "list" = none
  range : mg "range" = none
section
variable {P : Program} {w : World} {K : PySem.W.Frag} {mg : Str → Option Value} {base : Heap}
def spSpread : Sp := fun vs H Q _ => ∃ (c : Int), vs = [.int c] ∧ ∀ v : Int, Q (.int v) H
theorem sc_law_spread : FnScope ["cell", "mixed", "total", "k"] ["cell"] (defScope s_law_spread) := ⟨rfl, rfl, rfl, by decide +kernel, rfl, by decide +kernel, by decide +kernel⟩
theorem ok_law_spread (D : Dfd K mg "_law_spread" s_law_spread ["cell"]) (T : TxtL mg) : Has P w K mg base 1 "_law_spread" ["cell"] spSpread := by
  refine D.has fun f fd F => F.ok sc_law_spread (fun vs H Q E h => ?_) (fun cdv A outer s H vs Q E hr h => ?_)
  · obtain ⟨c, rfl, _⟩ := h
    rfl
  · obtain ⟨c, rfl, q⟩ := h
    refine ⟨_, (pss_cons (ps_set (i := 1) sc_law_spread.nd rfl (.inl rfl) (pe_op op_mod (pe_callTy call_int1 (by rfl) T.int (by decide +kernel) (pa_cons (pv 0) pa_nil)) pe_int))
      (pss_cons (ps_set (i := 2) sc_law_spread.nd rfl (.inl rfl) pe_int)
      (pss_cons (ps_for PassesOwn.never rfl (pi_range1 rfl T.range (pa_cons pe_int pa_nil)) (pg_name (i := 3) sc_law_spread.nd rfl (.inl rfl))
        (pss_cons (ps_set (i := 1) sc_law_spread.nd rfl (.inl rfl) (pe_op op_mod (pe_callTy call_int1 (by rfl) T.int (by decide +kernel) (pa_cons (pe_op op_add (pe_op op_add (pe_op op_mul (pv 1) pe_int) pe_int) (pv 3)) pa_nil)) pe_int))
        (pss_one (ps_set (i := 2) sc_law_spread.nd rfl (.inl rfl) (pe_op op_add (pe_op op_mul (pv 2) pe_int) (pv 1))))))
      (pss_one (ps_ret (pv 2)))))), ?_⟩
    refine ⟨_, rfl, .inl ⟨_, rfl, _, _, rfl, rfl, (by show (0 : Int) < 2147483647; decide), 4, rfl, by decide, by decide, for_range (n := 4) (fun _ σ H' => H' = H ∧ ∃ (x y : Int) (z : Option V), σ = [some (.int c), some (.int x), some (.int y), z]) ⟨rfl, _, _, _, rfl⟩ ?_ ?_⟩⟩
    · rintro i σ H' hi ⟨rfl, x, y, z, rfl⟩
      refine ⟨_, rfl, _, _, rfl, rfl, .inr ⟨by decide, by decide⟩, _, _, rfl, rfl, _, rfl, _, _, rfl, rfl, .inl ⟨_, rfl, _, _, rfl, rfl, (by show (0 : Int) < 2147483647; decide), _, rfl, _, _, rfl, rfl, .inr ⟨by decide, by decide⟩, _, rfl, _, _, rfl, rfl, rfl, _, _, _, rfl⟩⟩
    · rintro σ H' ⟨rfl, x, y, z, rfl⟩
      exact ⟨_, rfl, q y⟩
/-- a draw below n -/
def spDraw : Sp := fun vs H Q _ => ∃ (p a : Addr) (n : Int), vs = [.ref p, .int n] ∧ 0 < n ∧ n.natAbs.log2 < 9000 ∧ PoolOk p a H ∧ ∀ (v : Int) (o : HO), 0 ≤ v → v < n → PoolOk p a (upd H p o) → Q (.int v) (upd H p o)
theorem sc_law_draw : FnScope ["pool", "many", "cell", "mixed", "value"] ["pool", "many"] (defScope s_law_draw) := ⟨rfl, rfl, rfl, by decide +kernel, rfl, by decide +kernel, by decide +kernel⟩
theorem ok_law_draw (D : Dfd K mg "_law_draw" s_law_draw ["pool", "many"]) (T : TxtL mg) (C : Has P w K mg base 1 "_law_spread" ["cell"] spSpread) : Has P w K mg base 2 "_law_draw" ["pool", "many"] spDraw := by
  obtain ⟨f_law_spread, d_law_spread, G_law_spread, g_law_spread, k_law_spread, b_law_spread⟩ := C
  refine D.has fun f fd F => F.ok sc_law_draw (fun vs H Q E h => ?_) (fun cdv A outer s H vs Q E hr h => ?_)
  · obtain ⟨p, a, n, rfl, _⟩ := h
    rfl
  · obtain ⟨p, a, n, rfl, n0, n9, hp, q⟩ := h
    refine ⟨_, (pss_cut (ps_if (PW.pt (pw_and (pt_cmpR op_le (pe_ix ix_list (pv 0) pe_int (fun _ _ => rfl)) pe_int (nomark _)) (pw_and1 (pt_cmpR op_lt (pe_ix ix_list (pv 0) pe_int (fun _ _ => rfl)) (pe_callB call_len_seq (by rfl) T.len (by decide +kernel) (pa_cons (pe_ix ix_list (pv 0) pe_int (fun _ _ => rfl)) pa_nil)) (nomark _)))))
      (pss_cons (ps_set (i := 2) sc_law_draw.nd rfl (.inl rfl) (pe_ix ix_list (pe_ix ix_list (pv 0) pe_int (fun _ _ => rfl)) (pe_ix ix_list (pv 0) pe_int (fun _ _ => rfl)) (fun _ _ => rfl)))
      (pss_cons (ps_asg (pe_op op_add (pe_ix ix_list (pv 0) pe_int (fun _ _ => rfl)) pe_int) (pg_sub (pv 0) pe_int set_list))
      (pss_cons (ps_asg (pv 2) (pg_sub (pv 0) pe_int set_list))
      (pss_one (ps_if (pt_cmpR op_lt (pv 2) pe_int (nomark _))
        (pss_one (ps_asg (pe_call G_law_spread hr (by rfl) g_law_spread k_law_spread b_law_spread .nil pass0 (pa_cons (pv 2) pa_nil)) (pg_sub (pv 0) pe_int set_list)))
        pss_nil)))))
      pss_nil)
    (pss_cons (ps_asg (pe_op op_add (pe_ix ix_list (pv 0) pe_int (fun _ _ => rfl)) pe_int) (pg_sub (pv 0) pe_int set_list))
    (pss_cons (ps_if (pt_cmpR op_le (pe_ix ix_list (pv 0) pe_int (fun _ _ => rfl)) pe_int (nomark _))
      (pss_cons (ps_set (i := 3) sc_law_draw.nd rfl (.inl rfl) (pe_op op_mod (pe_callTy call_int1 (by rfl) T.int (by decide +kernel) (pa_cons (pe_op op_add (pe_op op_add (pe_op op_mul (pe_ix ix_list (pv 0) pe_int (fun _ _ => rfl)) pe_int) (pe_op op_mul (pe_ix ix_list (pv 0) pe_int (fun _ _ => rfl)) pe_int)) pe_int) pa_nil)) pe_int))
      (pss_cons (ps_set (i := 3) sc_law_draw.nd rfl (.inl rfl) (pe_op op_mod (pe_callTy call_int1 (by rfl) T.int (by decide +kernel) (pa_cons (pe_op op_add (pe_op op_mul (pv 3) pe_int) (pe_ix ix_list (pv 0) pe_int (fun _ _ => rfl))) pa_nil)) pe_int))
      (pss_one (ps_ret (pe_op op_mod (pe_op op_fdiv (pv 3) pe_int) (pv 1))))))
      pss_nil)
    (pss_cons (ps_set (i := 4) sc_law_draw.nd rfl (.inl rfl) (pe_op op_mod (pe_callTy call_int1 (by rfl) T.int (by decide +kernel) (pa_cons (pe_ix ix_list (pv 0) pe_int (fun _ _ => rfl)) pa_nil)) (pv 1)))
    (pss_cons (ps_asg (pe_op op_fdivW (pe_ix ix_list (pv 0) pe_int (fun _ _ => rfl)) (pv 1)) (pg_sub (pv 0) pe_int set_list))
    (pss_one (ps_ret (pv 4)))))))), ?_⟩
    obtain ⟨ns, i, c, k, s5, hl, ha, hn⟩ := hp
    have hap : a ≠ p := hid_neq ha
    have haH := hid_get ha
    -- the pool as it stands after writes
    have pk : ∀ (i' : Nat) (c' k' s' : Int), PoolOk p a (upd H p (.lst [.ref a, .int i', .int c', .int k', .int s'])) := fun i' c' k' s' =>
      ⟨ns, i', c', k', s', upd_same, by rw [hid_upd]; exact ha, hn⟩
    refine ⟨fun σ H' => ∃ (i' : Nat) (c' k' s' : Int) (o1 : Option V), σ = [some (.ref p), some (.int n), o1, none, none] ∧ H' p = some (.lst [.ref a, .int i', .int c', .int k', .int s']) ∧ (∀ o, upd H' p o = upd H p o), ?_, ?_⟩
    · refine ⟨_, rfl, _, _, _, _, rfl, rfl, SqL.of hl, atI_nat (j := 2) rfl, _, _, rfl, rfl, _, rfl, ite2 (fun e1 => ?_) (fun e1 => ?_)⟩
      · refine ⟨_, rfl, _, _, _, _, rfl, rfl, SqL.of hl, atI_nat (j := 1) rfl, _, rfl, _, _, _, _, rfl, rfl, SqL.of hl, atI_nat (j := 0) rfl, _, _, rfl, .inl (SqL.of haH), _, _, rfl, rfl, _, rfl, ite2 (fun e2 => ?_) (fun e2 => ?_)⟩
        · have hi : i < (ns.map V.int).length := by have := of_decide_eq_true e2; omega
          have hi' : i < ns.length := by rw [List.length_map] at hi; exact hi
          have gi : (ns.map V.int)[i]? = some (.int ns[i]) := by rw [List.getElem?_map, List.getElem?_eq_getElem hi']; rfl
          refine ⟨_, rfl, _, _, _, _, rfl, rfl, SqL.of hl, atI_nat (j := 0) rfl, _, rfl, _, _, _, _, rfl, rfl, SqL.of hl, atI_nat (j := 1) rfl, _, _, _, _, rfl, rfl, SqL.of haH, atI_nat gi, ?_⟩
          refine ⟨_, rfl, _, _, _, _, rfl, rfl, SqL.of hl, atI_nat (j := 1) rfl, _, _, rfl, rfl, _, rfl, _, _, _, 1, rfl, rfl, hl, rfl, ?_⟩
          refine ⟨_, rfl, _, rfl, _, _, _, 2, rfl, rfl, upd_same, rfl, ?_⟩
          refine ⟨_, rfl, _, _, rfl, rfl, _, rfl, ite2 (fun e3 => ?_) (fun e3 => ?_)⟩
          · refine ⟨_, rfl, _, rfl, fun v => ⟨_, rfl, _, _, _, 2, rfl, rfl, upd_same, rfl, ?_⟩⟩
            exact ⟨i + 1, v, k, s5, _, rfl, upd_same, fun o => by rw [upd_upd, upd_upd, upd_upd]⟩
          · exact ⟨i + 1, ns[i], k, s5, _, rfl, upd_same, fun o => by rw [upd_upd, upd_upd]⟩
        · exact ⟨i, c, k, s5, _, rfl, hl, fun _ => rfl⟩
      · exact iteF ⟨i, c, k, s5, _, rfl, hl, fun _ => rfl⟩
    · rintro σ H' ⟨i, c, k, s5, o1, rfl, hl', hu⟩
      refine ⟨_, rfl, _, _, _, _, rfl, rfl, SqL.of hl', atI_nat (j := 3) rfl, _, _, rfl, rfl, _, rfl, _, _, _, 3, rfl, rfl, hl', rfl, ?_⟩
      refine ⟨_, rfl, _, _, _, _, rfl, rfl, SqL.of upd_same, atI_nat (j := 2) rfl, _, _, rfl, rfl, _, rfl, ite2 (fun e1 => ?_) (fun e1 => ?_)⟩
      · refine ⟨_, rfl, _, _, _, _, rfl, rfl, SqL.of upd_same, atI_nat (j := 4) rfl, _, _, rfl, rfl, .inr ⟨by decide, by decide⟩, _, rfl, _, _, _, _, rfl, rfl, SqL.of upd_same, atI_nat (j := 3) rfl, _, _, rfl, rfl, .inr ⟨by decide, by decide⟩, _, _, rfl, rfl, _, _, rfl, rfl, .inl ⟨_, rfl, _, _, rfl, rfl, (by show (0 : Int) < 2147483647; decide), ?_⟩⟩
        refine ⟨_, rfl, _, _, rfl, rfl, .inr ⟨by decide, by decide⟩, _, rfl, _, _, _, _, rfl, rfl, SqL.of upd_same, atI_nat (j := 3) rfl, _, _, rfl, rfl, .inl ⟨_, rfl, _, _, rfl, rfl, (by show (0 : Int) < 2147483629; decide), ?_⟩⟩
        refine ⟨_, rfl, _, _, rfl, rfl, ⟨by decide, by decide⟩, _, rfl, _, _, rfl, rfl, n0, ?_⟩
        show Q _ _
        rw [hu]
        exact q _ _ (Int.emod_nonneg _ (by omega)) (Int.emod_lt_of_pos _ n0) (pk i c (k + 1) s5)
      · refine ⟨_, rfl, _, _, _, _, rfl, rfl, SqL.of upd_same, atI_nat (j := 2) rfl, .inl ⟨_, rfl, _, rfl, _, _, rfl, rfl, n0, ?_⟩⟩
        refine ⟨_, rfl, _, _, _, _, rfl, rfl, SqL.of upd_same, atI_nat (j := 2) rfl, _, rfl, _, _, rfl, rfl, ⟨n0, n9⟩, _, rfl, _, _, _, 2, rfl, rfl, upd_same, rfl, _, rfl, ?_⟩
        show Q _ _
        rw [upd_upd, hu]
        exact q _ _ (Int.emod_nonneg _ (by omega)) (Int.emod_lt_of_pos _ n0) (pk i (c / n) (k + 1) s5)
/-- the same, the heap behind it a letter -/
def spDrawX : Sp := fun vs H Q _ => ∃ (p a : Addr) (n : Int), vs = [.ref p, .int n] ∧ 0 < n ∧ n ≤ 2 ^ 70 ∧ PoolOk p a H ∧ ∀ (v : Nat) (H' : Hp), (v : Int) < n → Px p a H H' → (∀ b, b ≠ p → H' b = H b) → Q (.int v) H'
theorem log2_small {n : Int} (h0 : 0 < n) (h : n ≤ 2 ^ 70) : n.natAbs.log2 < 9000 := by
  have h1 : n.natAbs < 2 ^ 71 := by omega
  have := PySem.Flt.log2_lt_of (by decide : 0 < 71) h1
  omega
theorem drawX (C : Has P w K mg base 2 "_law_draw" ["pool", "many"] spDraw) : Has P w K mg base 2 "_law_draw" ["pool", "many"] spDrawX :=
  C.imp fun vs H Q E h => by
    obtain ⟨p, a, n, rfl, h0, h1, hp, q⟩ := h
    refine ⟨p, a, n, rfl, h0, log2_small h0 h1, hp, fun v o v0 v1 hq => ?_⟩
    have e : v = ((v.toNat : Nat) : Int) := by omega
    rw [e]
    exact q v.toNat _ (by omega) (Px.draw hp hq) fun b hb => upd_ne hb
end
end G
namespace G
open PySem PySem.Spec PyProof.Rows L2 Evl
section
variable {P : Program} {w : World} {K : PySem.W.Frag} {mg : Str → Option Value} {base : Heap}
theorem cutV_mem {xs : List V} {lo hi : Option Int} {i : Nat} {x : V} (h : (cutV xs lo hi)[i]? = some x) : x ∈ xs := by
  unfold cutV at h
  exact List.mem_of_mem_drop (List.mem_of_mem_take (List.mem_of_getElem? h))
theorem int_of {ns : List Int} {x : V} (h : x ∈ ns.map V.int) : ∃ z, x = .int z := by
  obtain ⟨z, _, e⟩ := List.mem_map.mp h
  exact ⟨z, e.symm⟩
def spPool (K : PySem.W.Frag) : Sp := fun vs H Q _ => ∃ (s : Addr) (ns : List Int), vs = [.ref s] ∧ SqL K H s (ns.map V.int) ∧ ns.length ≤ 1000 ∧ ∀ (p a : Addr) (H' : Hp), PoolOk p a H' → Ex H H' → H p = none → Q (.ref p) H'
theorem sc_law_pool : FnScope ["script", "salt", "cell"] ["script"] (defScope s_law_pool) := ⟨rfl, rfl, rfl, by decide +kernel, rfl, by decide +kernel, by decide +kernel⟩
theorem ok_law_pool (D : Dfd K mg "_law_pool" s_law_pool ["script"]) (T : TxtL mg) : Has P w K mg base 1 "_law_pool" ["script"] (spPool K) := by
  refine D.has fun f fd F => F.ok sc_law_pool (fun vs H Q E h => ?_) (fun cdv A outer s H vs Q E hr h => ?_)
  · obtain ⟨c, _, rfl, _⟩ := h
    rfl
  · obtain ⟨sa, ns, rfl, hs, hn, q⟩ := h
    refine ⟨_, (pss_cons (ps_set (i := 1) sc_law_pool.nd rfl (.inl rfl) pe_int)
      (pss_cons (ps_for PassesOwn.never rfl (pi_list (pe_slice sl_list (pv 0) po_none (po_some pe_int))) (pg_name (i := 2) sc_law_pool.nd rfl (.inl rfl))
        (pss_one (ps_set (i := 1) sc_law_pool.nd rfl (.inl rfl) (pe_op op_mod (pe_callTy call_int1 (by rfl) T.int (by decide +kernel) (pa_cons (pe_op op_add (pe_op op_mul (pv 1) pe_int) (pv 2)) pa_nil)) pe_int))))
      (pss_one (ps_ret (pe_lst (pa_cons (pe_callTy call_list_of (by rfl) T.list (by decide +kernel) (pa_cons (pv 0) pa_nil)) (pa_cons pe_int (pa_cons pe_int (pa_cons pe_int (pa_cons (pv 1) pa_nil)))))))))), ?_⟩
    refine ⟨_, rfl, _, rfl, sa, _, rfl, hs, fun c nc => ⟨c, rfl, ⟨_, SqL.of upd_same⟩, for_list (K := K) (a := c) (xs := cutV (ns.map V.int) none (some 63)) (fun _ σ H' => H' = upd H c (.lst (cutV (ns.map V.int) none (some 63))) ∧ ∃ (x : Int) (z : Option V), σ = [some (.ref sa), some (.int x), z]) ⟨rfl, _, _, rfl⟩ ?_ ?_ ?_⟩⟩
    · rintro i σ H' _ ⟨rfl, _⟩
      exact SqL.of upd_same
    · rintro i x σ H' hi ⟨rfl, y, z, rfl⟩
      obtain ⟨m, rfl⟩ := int_of (cutV_mem hi)
      exact ⟨_, rfl, _, _, rfl, rfl, .inr ⟨by decide, by decide⟩, _, rfl, _, _, rfl, rfl, .inl ⟨_, rfl, _, _, rfl, rfl, (by show (0 : Int) < 1000003; decide), rfl, _, _, rfl⟩⟩
    · rintro σ H' ⟨rfl, y, z, rfl⟩
      have e1 : Ex H (upd H c (.lst (cutV (ns.map V.int) none (some 63)))) := Ex.new nc
      refine ⟨_, rfl, _, _, rfl, .inl (ex_l e1 hs), fun l nl => ⟨_, rfl, (by show 5 ≤ sizeLine; decide), fun p np => ?_⟩⟩
      have e2 := e1.trans (Ex.new (o := .lst (ns.map V.int)) nl)
      have npl : l ≠ p := ne_of_none upd_same np
      exact q p l _ ⟨ns, 0, 0, 0, y, upd_same, by rw [hid_ne npl, upd_ne npl]; exact upd_same, hn⟩ (e2.trans (Ex.new np)) (fresh_back e2 np)
end
end G
namespace G
open PySem PySem.Spec PyProof.Rows L2 Evl
/-! ## data -/
inductive D where
  | non | bl (b : Bool) | int (i : Int) | str (s : Str) | tup (l : List D) | lst (l : List D)
def okD : Nat → D → Prop
  | 0, .tup _ => False
  | 0, .lst _ => False
  | n + 1, .tup l => l.length < 2 ^ 61 ∧ ∀ d ∈ l, okD n d
  | n + 1, .lst l => l.length < 2 ^ 61 ∧ ∀ d ∈ l, okD n d
  | _, _ => True
inductive Rep (H : Hp) : V → D → Prop where
  | non : Rep H .non .non
  | bl (b : Bool) : Rep H (.bl b) (.bl b)
  | int (i : Int) : Rep H (.int i) (.int i)
  | str (s : Str) : Rep H (.str s) (.str s)
  | tup {a : Addr} {xs : List V} {ds : List D} (h : H a = some (.tup xs)) (hl : xs.length = ds.length) (hr : ∀ (i : Nat) (x : V) (d : D), xs[i]? = some x → ds[i]? = some d → Rep H x d) : Rep H (.ref a) (.tup ds)
  | lst {a : Addr} {xs : List V} {ds : List D} (h : H a = some (.lst xs)) (hl : xs.length = ds.length) (hr : ∀ (i : Nat) (x : V) (d : D), xs[i]? = some x → ds[i]? = some d → Rep H x d) : Rep H (.ref a) (.lst ds)
theorem Rep.ex {H H' : Hp} (e : Ex H H') {x : V} {d : D} (r : Rep H x d) : Rep H' x d := by
  induction r with
  | non => exact .non
  | bl b => exact .bl b
  | int i => exact .int i
  | str s => exact .str s
  | tup h hl _ ih => exact .tup (e _ _ h) hl ih
  | lst h hl _ ih => exact .lst (e _ _ h) hl ih
theorem okD.mono : ∀ {n m : Nat} {d : D}, n ≤ m → okD n d → okD m d
  | 0, 0, d, _, h => h
  | 0, m + 1, .non, _, _ => trivial
  | 0, m + 1, .bl _, _, _ => trivial
  | 0, m + 1, .int _, _, _ => trivial
  | 0, m + 1, .str _, _, _ => trivial
  | 0, m + 1, .tup _, _, h => h.elim
  | 0, m + 1, .lst _, _, h => h.elim
  | n + 1, m + 1, .non, _, _ => trivial
  | n + 1, m + 1, .bl _, _, _ => trivial
  | n + 1, m + 1, .int _, _, _ => trivial
  | n + 1, m + 1, .str _, _, _ => trivial
  | n + 1, m + 1, .tup l, le, h => ⟨h.1, fun d hd => okD.mono (Nat.le_of_succ_le_succ le) (h.2 d hd)⟩
  | n + 1, m + 1, .lst l, le, h => ⟨h.1, fun d hd => okD.mono (Nat.le_of_succ_le_succ le) (h.2 d hd)⟩
structure TxtS (mg : Str → Option Value) : Prop where
  isinstance : mg "isinstance" = none
  tuple : mg "tuple" = none
  list : mg "list" = none
  len : mg "len" = none
  range : mg "range" = none
  bool : mg "bool" = none
  int : mg "int" = none
  str : mg "str" = none
section
variable {P : Program} {w : World} {K : PySem.W.Frag} {mg : Str → Option Value} {base : Heap}
/-- equal data: the answer is True -/
def spSame : Nat → Sp
  | 0 => fun _ _ _ _ => False
  | n + 1 => fun vs H Q _ => ∃ (x y : V) (d : D), vs = [x, y] ∧ Rep H x d ∧ Rep H y d ∧ okD n d ∧ Q (.bl true) H
theorem sc_law_same : FnScope ["actual", "due", "k"] ["actual", "due"] (defScope s_law_same) := ⟨rfl, rfl, rfl, by decide +kernel, rfl, by decide +kernel, by decide +kernel⟩
theorem fn_law_same {f : Addr} {fd : FuncData} (F : Fun K "_law_same" "_law_same" s_law_same f fd) (g_law_same : mg "_law_same" = some (.ref f)) (b_law_same : Binds K fd ["actual", "due"] []) (T : TxtS mg) : ∀ n, FnOk P w K mg base CX0 n f fd ["actual", "due"] (spSame n)
  | 0 => ⟨fun _ _ _ _ h => h.elim, fun _ _ _ _ _ _ _ _ _ _ _ _ _ h => h.elim⟩
  | n + 1 => by
    have G_law_same := fn_law_same F g_law_same b_law_same T n
    have k_law_same := F.kp
    refine F.ok sc_law_same (fun vs H Q E h => ?_) (fun cdv A outer s H vs Q E hr h => ?_)
    · obtain ⟨x, y, d, rfl, _⟩ := h
      rfl
    · obtain ⟨x, y, d, rfl, rx, ry, hd, q⟩ := h
      refine ⟨_, (pss_cons (ps_if (PW.pt (pw_or (pt_val (pe_callB call_isi (by rfl) T.isinstance (by decide +kernel) (pa_cons (pv 1) (pa_cons (pe_bltn (v := .ty "tuple") (by rfl) T.tuple (by decide +kernel) rfl) pa_nil)))) (pw_or1 (pt_val (pe_callB call_isi (by rfl) T.isinstance (by decide +kernel) (pa_cons (pv 1) (pa_cons (pe_bltn (v := .ty "list") (by rfl) T.list (by decide +kernel) rfl) pa_nil)))))))
      (pss_cons (ps_if (PW.pt (pw_or (pt_cmpR op_ne (pe_callB call_isi (by rfl) T.isinstance (by decide +kernel) (pa_cons (pv 1) (pa_cons (pe_bltn (v := .ty "tuple") (by rfl) T.tuple (by decide +kernel) rfl) pa_nil))) (pe_callB call_isi (by rfl) T.isinstance (by decide +kernel) (pa_cons (pv 0) (pa_cons (pe_bltn (v := .ty "tuple") (by rfl) T.tuple (by decide +kernel) rfl) pa_nil))) (nomark _)) (pw_or1 (pt_cmpR op_ne (pe_callB call_isi (by rfl) T.isinstance (by decide +kernel) (pa_cons (pv 1) (pa_cons (pe_bltn (v := .ty "list") (by rfl) T.list (by decide +kernel) rfl) pa_nil))) (pe_callB call_isi (by rfl) T.isinstance (by decide +kernel) (pa_cons (pv 0) (pa_cons (pe_bltn (v := .ty "list") (by rfl) T.list (by decide +kernel) rfl) pa_nil))) (nomark _)))))
        (pss_one (ps_ret pe_bl))
        pss_nil)
      (pss_cons (ps_if (pt_cmpR op_ne (pe_callB call_len_seq (by rfl) T.len (by decide +kernel) (pa_cons (pv 0) pa_nil)) (pe_callB call_len_seq (by rfl) T.len (by decide +kernel) (pa_cons (pv 1) pa_nil)) (nomark _))
        (pss_one (ps_ret pe_bl))
        pss_nil)
      (pss_cons (ps_for PassesOwn.never rfl (pi_range1 rfl T.range (pa_cons (pe_callB call_len_seq (by rfl) T.len (by decide +kernel) (pa_cons (pv 1) pa_nil)) pa_nil)) (pg_name (i := 2) sc_law_same.nd rfl (.inl rfl))
        (pss_one (ps_if (pt_not (pt_val (pe_call G_law_same hr (by rfl) g_law_same k_law_same b_law_same .nil pass0 (pa_cons (pe_ix ix_seq (pv 0) (pv 2) (fun _ _ => rfl)) (pa_cons (pe_ix ix_seq (pv 1) (pv 2) (fun _ _ => rfl)) pa_nil)))))
          (pss_one (ps_ret pe_bl))
          pss_nil)))
      (pss_one (ps_ret pe_bl)))))
      pss_nil)
    (pss_cons (ps_if (pt_cmpR op_isN (pv 1) pe_non (nomark _))
      (pss_one (ps_ret (pe_cmpR op_isN (pv 0) pe_non (nomark _))))
      pss_nil)
    (pss_cons (ps_if (pt_val (pe_callB call_isi (by rfl) T.isinstance (by decide +kernel) (pa_cons (pv 1) (pa_cons (pe_bltn (v := .ty "bool") (by rfl) T.bool (by decide +kernel) rfl) pa_nil))))
      (pss_one (ps_ret (pe_and (pe_callB call_isi (by rfl) T.isinstance (by decide +kernel) (pa_cons (pv 0) (pa_cons (pe_bltn (v := .ty "bool") (by rfl) T.bool (by decide +kernel) rfl) pa_nil))) (pe_one (pe_cmpR op_eq (pv 0) (pv 1) (nomark _))))))
      pss_nil)
    (pss_cons (ps_if (pt_val (pe_callB call_isi (by rfl) T.isinstance (by decide +kernel) (pa_cons (pv 1) (pa_cons (pe_bltn (v := .ty "int") (by rfl) T.int (by decide +kernel) rfl) pa_nil))))
      (pss_one (ps_ret (pe_and (pe_callB call_isi (by rfl) T.isinstance (by decide +kernel) (pa_cons (pv 0) (pa_cons (pe_bltn (v := .ty "int") (by rfl) T.int (by decide +kernel) rfl) pa_nil))) (pe_and (pe_not (pe_callB call_isi (by rfl) T.isinstance (by decide +kernel) (pa_cons (pv 0) (pa_cons (pe_bltn (v := .ty "bool") (by rfl) T.bool (by decide +kernel) rfl) pa_nil)))) (pe_one (pe_cmpR op_eq (pv 0) (pv 1) (nomark _)))))))
      pss_nil)
    (pss_one (ps_ret (pe_and (pe_callB call_isi (by rfl) T.isinstance (by decide +kernel) (pa_cons (pv 0) (pa_cons (pe_bltn (v := .ty "str") (by rfl) T.str (by decide +kernel) rfl) pa_nil))) (pe_one (pe_cmpR op_eq (pv 0) (pv 1) (nomark _)))))))))), ?_⟩
      cases rx with
      | non =>
        cases ry
        refine ⟨_, rfl, _, _, _, _, _, rfl, .ty "tuple", .base .non, kit_ty (a := "NoneType") (r := false) (by decide +kernel), _, rfl, iteF ⟨_, rfl, _, _, _, _, _, rfl, .ty "list", .base .non, kit_ty (a := "NoneType") (r := false) (by decide +kernel), _, rfl, iteF ⟨_, rfl, rfl, _, rfl, iteT ⟨_, rfl, rfl, ?_⟩⟩⟩⟩
        exact q
      | bl b =>
        cases ry
        refine ⟨_, rfl, _, _, _, _, _, rfl, .ty "tuple", .base (.bl _), kit_ty (a := "bool") (r := false) (by decide +kernel), _, rfl, iteF ⟨_, rfl, _, _, _, _, _, rfl, .ty "list", .base (.bl _), kit_ty (a := "bool") (r := false) (by decide +kernel), _, rfl, iteF ⟨_, rfl, rfl, _, rfl, iteF ⟨_, rfl, _, _, _, _, _, rfl, .ty "bool", .base (.bl _), kit_ty (a := "bool") (r := true) (by decide +kernel), _, rfl, iteT ⟨_, rfl, _, _, _, _, _, rfl, .ty "bool", .base (.bl _), kit_ty (a := "bool") (r := true) (by decide +kernel), _, rfl, iteT ⟨_, rfl, _, rfl, rfl, ?_⟩⟩⟩⟩⟩⟩
        rw [decide_eq_true rfl]
        exact q
      | int b =>
        cases ry
        refine ⟨_, rfl, _, _, _, _, _, rfl, .ty "tuple", .base (.int _), kit_ty (a := "int") (r := false) (by decide +kernel), _, rfl, iteF ⟨_, rfl, _, _, _, _, _, rfl, .ty "list", .base (.int _), kit_ty (a := "int") (r := false) (by decide +kernel), _, rfl, iteF ⟨_, rfl, rfl, _, rfl, iteF ⟨_, rfl, _, _, _, _, _, rfl, .ty "bool", .base (.int _), kit_ty (a := "int") (r := false) (by decide +kernel), _, rfl, iteF ⟨_, rfl, _, _, _, _, _, rfl, .ty "int", .base (.int _), kit_ty (a := "int") (r := true) (by decide +kernel), _, rfl, iteT ⟨_, rfl, _, _, _, _, _, rfl, .ty "int", .base (.int _), kit_ty (a := "int") (r := true) (by decide +kernel), _, rfl, iteT ⟨_, rfl, _, _, _, _, _, rfl, .ty "bool", .base (.int _), kit_ty (a := "int") (r := false) (by decide +kernel), _, rfl, _, rfl, iteT ⟨_, rfl, _, rfl, rfl, ?_⟩⟩⟩⟩⟩⟩⟩⟩
        rw [decide_eq_true rfl]
        exact q
      | str b =>
        cases ry
        refine ⟨_, rfl, _, _, _, _, _, rfl, .ty "tuple", .base (.str _), kit_ty (a := "str") (r := false) (by decide +kernel), _, rfl, iteF ⟨_, rfl, _, _, _, _, _, rfl, .ty "list", .base (.str _), kit_ty (a := "str") (r := false) (by decide +kernel), _, rfl, iteF ⟨_, rfl, rfl, _, rfl, iteF ⟨_, rfl, _, _, _, _, _, rfl, .ty "bool", .base (.str _), kit_ty (a := "str") (r := false) (by decide +kernel), _, rfl, iteF ⟨_, rfl, _, _, _, _, _, rfl, .ty "int", .base (.str _), kit_ty (a := "str") (r := false) (by decide +kernel), _, rfl, iteF ⟨_, rfl, _, _, _, _, _, rfl, .ty "str", .base (.str _), kit_ty (a := "str") (r := true) (by decide +kernel), _, rfl, iteT ⟨_, rfl, _, rfl, rfl, ?_⟩⟩⟩⟩⟩⟩⟩
        rw [decide_eq_true rfl]
        exact q
      | @tup a xs ds hx lx rx =>
        cases ry with
        | @tup b ys _ hy ly ry =>
          cases n with
          | zero => exact hd.elim
          | succ m =>
            obtain ⟨hlen, hall⟩ := hd
            refine ⟨_, rfl, _, _, _, _, _, rfl, .ty "tuple", .base (.tup hy), kit_ty (a := "tuple") (r := true) (by decide +kernel), _, rfl, iteT (iteT ⟨_, rfl, _, _, _, _, _, rfl, .ty "tuple", .base (.tup hy), kit_ty (a := "tuple") (r := true) (by decide +kernel), _, rfl, _, _, _, _, _, rfl, .ty "tuple", .base (.tup hx), kit_ty (a := "tuple") (r := true) (by decide +kernel), rfl, _, rfl, iteF ⟨_, rfl, _, _, _, _, _, rfl, .ty "list", .base (.tup hy), kit_ty (a := "tuple") (r := false) (by decide +kernel), _, rfl, _, _, _, _, _, rfl, .ty "list", .base (.tup hx), kit_ty (a := "tuple") (r := false) (by decide +kernel), rfl, _, rfl, iteF ⟨_, rfl, _, _, rfl, .inr (SqT.of hx), _, rfl, _, _, rfl, .inr (SqT.of hy), rfl, _, rfl, ?_⟩⟩⟩)⟩
            have el : decide (V.int (xs.length : Int) = V.int (ys.length : Int)) = true := decide_eq_true (by rw [lx, ly])
            rw [el]
            refine ⟨_, rfl, _, _, rfl, .inr (SqT.of hy), _, rfl, by omega, by omega, for_range (n := (ys.length : Int).toNat) (fun _ σ H' => H' = H ∧ ∃ z : Option V, σ = [some (.ref a), some (.ref b), z]) ⟨rfl, _, rfl⟩ ?_ ?_⟩
            · rintro i σ H' hi ⟨rfl, z, rfl⟩
              have hi' : i < ds.length := by omega
              have e0 : (0 : Int) + (i : Int) = (i : Int) := Int.zero_add _
              have g1 : xs[i]? = some xs[i] := List.getElem?_eq_getElem (by omega)
              have g2 : ys[i]? = some ys[i] := List.getElem?_eq_getElem (by omega)
              have g3 : ds[i]? = some ds[i] := List.getElem?_eq_getElem hi'
              rw [e0]
              refine ⟨_, rfl, _, rfl, .inr (.inl ⟨_, _, _, _, rfl, rfl, SqT.of hx, atI_nat g1, _, rfl, _, rfl, .inr (.inl ⟨_, _, _, _, rfl, rfl, SqT.of hy, atI_nat g2, ?_⟩)⟩)⟩
              exact ⟨_, _, ds[i], rfl, rx i _ _ g1 g3, ry i _ _ g2 g3, hall _ (List.getElem_mem hi'), _, rfl, rfl, _, rfl⟩
            · rintro σ H' ⟨rfl, z, rfl⟩
              exact q
      | @lst a xs ds hx lx rx =>
        cases ry with
        | @lst b ys _ hy ly ry =>
          cases n with
          | zero => exact hd.elim
          | succ m =>
            obtain ⟨hlen, hall⟩ := hd
            refine ⟨_, rfl, _, _, _, _, _, rfl, .ty "tuple", .base (.lst hy), kit_ty (a := "list") (r := false) (by decide +kernel), _, rfl, iteF ⟨_, rfl, _, _, _, _, _, rfl, .ty "list", .base (.lst hy), kit_ty (a := "list") (r := true) (by decide +kernel), _, rfl, iteT ⟨_, rfl, _, _, _, _, _, rfl, .ty "tuple", .base (.lst hy), kit_ty (a := "list") (r := false) (by decide +kernel), _, rfl, _, _, _, _, _, rfl, .ty "tuple", .base (.lst hx), kit_ty (a := "list") (r := false) (by decide +kernel), rfl, _, rfl, iteF ⟨_, rfl, _, _, _, _, _, rfl, .ty "list", .base (.lst hy), kit_ty (a := "list") (r := true) (by decide +kernel), _, rfl, _, _, _, _, _, rfl, .ty "list", .base (.lst hx), kit_ty (a := "list") (r := true) (by decide +kernel), rfl, _, rfl, iteF ⟨_, rfl, _, _, rfl, .inl (SqL.of hx), _, rfl, _, _, rfl, .inl (SqL.of hy), rfl, _, rfl, ?_⟩⟩⟩⟩⟩
            have el : decide (V.int (xs.length : Int) = V.int (ys.length : Int)) = true := decide_eq_true (by rw [lx, ly])
            rw [el]
            refine ⟨_, rfl, _, _, rfl, .inl (SqL.of hy), _, rfl, by omega, by omega, for_range (n := (ys.length : Int).toNat) (fun _ σ H' => H' = H ∧ ∃ z : Option V, σ = [some (.ref a), some (.ref b), z]) ⟨rfl, _, rfl⟩ ?_ ?_⟩
            · rintro i σ H' hi ⟨rfl, z, rfl⟩
              have hi' : i < ds.length := by omega
              have e0 : (0 : Int) + (i : Int) = (i : Int) := Int.zero_add _
              have g1 : xs[i]? = some xs[i] := List.getElem?_eq_getElem (by omega)
              have g2 : ys[i]? = some ys[i] := List.getElem?_eq_getElem (by omega)
              have g3 : ds[i]? = some ds[i] := List.getElem?_eq_getElem hi'
              rw [e0]
              refine ⟨_, rfl, _, rfl, .inl ⟨_, _, _, _, rfl, rfl, SqL.of hx, atI_nat g1, _, rfl, _, rfl, .inl ⟨_, _, _, _, rfl, rfl, SqL.of hy, atI_nat g2, ?_⟩⟩⟩
              exact ⟨_, _, ds[i], rfl, rx i _ _ g1 g3, ry i _ _ g2 g3, hall _ (List.getElem_mem hi'), _, rfl, rfl, _, rfl⟩
            · rintro σ H' ⟨rfl, z, rfl⟩
              exact q
theorem ok_law_same (D : Dfd K mg "_law_same" s_law_same ["actual", "due"]) (T : TxtS mg) (n : Nat) : Has P w K mg base n "_law_same" ["actual", "due"] (spSame n) := by
  obtain ⟨f, fd, F, g, b⟩ := D
  exact ⟨f, fd, fn_law_same F g b T n, g, F.kp, b⟩
end
/-! ## data made of flat lists -/
theorem rep_map {H : Hp} {α : Type} {f : α → V} {g : α → D} {l : List α} (h : ∀ x, Rep H (f x) (g x)) : (l.map f).length = (l.map g).length ∧ ∀ (i : Nat) (x : V) (d : D), (l.map f)[i]? = some x → (l.map g)[i]? = some d → Rep H x d := by
  refine ⟨by rw [List.length_map, List.length_map], fun i x d hx hd => ?_⟩
  rw [List.getElem?_map] at hx hd
  cases e : l[i]? with
  | none => rw [e] at hx; cases hx
  | some y =>
    rw [e] at hx hd
    have e1 : f y = x := Option.some.inj hx
    have e2 : g y = d := Option.some.inj hd
    rw [← e1, ← e2]
    exact h y
theorem rep_ints {H : Hp} {a : Addr} {l : List Int} (h : H a = some (.lst (l.map V.int))) : Rep H (.ref a) (.lst (l.map D.int)) :=
  let r := rep_map (H := H) (f := V.int) (g := D.int) (l := l) fun i => .int i
  .lst h r.1 r.2
theorem rep_bls {H : Hp} {a : Addr} {l : List Bool} (h : H a = some (.tup (l.map V.bl))) : Rep H (.ref a) (.tup (l.map D.bl)) :=
  let r := rep_map (H := H) (f := V.bl) (g := D.bl) (l := l) fun i => .bl i
  .tup h r.1 r.2
theorem okD_ints {l : List Int} (h : l.length < 2 ^ 61) : okD 1 (.lst (l.map D.int)) := ⟨by rw [List.length_map]; exact h, fun d hd => by obtain ⟨_, _, rfl⟩ := List.mem_map.mp hd; trivial⟩
end G
namespace G
open PySem PySem.Spec PyProof.Rows L2 Evl
def bitsOf (x m : Nat) : List Bool := (List.range m).map fun k => x.testBit k
theorem bitsOf_len (x m : Nat) : (bitsOf x m).length = m := by unfold bitsOf; rw [List.length_map, List.length_range]
theorem bitsOf_succ (x m : Nat) : bitsOf x (m + 1) = bitsOf x m ++ [x.testBit m] := by unfold bitsOf; rw [List.range_succ, List.map_append]; rfl
theorem bit_at (x i : Nat) : decide (V.int (((x / 2 ^ i : Nat) : Int) % 2) = V.int 1) = x.testBit i := by
  rw [Nat.testBit_eq_decide_div_mod_eq, Bool.eq_iff_iff, decide_eq_true_iff, decide_eq_true_iff, V.int.injEq]
  omega
theorem half_at (x i : Nat) : ((x / 2 ^ i : Nat) : Int) / 2 = ((x / 2 ^ (i + 1) : Nat) : Int) := by
  rw [Nat.pow_succ, ← Nat.div_div_eq_div_mul]
  omega
section
variable {P : Program} {w : World} {K : PySem.W.Frag} {mg : Str → Option Value} {base : Heap}
def spBits : Sp := fun vs H Q _ => ∃ (x m : Nat), vs = [.int x, .int m] ∧ m ≤ 1000 ∧ ∀ (t : Addr) (H' : Hp), H t = none → Ex H H' → H' t = some (.tup ((bitsOf x m).map V.bl)) → Q (.ref t) H'
theorem sc_law_bits : FnScope ["index", "many", "out", "k"] ["index", "many"] (defScope s_law_bits) := ⟨rfl, rfl, rfl, by decide +kernel, rfl, by decide +kernel, by decide +kernel⟩
theorem ok_law_bits (D : Dfd K mg "_law_bits" s_law_bits ["index", "many"]) (T : TxtS mg) : Has P w K mg base 1 "_law_bits" ["index", "many"] spBits := by
  refine D.has fun f fd F => F.ok sc_law_bits (fun vs H Q E h => ?_) (fun cdv A outer s H vs Q E hr h => ?_)
  · obtain ⟨c, _, rfl, _⟩ := h
    rfl
  · obtain ⟨x, m, rfl, hm, q⟩ := h
    refine ⟨_, (pss_cons (ps_set (i := 2) sc_law_bits.nd rfl (.inl rfl) (pe_lst pa_nil))
    (pss_cons (ps_for PassesOwn.never rfl (pi_range1 rfl T.range (pa_cons (pv 1) pa_nil)) (pg_name (i := 3) sc_law_bits.nd rfl (.inl rfl))
      (pss_cons (ps_expr (pe_bm PySem.F.plainAttrs_list PySem.F.slot_list_append PySem.F.type_list_append mt_append (pv 2) (pa_cons (pe_cmpR op_eq (pe_op op_mod (pe_callTy call_int1 (by rfl) T.int (by decide +kernel) (pa_cons (pv 0) pa_nil)) pe_int) pe_int (nomark _)) pa_nil)))
      (pss_one (ps_set (i := 0) sc_law_bits.nd rfl (.inl rfl) (pe_op op_fdiv (pv 0) pe_int)))))
    (pss_one (ps_ret (pe_callTy call_tuple_of (by rfl) T.tuple (by decide +kernel) (pa_cons (pv 2) pa_nil)))))), ?_⟩
    refine ⟨Nat.zero_le _, fun o no => ⟨_, rfl, _, rfl, by omega, by omega, for_range (n := ((m : Int)).toNat) (fun i σ H' => H' = upd H o (.lst ((bitsOf x i).map V.bl)) ∧ ∃ z : Option V, σ = [some (.int ((x / 2 ^ i : Nat) : Int)), some (.int m), some (.ref o), z]) ⟨rfl, _, by rw [Nat.pow_zero, Nat.div_one]; rfl⟩ ?_ ?_⟩⟩
    · rintro i σ H' hi ⟨rfl, z, rfl⟩
      refine ⟨_, rfl, .inl ⟨rfl, _, SqL.of upd_same⟩, _, rfl, .inl ⟨_, rfl, _, _, rfl, rfl, (by show (0 : Int) < 2; decide), rfl, o, _, _, rfl, rfl, upd_same, ?_, _, rfl, _, _, rfl, rfl, ⟨by decide, by decide⟩, ?_, some (.int (0 + (i : Int))), ?_⟩⟩
      · exact sz_lt (by rw [List.length_map, bitsOf_len]; omega)
      · rw [upd_upd, bit_at, bitsOf_succ, List.map_append]; rfl
      · rw [← half_at]; rfl
    · rintro σ H' ⟨rfl, z, rfl⟩
      refine ⟨_, rfl, _, _, rfl, .inl ⟨SqL.of upd_same, fun t nt => ?_⟩⟩
      have e1 : Ex H (upd H o (.lst ((bitsOf x ((m : Int)).toNat).map V.bl))) := Ex.new no
      exact q t _ (fresh_back e1 nt) (e1.trans (Ex.new nt)) upd_same
end
end G
namespace G
open PySem PySem.Spec PyProof.Rows L2 Evl
theorem pow7 : ∀ {m : Nat}, m ≤ 6 → ([.int 1, .int 2, .int 4, .int 8, .int 16, .int 32, .int 64] : List V)[m]? = some (.int ((2 ^ m : Nat) : Int))
  | 0, _ => rfl | 1, _ => rfl | 2, _ => rfl | 3, _ => rfl | 4, _ => rfl | 5, _ => rfl | 6, _ => rfl
  | n + 7, h => by omega
theorem pow6 : ∀ {m : Nat}, m ≤ 5 → ([.int 1, .int 2, .int 4, .int 8, .int 16, .int 32] : List V)[m]? = some (.int ((2 ^ m : Nat) : Int))
  | 0, _ => rfl | 1, _ => rfl | 2, _ => rfl | 3, _ => rfl | 4, _ => rfl | 5, _ => rfl
  | n + 6, h => by omega
theorem pow_le64 {m : Nat} (h : m ≤ 6) : 2 ^ m ≤ 64 := Nat.le_trans (Nat.pow_le_pow_right (by decide) h) (by decide)
theorem pow_pos2 (m : Nat) : 0 < 2 ^ m := Nat.pow_pos (by decide)
theorem divW_small {i : Int} {j : Nat} (h : 0 < j) (h9 : j ≤ 1000) : CDivW i (j : Int) := wide_div (b := 20) (by omega) (by
  rw [Int.natAbs_natCast]
  exact Nat.lt_of_le_of_lt h9 (by decide)) (by decide) (by decide)
section
variable {P : Program} {w : World} {K : PySem.W.Frag} {mg : Str → Option Value} {base : Heap}
/-- a table of m inputs -/
def spTable : Sp := fun vs H Q _ => ∃ (p a : Addr) (m : Nat), vs = [.ref p, .int m] ∧ m ≤ 6 ∧ PoolOk p a H ∧ ∀ (t : Addr) (bs : List Bool) (H' : Hp), bs.length = 2 ^ m → Px p a H H' → H t = none → H' t = some (.tup (bs.map V.bl)) → Q (.ref t) H'
theorem sc_law_table : FnScope ["pool", "many", "size", "kind", "value", "low", "place", "number", "bit", "k"] ["pool", "many"] (defScope s_law_table) := ⟨rfl, rfl, rfl, by decide +kernel, rfl, by decide +kernel, by decide +kernel⟩
theorem ok_law_table (D : Dfd K mg "_law_table" s_law_table ["pool", "many"]) (T : TxtS mg) (C : Has P w K mg base 2 "_law_draw" ["pool", "many"] spDrawX) (C2 : Has P w K mg base 1 "_law_bits" ["index", "many"] spBits) : Has P w K mg base 3 "_law_table" ["pool", "many"] spTable := by
  obtain ⟨f_law_draw, d_law_draw, G_law_draw, g_law_draw, k_law_draw, b_law_draw⟩ := C
  obtain ⟨f_law_bits, d_law_bits, G_law_bits, g_law_bits, k_law_bits, b_law_bits⟩ := C2
  refine D.has fun f fd F => F.ok sc_law_table (fun vs H Q E h => ?_) (fun cdv A outer s H vs Q E hr h => ?_)
  · obtain ⟨c, _, _, rfl, _⟩ := h
    rfl
  · obtain ⟨p, a, m, rfl, hm, hp, q⟩ := h
    have h64 := pow_le64 hm
    have hpos := pow_pos2 m
    refine ⟨_, (pss_cons (ps_set (i := 2) sc_law_table.nd rfl (.inl rfl) (pe_ix ix_list (pe_lst (pa_cons pe_int (pa_cons pe_int (pa_cons pe_int (pa_cons pe_int (pa_cons pe_int (pa_cons pe_int (pa_cons pe_int pa_nil)))))))) (pv 1) (fun _ _ => rfl)))
    (pss_cons (ps_set (i := 3) sc_law_table.nd rfl (.inl rfl) (pe_call G_law_draw hr (by rfl) g_law_draw k_law_draw b_law_draw .nil pass0 (pa_cons (pv 0) (pa_cons pe_int pa_nil))))
    (pss_cons (ps_if (pt_cmpR op_eq (pv 3) pe_int (nomark _))
      (pss_cons (ps_set (i := 4) sc_law_table.nd rfl (.inr rfl) (pe_cmpR op_eq (pe_call G_law_draw hr (by rfl) g_law_draw k_law_draw b_law_draw .nil pass0 (pa_cons (pv 0) (pa_cons pe_int pa_nil))) pe_int (nomark _)))
      (pss_one (ps_ret (pe_callTy call_tuple_of (by rfl) T.tuple (by decide +kernel) (pa_cons (pe_lc (own := [("k", 9)]) (g := gName 9) (tt := tYes) rfl sc_law_table.nd (pi_range1 rfl T.range (pa_cons (pv 2) pa_nil)) (blkOk_by (N := ["pool", "many", "size", "kind", "value", "low", "place", "number", "bit", "k"]) (sc := defScope s_law_table) (own := [("k", 9)]) (by decide +kernel)) (fun _ _ _ _ _ => (pg_name (i := 9) sc_law_table.nd rfl (.inl rfl))) (fun _ _ _ _ _ => pts_nil) (fun _ _ _ _ _ => (pv 4))) pa_nil)))))
      pss_nil)
    (pss_cut (ps_if (PW.pt (pw_and (pt_cmpR op_eq (pv 3) pe_int (nomark _)) (pw_and1 (pt_cmpR op_gt (pv 1) pe_int (nomark _)))))
      (pss_cons (ps_set (i := 5) sc_law_table.nd rfl (.inr rfl) (pe_ix ix_list (pe_lst (pa_cons pe_int (pa_cons pe_int (pa_cons pe_int (pa_cons pe_int (pa_cons pe_int (pa_cons pe_int pa_nil))))))) (pe_call G_law_draw hr (by rfl) g_law_draw k_law_draw b_law_draw .nil pass0 (pa_cons (pv 0) (pa_cons (pv 1) pa_nil))) (fun _ _ => rfl)))
      (pss_one (ps_ret (pe_callTy call_tuple_of (by rfl) T.tuple (by decide +kernel) (pa_cons (pe_lc (own := [("k", 9)]) (g := gName 9) (tt := tYes) rfl sc_law_table.nd (pi_range1 rfl T.range (pa_cons (pv 2) pa_nil)) (blkOk_by (N := ["pool", "many", "size", "kind", "value", "low", "place", "number", "bit", "k"]) (sc := defScope s_law_table) (own := [("k", 9)]) (by decide +kernel)) (fun _ _ _ _ _ => (pg_name (i := 9) sc_law_table.nd rfl (.inl rfl))) (fun _ _ _ _ _ => pts_nil) (fun _ _ _ _ _ => (pe_cmpR op_eq (pe_op op_mod (pe_callTy call_int1 (by rfl) T.int (by decide +kernel) (pa_cons (pe_op op_fdivW (pv 9) (pv 5)) pa_nil)) pe_int) pe_int (nomark _)))) pa_nil)))))
      pss_nil)
    (pss_cons (ps_if (pt_cmpR op_eq (pv 3) pe_int (nomark _))
      (pss_cons (ps_set (i := 6) sc_law_table.nd rfl (.inr rfl) (pe_call G_law_draw hr (by rfl) g_law_draw k_law_draw b_law_draw .nil pass0 (pa_cons (pv 0) (pa_cons (pv 2) pa_nil))))
      (pss_one (ps_ret (pe_callTy call_tuple_of (by rfl) T.tuple (by decide +kernel) (pa_cons (pe_lc (own := [("k", 9)]) (g := gName 9) (tt := tYes) rfl sc_law_table.nd (pi_range1 rfl T.range (pa_cons (pv 2) pa_nil)) (blkOk_by (N := ["pool", "many", "size", "kind", "value", "low", "place", "number", "bit", "k"]) (sc := defScope s_law_table) (own := [("k", 9)]) (by decide +kernel)) (fun _ _ _ _ _ => (pg_name (i := 9) sc_law_table.nd rfl (.inl rfl))) (fun _ _ _ _ _ => pts_nil) (fun _ _ _ _ _ => (pe_cmpR op_eq (pv 9) (pv 6) (nomark _)))) pa_nil)))))
      pss_nil)
    (pss_cons (ps_set (i := 7) sc_law_table.nd rfl (.inl rfl) (pe_call G_law_draw hr (by rfl) g_law_draw k_law_draw b_law_draw .nil pass0 (pa_cons (pv 0) (pa_cons (pe_op op_pow pe_int pe_int) pa_nil))))
    (pss_one (ps_ret (pe_callTy call_tuple_of (by rfl) T.tuple (by decide +kernel) (pa_cons (pe_lc (own := [("bit", 8)]) (g := gName 8) (tt := tYes) rfl sc_law_table.nd (pi_tup (pe_call G_law_bits (hr.mono (by decide)) (by rfl) g_law_bits k_law_bits b_law_bits .nil pass0 (pa_cons (pv 7) (pa_cons (pv 2) pa_nil)))) (blkOk_by (N := ["pool", "many", "size", "kind", "value", "low", "place", "number", "bit", "k"]) (sc := defScope s_law_table) (own := [("bit", 8)]) (by decide +kernel)) (fun _ _ _ _ _ => (pg_name (i := 8) sc_law_table.nd rfl (.inl rfl))) (fun _ _ _ _ _ => pts_nil) (fun _ _ _ _ _ => (pv 8))) pa_nil)))))))))), ?_⟩
    refine ⟨(by show 7 ≤ sizeLine; decide), fun l nl => ⟨_, rfl, _, _, _, _, rfl, rfl, SqL.of upd_same, atI_nat (pow7 hm), ?_⟩⟩
    have X1 : Px p a H (upd H l (.lst [.int 1, .int 2, .int 4, .int 8, .int 16, .int 32, .int 64])) := (Px.refl hp).new nl
    refine ⟨_, rfl, p, a, 6, rfl, by decide, by decide, X1.pool, fun kind H2 hk X2 _ => ?_⟩
    have Y2 := X1.trans X2
    refine ⟨_, rfl, rfl, _, rfl, ite2 (fun e => ?_) (fun e => ?_)⟩
    · refine ⟨_, rfl, p, a, 2, rfl, by decide, by decide, Y2.pool, fun v H3 hv X3 _ => ⟨rfl, ?_⟩⟩
      have Y3 := Y2.trans X3
      refine ⟨_, rfl, _, rfl, by omega, by omega, fun L nL => lcRv (fun _ => .bl (decide (V.int v = V.int 1))) (by omega) (fun _ => rfl) (fun i H4 _ _ Q q => ⟨_, rfl, q⟩) ⟨_, _, rfl, .inl ⟨SqL.of upd_same, fun t nt => ?_⟩⟩⟩
      exact q t ((List.range ((2 ^ m : Nat) : Int).toNat).map fun _ => decide (V.int v = V.int 1)) _ (by rw [List.length_map, List.length_range]; omega) ((Y3.new nL).new nt) ((Y3.new nL).free nt) (by rw [upd_same, List.map_map]; rfl)
    · refine ⟨fun σ H' => σ = [some (.ref p), some (.int m), some (.int ((2 ^ m : Nat) : Int)), some (.int kind), none, none, none, none, none, none] ∧ H' = H2, ?_, ?_⟩
      · refine ⟨_, rfl, rfl, _, rfl, ite2 (fun e1 => ?_) (fun e1 => iteF ⟨rfl, rfl⟩)⟩
        refine ⟨_, rfl, _, _, rfl, rfl, _, rfl, ite2 (fun e2 => ?_) (fun e2 => ⟨rfl, rfl⟩)⟩
        have hm0 : 0 < m := by have := of_decide_eq_true e2; omega
        refine ⟨(by show 6 ≤ sizeLine; decide), fun l2 nl2 => ⟨_, rfl, _, rfl, p, a, m, rfl, by omega, by omega, (Y2.new nl2).pool, fun v H3 hv X3 hk3 => ?_⟩⟩
        have Y3 := (Y2.new nl2).trans X3
        have h2 : H3 l2 = some (.lst [.int 1, .int 2, .int 4, .int 8, .int 16, .int 32]) := by rw [hk3 _ (Y2.pool.ne nl2)]; exact upd_same
        refine ⟨_, _, _, _, rfl, rfl, SqL.of h2, atI_nat (pow6 (by omega)), ?_⟩
        refine ⟨_, rfl, _, rfl, by omega, by omega, fun L nL => lcRv (fun (i : Nat) => .bl (decide (V.int ((0 + (i : Int)) / ((2 ^ v : Nat) : Int) % 2) = V.int 1))) (by omega) (fun _ => rfl) (fun i H4 _ _ Q q => ⟨_, rfl, _, rfl, _, _, rfl, rfl, divW_small (pow_pos2 v) (Nat.le_trans (pow_le64 (by omega)) (by decide)), .inl ⟨_, rfl, _, _, rfl, rfl, (by show (0 : Int) < 2; decide), rfl, q⟩⟩) ⟨_, _, rfl, .inl ⟨SqL.of upd_same, fun t nt => ?_⟩⟩⟩
        exact q t ((List.range ((2 ^ m : Nat) : Int).toNat).map fun (i : Nat) => decide (V.int ((0 + (i : Int)) / ((2 ^ v : Nat) : Int) % 2) = V.int 1)) _ (by rw [List.length_map, List.length_range]; omega) ((Y3.new nL).new nt) ((Y3.new nL).free nt) (by rw [upd_same, List.map_map]; rfl)
      · rintro σ H' ⟨rfl, rfl⟩
        refine ⟨_, rfl, rfl, _, rfl, ite2 (fun e1 => ?_) (fun e1 => ?_)⟩
        · refine ⟨_, rfl, _, rfl, p, a, ((2 ^ m : Nat) : Int), rfl, by omega, by omega, Y2.pool, fun v H3 hv X3 _ => ?_⟩
          have Y3 := Y2.trans X3
          refine ⟨_, rfl, _, rfl, by omega, by omega, fun L nL => lcRv (fun (i : Nat) => .bl (decide (V.int (0 + (i : Int)) = V.int v))) (by omega) (fun _ => rfl) (fun i H4 _ _ Q q => ⟨_, rfl, _, rfl, rfl, q⟩) ⟨_, _, rfl, .inl ⟨SqL.of upd_same, fun t nt => ?_⟩⟩⟩
          exact q t ((List.range ((2 ^ m : Nat) : Int).toNat).map fun (i : Nat) => decide (V.int (0 + (i : Int)) = V.int v)) _ (by rw [List.length_map, List.length_range]; omega) ((Y3.new nL).new nt) ((Y3.new nL).free nt) (by rw [upd_same, List.map_map]; rfl)
        · refine ⟨_, rfl, _, _, rfl, rfl, ⟨by decide, by decide, by decide⟩, p, a, _, rfl, by decide, by decide, Y2.pool, fun v H3 hv X3 _ => ?_⟩
          have Y3 := Y2.trans X3
          refine ⟨_, rfl, _, rfl, v, 2 ^ m, rfl, by omega, fun t1 H4 n1 E1 h1 => ⟨t1, rfl, ⟨_, SqT.of h1⟩, fun L nL => lcTm (xs := (bitsOf v (2 ^ m)).map V.bl) id (SqT.of h1) nL (by rw [List.length_map, bitsOf_len]; omega) (fun _ => rfl) (fun i x H4 _ _ Q q => ⟨_, rfl, q⟩) ⟨_, _, rfl, .inl ⟨SqL.of upd_same, fun t nt => ?_⟩⟩⟩⟩
          have Y4 := Y3.more E1
          exact q t (bitsOf v (2 ^ m)) _ (bitsOf_len _ _) ((Y4.new nL).new nt) ((Y4.new nL).free nt) (by rw [upd_same, List.map_id])
end
end G
namespace G
open PySem PySem.Spec PyProof.Rows L2 Evl
theorem tYes_in {σ : L2.St} {H : Hp} {A B : Hp → Prop} (h : A H) : tYes σ H (fun b H3 => if b = true then A H3 else B H3) := by
  show if true = true then A H else B H
  exact iteT h
def tabV (bs : List Bool) : HO := .tup (bs.map V.bl)
theorem inV_ints {k : Int} {l : List Int} : inV (.int k) (l.map V.int) = l.contains k := by
  unfold inV
  rw [List.any_map, List.contains_eq_any_beq]
  congr 1
  funext y
  show (y == k) = (k == y)
  rw [Bool.eq_iff_iff]; simp; exact eq_comm
theorem inV_bls {k : Bool} {l : List Bool} : inV (.bl k) (l.map V.bl) = l.contains k := by
  unfold inV
  rw [List.any_map, List.contains_eq_any_beq]
  congr 1
  funext y
  show (y == k) = (k == y)
  cases y <;> cases k <;> rfl
theorem flat_map {α : Type} {f : α → V} (h : ∀ x, flatV (f x) = true) (l : List α) : (l.map f).all flatV = true := by
  rw [List.all_map]
  exact List.all_eq_true.mpr fun x _ => h x
end G
namespace G
open PySem PySem.Spec PyProof.Rows L2 Evl
def o2v : Option Bool → V
  | none => .non
  | some b => .bl b
theorem o2v_scal (a b : Option Bool) : scal (o2v a) (o2v b) = true := by cases a <;> cases b <;> rfl
theorem o2v_inj {a b : Option Bool} : decide (o2v a = o2v b) = decide (a = b) := by
  cases a with
  | none => cases b <;> rfl
  | some x => cases b with
    | none => rfl
    | some y => cases x <;> cases y <;> rfl
theorem filterMap_cong {α β : Type} {f g : α → Option β} : ∀ {l : List α}, (∀ x ∈ l, f x = g x) → l.filterMap f = l.filterMap g
  | [], _ => rfl
  | a :: r, h => by
    rw [List.filterMap_cons, List.filterMap_cons, h a (List.mem_cons_self ..), filterMap_cong fun x hx => h x (List.mem_cons_of_mem _ hx)]
theorem half_pick {rows : List (Option Bool)} {h a : Nat} (hl : rows.length = 2 * h) (ha : a ≤ 1) : halfL a (rows.map o2v) = (pick a rows).map o2v := by
  unfold halfL pick
  rw [List.length_map, List.map_map, ← List.filterMap_eq_map (f := o2v ∘ fun i => rows.getD (a + 2 * i) none), show (rows.length - a + 1) / 2 = rows.length / 2 by omega]
  refine filterMap_cong fun k hk => ?_
  have hk' := List.mem_range.mp hk
  have hi : a + 2 * k < rows.length := by omega
  rw [List.getElem?_map, List.getElem?_eq_getElem hi]
  show some (o2v rows[a + 2 * k]) = some (o2v (rows.getD (a + 2 * k) none))
  rw [List.getD_eq_getElem?_getD, List.getElem?_eq_getElem hi]
  rfl
theorem walk_zipT {K : PySem.W.Frag} {a b : Addr} {xs ys : List V} {n : Nat} (hn : n = min xs.length ys.length) : Walk (RZ.ItzT K a b) n (fun H => SqT K H a xs ∧ SqT K H b ys) (YPair (fun i => xs[i]?) (fun i => ys[i]?)) := by
  subst hn
  refine ⟨fun i _ hi q => ?_, fun _ q => ⟨xs, ys, q.1, q.2, by omega⟩, fun i H v H' _ q y => ?_⟩
  · have h1 : i < xs.length := by omega
    have h2 : i < ys.length := by omega
    exact ⟨xs, ys, xs[i], ys[i], q.1, q.2, by simp [h1], by simp [h2]⟩
  · obtain ⟨T, x, z, h1, h2, h3, h4, h5⟩ := y
    exact ⟨T, x, z, h1, h2, h3, h4 xs q.1, h5 ys q.2⟩
structure TxtF (mg : Str → Option Value) : Prop where
  tuple : mg "tuple" = none
  zip : mg "zip" = none
section
variable {P : Program} {w : World} {K : PySem.W.Frag} {mg : Str → Option Value} {base : Heap}
def spWo : Sp := fun vs H Q _ => ∃ (t : Addr) (rows : List (Option Bool)) (k : Int) (h : Nat), vs = [.ref t, .int k] ∧ H t = some (.tup (rows.map o2v)) ∧ rows.length = 2 * h ∧ h ≤ 1000 ∧ ∀ p H', H p = none → Ex H H' → H' p = some (.tup ((wo rows k).map o2v)) → Q (.ref p) H'
theorem sc_without_input : FnScope ["rows", "known", "low", "high"] ["rows", "known"] (defScope s_without_input) := ⟨rfl, rfl, rfl, by decide +kernel, rfl, by decide +kernel, by decide +kernel⟩
theorem ok_without_input (D : Dfd K mg "_without_input" s_without_input ["rows", "known"]) (T : TxtF mg) : Has P w K mg base 1 "_without_input" ["rows", "known"] spWo := by
  refine D.has fun f fd F => F.ok sc_without_input (fun vs H Q E h => ?_) (fun cdv A outer s H vs Q E hr h => ?_)
  · obtain ⟨t, _, _, _, rfl, _⟩ := h
    rfl
  · obtain ⟨t, rows, k, h, rfl, ht, hl, hh, q⟩ := h
    have hlen : (rows.map o2v).length ≤ 100000 := by rw [List.length_map]; omega
    refine ⟨_, (pss_cons (ps_if (pt_cmpR op_eq (pv 1) pe_int (nomark _))
      (pss_one (ps_ret (pe_half (a := 0) (by decide) (pv 0))))
      pss_nil)
    (pss_cons (ps_if (pt_cmpR op_eq (pv 1) pe_int (nomark _))
      (pss_one (ps_ret (pe_half (a := 1) (by decide) (pv 0))))
      pss_nil)
    (pss_one (ps_ret (pe_callTy call_tuple_of (by rfl) T.tuple (by decide +kernel) (pa_cons (pe_lc (own := [("low", 2), ("high", 3)]) (g := gTup K 2 (gCons (gName 2) (gCons (gName 3) gNil))) (tt := tYes) rfl sc_without_input.nd (RZ.pi_zipA (by rfl) T.zip (pa_cons (pe_half (a := 0) (by decide) (pv 0)) (pa_cons (pe_half (a := 1) (by decide) (pv 0)) pa_nil))) (blkOk_by (N := ["rows", "known", "low", "high"]) (sc := defScope s_without_input) (own := [("low", 2), ("high", 3)]) (by decide +kernel)) (fun _ _ _ _ _ => (pg_tup rfl (pgs_cons (pg_name (i := 2) sc_without_input.nd rfl (.inl rfl)) (pgs_cons (pg_name (i := 3) sc_without_input.nd rfl (.inl rfl)) pgs_nil)))) (fun _ _ _ _ _ => pts_nil) (fun _ _ _ _ _ => (pe_ifExp (pt_cmpR op_eq (pv 2) (pv 3) (nomark _)) (pv 2) pe_non))) pa_nil)))))), ?_⟩
    refine ⟨_, rfl, rfl, _, rfl, ite2 (fun e => ?_) (fun e => ?_)⟩
    · have e' : k = 0 := V.int.inj (of_decide_eq_true e)
      refine ⟨_, rfl, t, _, rfl, SqT.of ht, hlen, fun p np => ?_⟩
      refine q p _ np (Ex.new np) ?_
      rw [upd_same, half_pick hl (by decide), e']
      rfl
    · have e' : k ≠ 0 := fun z => e (by rw [z]; rfl)
      refine ⟨_, rfl, rfl, _, rfl, ite2 (fun e1 => ?_) (fun e1 => ?_)⟩
      · have e2 : k = 1 := V.int.inj (of_decide_eq_true e1)
        refine ⟨_, rfl, t, _, rfl, SqT.of ht, hlen, fun p np => ?_⟩
        refine q p _ np (Ex.new np) ?_
        rw [upd_same, half_pick hl (by decide), e2]
        rfl
      · have e2 : k ≠ 1 := fun z => e1 (by rw [z]; rfl)
        have ew : wo rows k = pairUp rows := by unfold wo; rw [if_neg e', if_neg e2]
        have l0 : ((pick 0 rows).map o2v).length = h := by unfold pick; rw [List.length_map, List.length_map, List.length_range]; omega
        have l1 : ((pick 1 rows).map o2v).length = h := by unfold pick; rw [List.length_map, List.length_map, List.length_range]; omega
        refine ⟨_, rfl, t, _, rfl, SqT.of ht, hlen, fun p1 n1 => ?_⟩
        rw [half_pick hl (by decide)]
        have X1 : Ex H (upd H p1 (.tup ((pick 0 rows).map o2v))) := Ex.new n1
        refine ⟨_, rfl, t, _, rfl, SqT.of (X1 _ _ ht), hlen, fun p2 n2 => ?_⟩
        rw [half_pick hl (by decide)]
        have X2 := X1.trans (Ex.new (o := .tup ((pick 1 rows).map o2v)) n2)
        have h1 : upd (upd H p1 (.tup ((pick 0 rows).map o2v))) p2 (.tup ((pick 1 rows).map o2v)) p1 = some (.tup ((pick 0 rows).map o2v)) := by
          rw [upd_ne (ne_of_none upd_same n2)]; exact upd_same
        have h2 : upd (upd H p1 (.tup ((pick 0 rows).map o2v))) p2 (.tup ((pick 1 rows).map o2v)) p2 = some (.tup ((pick 1 rows).map o2v)) := upd_same
        generalize upd (upd H p1 (.tup ((pick 0 rows).map o2v))) p2 (.tup ((pick 1 rows).map o2v)) = H2 at *
        refine ⟨p1, p2, _, _, rfl, .inr ⟨SqT.of h1, SqT.of h2, fun L nL => lc_it (walk_zipT (n := h) (by rw [l0, l1]; omega))
          (fun i H' => Ex H2 H' ∧ H' L = some (.lst (((List.range i).map fun j => meet (rows.getD (2 * j) none) (rows.getD (2 * j + 1) none)).map o2v))) ⟨Ex.new nL, upd_same⟩ (fun i H' _ g => ⟨SqT.of (g.1 _ _ h1), SqT.of (g.1 _ _ h2)⟩) ?_ ?_⟩⟩
        · rintro i x H1 H3 hi ⟨g1, gL⟩ ⟨A1, x0, y0, rfl, nA, rfl, hx, hy⟩
          have ex0 : x0 = o2v (rows.getD (0 + 2 * i) none) := by
            have : ((pick 0 rows).map o2v)[i]? = some (o2v (rows.getD (0 + 2 * i) none)) := by
              unfold pick
              rw [List.map_map, List.getElem?_map, List.getElem?_range (by omega)]; rfl
            exact Option.some.inj (hx.symm.trans this)
          have ey0 : y0 = o2v (rows.getD (1 + 2 * i) none) := by
            have : ((pick 1 rows).map o2v)[i]? = some (o2v (rows.getD (1 + 2 * i) none)) := by
              unfold pick
              rw [List.map_map, List.getElem?_map, List.getElem?_range (by omega)]; rfl
            exact Option.some.inj (hy.symm.trans this)
          rw [Nat.zero_add] at ex0
          rw [Nat.add_comm] at ey0
          subst ex0 ey0
          have nLA : L ≠ A1 := ne_of_none gL nA
          have g2 := g1.trans (Ex.new (o := .tup [o2v (rows.getD (2 * i) none), o2v (rows.getD (2 * i + 1) none)]) nA)
          refine ⟨A1, _, rfl, SqT.of upd_same, rfl, _, _, rfl, _, _, rfl, rfl, rfl, tYes_in ?_⟩
          refine ⟨_, rfl, _, rfl, o2v_scal _ _, _, rfl, ?_⟩
          rw [o2v_inj]
          have fin : ∀ v, v = o2v (meet (rows.getD (2 * i) none) (rows.getD (2 * i + 1) none)) → ∃ acc, upd H1 A1 (.tup [o2v (rows.getD (2 * i) none), o2v (rows.getD (2 * i + 1) none)]) L = some (.lst acc) ∧ acc.length < sizeLine ∧
              (Ex H2 (upd (upd H1 A1 (.tup [o2v (rows.getD (2 * i) none), o2v (rows.getD (2 * i + 1) none)])) L (.lst (acc ++ [v]))) ∧ upd (upd H1 A1 (.tup [o2v (rows.getD (2 * i) none), o2v (rows.getD (2 * i + 1) none)])) L (.lst (acc ++ [v])) L = some (.lst (((List.range (i + 1)).map fun j => meet (rows.getD (2 * j) none) (rows.getD (2 * j + 1) none)).map o2v))) := fun v ev => by
            refine ⟨_, (upd_ne nLA).trans gL, sz_lt (by rw [List.length_map, List.length_map, List.length_range]; omega), Ex.mut g2 nL, ?_⟩
            rw [upd_same, List.range_succ, List.map_append, List.map_append, ev]; rfl
          refine ite2 (fun em => ?_) (fun em => ?_)
          · refine ⟨_, rfl, fin _ ?_⟩
            unfold meet
            rw [if_pos (of_decide_eq_true em)]
          · refine fin _ ?_
            unfold meet
            rw [if_neg (fun z => em (decide_eq_true z))]
            rfl
        · rintro H3 ⟨g1, gL⟩
          refine ⟨_, _, rfl, .inl ⟨SqL.of gL, fun p np => ?_⟩⟩
          have X3 := X2.trans g1
          refine q p _ (fresh_back X3 np) (X3.trans (Ex.new np)) ?_
          rw [upd_same, ew]
          unfold pairUp
          rw [show rows.length / 2 = h by omega]
end
end G
namespace G
open PySem PySem.Spec PyProof.Rows L2 Evl
section
variable {P : Program} {w : World} {K : PySem.W.Frag} {mg : Str → Option Value} {base : Heap}
def spForced : Sp := fun vs H Q _ => ∃ (t pt : Addr) (bs : List Bool) (ps : List Int), vs = [.ref t, .ref pt] ∧ H t = some (.tup (bs.map V.bl)) ∧ H pt = some (.tup (ps.map V.int)) ∧ bs.length = 2 ^ ps.length ∧ ps.length ≤ 9 ∧ ∀ H', Ex H H' → Q (o2v (forcedF (bs.map some) ps)) H'
theorem sc_forced : FnScope ["table", "partial", "rows", "known"] ["table", "partial"] (defScope s_forced) := ⟨rfl, rfl, rfl, by decide +kernel, rfl, by decide +kernel, by decide +kernel⟩
theorem ok_forced (D : Dfd K mg "forced" s_forced ["table", "partial"]) (C : Has P w K mg base 1 "_without_input" ["rows", "known"] spWo) : Has P w K mg base 2 "forced" ["table", "partial"] spForced := by
  obtain ⟨f_without_input, d_without_input, G_without_input, g_without_input, k_without_input, b_without_input⟩ := C
  refine D.has fun f fd F => F.ok sc_forced (fun vs H Q E h => ?_) (fun cdv A outer s H vs Q E hr h => ?_)
  · obtain ⟨t, _, _, _, rfl, _⟩ := h
    rfl
  · obtain ⟨t, pt, bs, ps, rfl, ht, hp, hl, hm, q⟩ := h
    refine ⟨_, (pss_cons (ps_set (i := 2) sc_forced.nd rfl (.inl rfl) (pv 0))
    (pss_cons (ps_for PassesOwn.never rfl (pi_tup (pv 1)) (pg_name (i := 3) sc_forced.nd rfl (.inl rfl))
      (pss_one (ps_set (i := 2) sc_forced.nd rfl (.inl rfl) (pe_call G_without_input (hr.mono (by omega)) (by rfl) g_without_input k_without_input b_without_input .nil pass0 (pa_cons (pv 2) (pa_cons (pv 3) pa_nil))))))
    (pss_one (ps_ret (pe_ix ix_tup (pv 2) pe_int (fun _ _ => rfl)))))), ?_⟩
    have hlp : (ps.map V.int).length = ps.length := List.length_map ..
    refine ⟨_, rfl, _, rfl, pt, rfl, ⟨_, SqT.of hp⟩, for_tup (K := K) (a := pt) (xs := ps.map V.int)
      (fun i σ H' => Ex H H' ∧ ∃ (rows : List (Option Bool)) (tr : Addr) (z : Option V), H' tr = some (.tup (rows.map o2v)) ∧ rows.length = 2 ^ (ps.length - i) ∧ forcedF rows (ps.drop i) = forcedF (bs.map some) ps ∧ σ = [some (.ref t), some (.ref pt), some (.ref tr), z])
      ⟨Ex.refl _, bs.map some, t, none, by rw [ht, List.map_map]; rfl, by rw [List.length_map, hl, Nat.sub_zero], rfl, rfl⟩ (fun i σ H' _ g => SqT.of (g.1 _ _ hp)) ?_ ?_⟩
    · rintro i x σ H1 hx ⟨g, rows, tr, z, htr, hrl, hf, rfl⟩
      have hi : i < ps.length := by have := (List.getElem?_eq_some_iff.mp hx).1; omega
      have ex : x = .int ps[i] := by
        rw [List.getElem?_map, List.getElem?_eq_getElem hi] at hx
        exact (Option.some.inj hx).symm
      subst ex
      have he : rows.length = 2 * 2 ^ (ps.length - (i + 1)) := by
        rw [hrl, show ps.length - i = (ps.length - (i + 1)) + 1 by omega, Nat.pow_succ, Nat.mul_comm]
      have hb : 2 ^ (ps.length - (i + 1)) ≤ 512 := Nat.le_trans (Nat.pow_le_pow_right (by decide) (by omega : ps.length - (i + 1) ≤ 9)) (by decide)
      refine ⟨_, rfl, _, rfl, tr, rows, ps[i], 2 ^ (ps.length - (i + 1)), rfl, htr, he, by omega, fun p H2 np g2 hp2 => ?_⟩
      refine ⟨g.trans g2, wo rows ps[i], p, _, hp2, by rw [wo_len]; omega, ?_, rfl⟩
      rw [← hf, List.drop_eq_getElem_cons hi]
      rfl
    · rintro σ H1 ⟨g, rows, tr, z, htr, hrl, hf, rfl⟩
      rw [hlp, Nat.sub_self] at hrl
      have h1 : rows.length = 1 := hrl
      rw [hlp, List.drop_length] at hf
      have e0 : (rows.map o2v)[0]? = some (o2v (rows.getD 0 none)) := by
        rw [List.getElem?_map, List.getElem?_eq_getElem (by omega), List.getD_eq_getElem?_getD, List.getElem?_eq_getElem (by omega)]; rfl
      refine ⟨_, rfl, _, _, _, _, rfl, rfl, SqT.of htr, atI_nat (j := 0) e0, ?_⟩
      have : rows.getD 0 none = forcedF (bs.map some) ps := hf
      show Q (o2v _) H1
      rw [this]
      exact q H1 g
end
end G
namespace G
open PySem PySem.Spec PyProof.Rows L2 Evl
theorem tabV_at {bs : List Bool} {r : Nat} (h : r < bs.length) : (bs.map V.bl)[r]? = some (.bl (bs.getD r false)) := by
  rw [List.getElem?_map, List.getElem?_eq_getElem h, List.getD_eq_getElem?_getD, List.getElem?_eq_getElem h]; rfl
theorem ints_at {ps : List Int} {r : Nat} (h : r < ps.length) : (ps.map V.int)[r]? = some (.int (ps.getD r 0)) := by
  rw [List.getElem?_map, List.getElem?_eq_getElem h, List.getD_eq_getElem?_getD, List.getElem?_eq_getElem h]; rfl
theorem bits_at {x m r : Nat} (h : r < m) : ((bitsOf x m).map V.bl)[r]? = some (.bl (x.testBit r)) := by
  unfold bitsOf
  rw [List.map_map, List.getElem?_map, List.getElem?_range h]; rfl
theorem disV (p : Int) (b : Bool) : ((!decide (V.int p = V.int (-1))) && (!decide (V.bl (decide (V.int p = V.int 1)) = V.bl b))) = dis p b := by
  unfold dis
  simp
theorem given_ints {n : Nat} {f : Nat → Bool} {g : Nat → Int} : given n f (fun k => V.int (g k)) = (((List.range n).filter f).map g).map V.int := by
  unfold given
  rw [List.map_map]; rfl
theorem no_dis {ps : List Int} {i : Nat} : (((List.range ps.length).filter fun k => dis (ps.getD k 0) (i.testBit k)).map fun (k : Nat) => (0 : Int) + (k : Int)).isEmpty = agr i ps := by
  rw [Bool.eq_iff_iff, agr_iff, List.isEmpty_iff, List.map_eq_nil_iff, List.filter_eq_nil_iff]
  constructor
  · intro h j hj
    have := h j (List.mem_range.mpr hj)
    simpa using this
  · intro h j hj
    rw [h j (List.mem_range.mp hj)]
    decide
end G
namespace G
open PySem PySem.Spec PyProof.Rows L2 Evl
section
variable {P : Program} {w : World} {K : PySem.W.Frag} {mg : Str → Option Value} {base : Heap}
def spDueF : Sp := fun vs H Q _ => ∃ (t pl : Addr) (bs : List Bool) (ps : List Int), vs = [.ref t, .ref pl] ∧ H t = some (.tup (bs.map V.bl)) ∧ H pl = some (.lst (ps.map V.int)) ∧ bs.length = 2 ^ ps.length ∧ ps.length ≤ 9 ∧ (∀ k ∈ ps, k = -1 ∨ k = 0 ∨ k = 1) ∧ ∀ H', Ex H H' → Q (o2v (dueF bs ps)) H'
theorem shown_succ {bs : List Bool} {ps : List Int} {i : Nat} : shownL bs ps (i + 1) = if agr i ps = true then shownL bs ps i ++ [bs.getD i false] else shownL bs ps i := by
  unfold shownL
  rw [List.range_succ, List.filter_append, List.map_append]
  by_cases h : agr i ps = true
  · rw [if_pos h]; simp [h]
  · rw [if_neg h]; simp [h]
theorem shown_len (bs : List Bool) (ps : List Int) (n : Nat) : (shownL bs ps n).length ≤ n := by
  unfold shownL
  rw [List.length_map]
  have := List.length_filter_le (fun x => agr x ps) (List.range n)
  rw [List.length_range] at this; exact this
theorem sc_law_due : FnScope ["table", "partial", "shown", "index", "bits", "k"] ["table", "partial"] (defScope s_law_due) := ⟨rfl, rfl, rfl, by decide +kernel, rfl, by decide +kernel, by decide +kernel⟩
theorem ok_law_due (D : Dfd K mg "_law_due" s_law_due ["table", "partial"]) (T : TxtS mg) (C : Has P w K mg base 1 "_law_bits" ["index", "many"] spBits) : Has P w K mg base 2 "_law_due" ["table", "partial"] spDueF := by
  obtain ⟨f_law_bits, d_law_bits, G_law_bits, g_law_bits, k_law_bits, b_law_bits⟩ := C
  refine D.has fun f fd F => F.ok sc_law_due (fun vs H Q E h => ?_) (fun cdv A outer s H vs Q E hr h => ?_)
  · obtain ⟨t, _, _, _, rfl, _⟩ := h
    rfl
  · obtain ⟨t, pl, bs, ps, rfl, ht, hp, hl, hm, hk, q⟩ := h
    have h512 : bs.length ≤ 512 := by rw [hl]; exact Nat.le_trans (Nat.pow_le_pow_right (by decide) hm) (by decide)
    have hlp : (ps.map V.int).length = ps.length := List.length_map ..
    have hlb : (bs.map V.bl).length = bs.length := List.length_map ..
    refine ⟨_, (pss_cons (ps_set (i := 2) sc_law_due.nd rfl (.inl rfl) (pe_lst pa_nil))
    (pss_cons (ps_for PassesOwn.never rfl (pi_range1 rfl T.range (pa_cons (pe_callB call_len_seq (by rfl) T.len (by decide +kernel) (pa_cons (pv 0) pa_nil)) pa_nil)) (pg_name (i := 3) sc_law_due.nd rfl (.inl rfl))
      (pss_cons (ps_set (i := 4) sc_law_due.nd rfl (.inr rfl) (pe_call G_law_bits (hr.mono (by omega)) (by rfl) g_law_bits k_law_bits b_law_bits .nil pass0 (pa_cons (pv 3) (pa_cons (pe_callB call_len_seq (by rfl) T.len (by decide +kernel) (pa_cons (pv 1) pa_nil)) pa_nil))))
      (pss_one (ps_if (pt_cmpR (op_eqD hr.units) (pe_lc (own := [("k", 5)]) (g := gName 5) (tt := _) rfl sc_law_due.nd (pi_range1 rfl T.range (pa_cons (pe_callB call_len_seq (by rfl) T.len (by decide +kernel) (pa_cons (pv 1) pa_nil)) pa_nil)) (blkOk_by (N := ["table", "partial", "shown", "index", "bits", "k"]) (sc := defScope s_law_due) (own := [("k", 5)]) (by decide +kernel)) (fun _ _ _ _ _ => (pg_name (i := 5) sc_law_due.nd rfl (.inl rfl))) (fun _ _ _ _ _ => pts_one (PW.pt (pw_and (pt_cmpR op_ne (pe_ix (kIxL (K := K) rfl) (pv 1) (pv 5) (fun _ _ => rfl)) (pe_un un_neg pe_int) (nomark _)) (pw_and1 (pt_cmpR op_ne (pe_cmpR op_eq (pe_ix (kIxL (K := K) rfl) (pv 1) (pv 5) (fun _ _ => rfl)) pe_int (nomark _)) (pe_ix (kIxT (K := K) rfl) (pv 4) (pv 5) (fun _ _ => rfl)) (nomark _)))))) (fun _ _ _ _ _ => (pv 5))) (pe_lst pa_nil) (nomark _))
        (pss_one (ps_expr (pe_bm PySem.F.plainAttrs_list PySem.F.slot_list_append PySem.F.type_list_append mt_append (pv 2) (pa_cons (pe_ix ix_tup (pv 0) (pv 3) (fun _ _ => rfl)) pa_nil))))
        pss_nil))))
    (pss_cut (ps_if (PW.pt (pw_and (pt_cmpR op_in_seq pe_bl (pv 2) (by rfl)) (pw_and1 (pt_cmpR op_in_seq pe_bl (pv 2) (by rfl)))))
      (pss_one (ps_ret pe_non))
      pss_nil)
    (pss_one (ps_ret (pe_ix ix_list (pv 2) pe_int (fun _ _ => rfl))))))), ?_⟩
    refine ⟨Nat.zero_le _, fun o no => ⟨_, rfl, _, _, rfl, .inr (SqT.of (Ex.new no _ _ ht)), _, rfl, by omega, by omega, for_range (n := (((bs.map V.bl).length : Nat) : Int).toNat)
      (fun i σ H' => Ex H H' ∧ H' o = some (.lst ((shownL bs ps i).map V.bl)) ∧ ∃ (x y z : Option V), σ = [some (.ref t), some (.ref pl), some (.ref o), x, y, z]) ⟨Ex.new no, upd_same, _, _, _, rfl⟩ ?_ ?_⟩⟩
    · rintro i σ H1 hi ⟨e1, ho, x, y, z, rfl⟩
      have hi' : i < bs.length := by omega
      have e0 : (0 : Int) + (i : Int) = (i : Int) := Int.zero_add _
      rw [e0]
      refine ⟨_, rfl, _, rfl, _, _, rfl, .inl (SqL.of (e1 _ _ hp)), i, ps.length, by rw [hlp]; rfl, by omega, fun tb2 H2 n2 E2 h2 => ?_⟩
      have e2 := e1.trans E2
      refine ⟨_, rfl, _, _, rfl, .inl (SqL.of (e2 _ _ hp)), _, rfl, by omega, by omega, fun L nL => lcR (fun k => dis (ps.getD k 0) (i.testBit k)) (fun k => .int (0 + (k : Int))) (by omega) (fun _ => rfl) ?_ (fun k H3 _ _ _ Q q => ⟨_, rfl, q⟩) ?_⟩
      · intro k H3 hk3 eH Q q
        have x3 : Ex H2 H3 := by rw [eH]; exact Ex.new nL
        have hk4 : k < ps.length := by omega
        have ek : (0 : Int) + (k : Int) = (k : Int) := Int.zero_add _
        rw [ek]
        refine ⟨_, rfl, _, rfl, _, _, _, _, rfl, rfl, SqL.of (x3 _ _ (e2 _ _ hp)), atI_nat (ints_at hk4), _, rfl, rfl, _, rfl, ?_⟩
        have qq := q
        rw [← disV] at qq
        cases hc : (!decide (V.int (ps.getD k 0) = V.int (-1))) with
        | false => rw [hc] at qq; exact iteF qq
        | true =>
          rw [hc] at qq
          exact iteT ⟨_, rfl, _, rfl, _, _, _, _, rfl, rfl, SqL.of (x3 _ _ (e2 _ _ hp)), atI_nat (ints_at hk4), rfl, _, rfl, _, rfl, _, _, _, _, rfl, rfl, SqT.of (x3 _ _ h2), atI_nat (bits_at hk4), rfl, _, rfl, qq⟩
      · refine ⟨Nat.zero_le _, fun L2 nL2 => ?_⟩
        have x3 : Ex H2 (upd H2 L (.lst (given ((((ps.map V.int).length : Nat) : Int)).toNat (fun k => dis (ps.getD k 0) (i.testBit k)) fun k => .int (0 + (k : Int))))) := Ex.new nL
        have x4 := (e2.trans x3).trans (Ex.new (o := .lst []) nL2)
        have hL : upd (upd H2 L (.lst (given ((((ps.map V.int).length : Nat) : Int)).toNat (fun k => dis (ps.getD k 0) (i.testBit k)) fun k => .int (0 + (k : Int))))) L2 (.lst []) L = some (.lst ((((List.range ps.length).filter fun k => dis (ps.getD k 0) (i.testBit k)).map fun (k : Nat) => (0 : Int) + (k : Int)).map V.int)) := by
          rw [upd_ne (ne_of_none upd_same nL2), upd_same, given_ints (g := fun k => (0 : Int) + (k : Int)), hlp, Int.toNat_natCast]
        refine ⟨_, _, dp_ints (SqL.of hL), dp_nil (SqL.of upd_same), PySem.W.ke_shaped_ints _, shaped_nil, _, rfl, ?_⟩
        rw [eqv_nil]
        have ho4 := (E2.trans x3).trans (Ex.new (o := .lst []) nL2) _ _ ho
        generalize upd (upd H2 L (.lst (given ((((ps.map V.int).length : Nat) : Int)).toNat (fun k => dis (ps.getD k 0) (i.testBit k)) fun k => .int (0 + (k : Int))))) L2 (.lst []) = H4 at *
        have em : (((((List.range ps.length).filter fun k => dis (ps.getD k 0) (i.testBit k)).map fun (k : Nat) => (0 : Int) + (k : Int)).map PyData.int)).isEmpty = agr i ps := by
          rw [← no_dis, List.isEmpty_map]
        rw [em]
        cases ha : agr i ps with
        | false => exact iteF ⟨x4, by rw [shown_succ, if_neg (by rw [ha]; decide)]; exact ho4, _, _, _, rfl⟩
        | true =>
          refine iteT ⟨_, rfl, .inl ⟨rfl, _, SqL.of ho4⟩, _, rfl, _, rfl, _, _, _, _, rfl, rfl, SqT.of (x4 _ _ ht), atI_nat (tabV_at hi'), o, _, _, rfl, rfl, ho4, ?_, x4.mut no, ?_, _, _, _, rfl⟩
          · exact sz_lt (by rw [List.length_map]; have := shown_len bs ps i; omega)
          · rw [upd_same, shown_succ, if_pos ha, List.map_append]; rfl
    · rintro σ H1 ⟨e1, ho, x, y, z, rfl⟩
      rw [hlb, Int.toNat_natCast] at ho
      refine ⟨fun σ H' => σ = [some (.ref t), some (.ref pl), some (.ref o), x, y, z] ∧ H' = H1 ∧ ¬ (((shownL bs ps bs.length).contains true && (shownL bs ps bs.length).contains false) = true), ?_, ?_⟩
      · refine ⟨_, rfl, o, _, rfl, .inl (SqL.of ho), rfl, flat_map (fun _ => rfl) _, _, rfl, ?_⟩
        show if (if false = true then !inV (.bl true) ((shownL bs ps bs.length).map V.bl) else inV (.bl true) ((shownL bs ps bs.length).map V.bl)) = true then _ else _
        rw [if_neg Bool.false_ne_true, inV_bls]
        cases hT : (shownL bs ps bs.length).contains true with
        | false => exact iteF (iteF ⟨rfl, rfl, by simp⟩)
        | true =>
          refine iteT ⟨_, rfl, o, _, rfl, .inl (SqL.of ho), rfl, flat_map (fun _ => rfl) _, _, rfl, ?_⟩
          show if (if false = true then !inV (.bl false) ((shownL bs ps bs.length).map V.bl) else inV (.bl false) ((shownL bs ps bs.length).map V.bl)) = true then _ else _
          rw [if_neg Bool.false_ne_true, inV_bls]
          cases hF : (shownL bs ps bs.length).contains false with
          | false => exact iteF ⟨rfl, rfl, by simp⟩
          | true =>
            refine iteT ?_
            have ed : dueF bs ps = none := by unfold dueF; rw [if_pos (by rw [hT, hF]; rfl)]
            have := q H1 e1
            rw [ed] at this
            exact this
      · rintro σ H' ⟨rfl, rfl, hno⟩
        obtain ⟨x0, hx0, ha0⟩ := agr_ex ps hk
        have hne : bs.getD x0 false ∈ shownL bs ps bs.length := shown_mem.mpr ⟨x0, by omega, ha0, rfl⟩
        have ed : dueF bs ps = (shownL bs ps bs.length).head? := by unfold dueF; rw [if_neg hno]
        cases hs : shownL bs ps bs.length with
        | nil => rw [hs] at hne; cases hne
        | cons v r =>
          rw [hs] at ho ed
          refine ⟨_, rfl, _, _, _, _, rfl, rfl, SqL.of ho, atI_nat (j := 0) rfl, ?_⟩
          have := q H' e1
          rw [ed] at this
          exact this
def spLaw (K : PySem.W.Frag) : Sp := fun vs H Q _ => ∃ (a : Addr) (ns : List Int), vs = [.ref a] ∧ SqL K H a (ns.map V.int) ∧ ns.length ≤ 63 ∧ ∀ H', Q (.bl true) H'
def tern (ps : List Int) : Prop := ∀ k ∈ ps, k = -1 ∨ k = 0 ∨ k = 1
theorem tern_add {ps : List Int} {k : Int} (h : tern ps) (hk : k = -1 ∨ k = 0 ∨ k = 1) : tern (ps ++ [k]) := by
  intro j hj
  rcases List.mem_append.mp hj with z | z
  · exact h j z
  · rw [List.mem_singleton.mp z]; exact hk
theorem rep_o2v {H : Hp} (o : Option Bool) : ∃ d, Rep H (o2v o) d ∧ okD 0 d := by
  cases o with
  | none => exact ⟨_, .non, trivial⟩
  | some b => exact ⟨_, .bl b, trivial⟩
theorem tern_nil : tern [] := fun _ h => nomatch h
theorem sc_law : FnScope ["script", "pool", "turn", "many", "table", "k", "partial", "j"] ["script"] (defScope s_law) := ⟨rfl, rfl, rfl, by decide +kernel, rfl, by decide +kernel, by decide +kernel⟩
theorem fn_law {f : Addr} {fd : FuncData} (F : Fun K "law" "law" s_law f fd) (T : TxtS mg) (C1 : Has P w K mg base 1 "_law_pool" ["script"] (spPool K)) (C2 : Has P w K mg base 2 "_law_draw" ["pool", "many"] spDrawX) (C3 : Has P w K mg base 3 "_law_table" ["pool", "many"] spTable)
    (C4 : Has P w K mg base 2 "forced" ["table", "partial"] spForced) (C6 : Has P w K mg base 2 "_law_due" ["table", "partial"] spDueF) (C7 : Has P w K mg base 2 "_law_same" ["actual", "due"] (spSame 2)) :
    FnOk P w K mg base CX0 4 f fd ["script"] (spLaw K) := by
  obtain ⟨f_law_pool, d_law_pool, G_law_pool, g_law_pool, k_law_pool, b_law_pool⟩ := C1
  obtain ⟨f_law_draw, d_law_draw, G_law_draw, g_law_draw, k_law_draw, b_law_draw⟩ := C2
  obtain ⟨f_law_table, d_law_table, G_law_table, g_law_table, k_law_table, b_law_table⟩ := C3
  obtain ⟨f_forced, d_forced, G_forced, g_forced, k_forced, b_forced⟩ := C4
  obtain ⟨f_law_due, d_law_due, G_law_due, g_law_due, k_law_due, b_law_due⟩ := C6
  obtain ⟨f_law_same, d_law_same, G_law_same, g_law_same, k_law_same, b_law_same⟩ := C7
  refine F.ok sc_law (fun vs H Q E h => ?_) (fun cdv A outer s H vs Q E hr h => ?_)
  · obtain ⟨a, ns, rfl, _⟩ := h
    rfl
  · obtain ⟨sa, ns, rfl, hs, hn, q⟩ := h
    refine ⟨_, (pss_cons (ps_set (i := 1) sc_law.nd rfl (.inr rfl) (pe_call G_law_pool (hr.mono (by omega)) (by rfl) g_law_pool k_law_pool b_law_pool .nil pass0 (pa_cons (pv 0) pa_nil)))
    (pss_cons (ps_for PassesOwn.never rfl (pi_range1 rfl T.range (pa_cons pe_int pa_nil)) (pg_name (i := 2) sc_law.nd rfl (.inl rfl))
      (pss_cons (ps_set (i := 3) sc_law.nd rfl (.inl rfl) (pe_call G_law_draw (hr.mono (by omega)) (by rfl) g_law_draw k_law_draw b_law_draw .nil pass0 (pa_cons (pv 1) (pa_cons pe_int pa_nil))))
      (pss_cons (ps_set (i := 4) sc_law.nd rfl (.inl rfl) (pe_call G_law_table (hr.mono (by omega)) (by rfl) g_law_table k_law_table b_law_table .nil pass0 (pa_cons (pv 1) (pa_cons (pv 3) pa_nil))))
      (pss_one (ps_for PassesOwn.never rfl (pi_range1 rfl T.range (pa_cons pe_int pa_nil)) (pg_name (i := 5) sc_law.nd rfl (.inl rfl))
        (pss_cons (ps_setLc (i := 6) (own := [("j", 7)]) (g := gName 7) (tt := tYes) rfl sc_law.nd rfl rfl (sw_true rfl rfl rfl (by decide +kernel)) (pi_range1 rfl T.range (pa_cons (pv 3) pa_nil)) (blkOk_by (N := ["script", "pool", "turn", "many", "table", "k", "partial", "j"]) (sc := defScope s_law) (own := [("j", 7)]) (by decide +kernel)) (fun _ _ _ _ _ => (pg_name (i := 7) sc_law.nd rfl (.inl rfl))) (fun _ _ _ _ _ => pts_nil) (fun _ _ _ _ _ => (pe_op op_sub (pe_call G_law_draw (hr.mono (by omega)) (by rfl) g_law_draw k_law_draw b_law_draw .nil pass0 (pa_cons (pv 1) (pa_cons pe_int pa_nil))) pe_int)))
        (pss_cut (ps_if (pt_cmpR op_eq (pv 5) pe_int (nomark _))
          (pss_one (ps_setLc (i := 6) (own := [("j", 7)]) (g := gName 7) (tt := tYes) rfl sc_law.nd rfl rfl (sw_true rfl rfl rfl (by decide +kernel)) (pi_range1 rfl T.range (pa_cons (pv 3) pa_nil)) (blkOk_by (N := ["script", "pool", "turn", "many", "table", "k", "partial", "j"]) (sc := defScope s_law) (own := [("j", 7)]) (by decide +kernel)) (fun _ _ _ _ _ => (pg_name (i := 7) sc_law.nd rfl (.inl rfl))) (fun _ _ _ _ _ => pts_nil) (fun _ _ _ _ _ => (pe_un un_neg pe_int))))
          pss_nil)
        (pss_cut (ps_if (pt_cmpR op_eq (pv 5) pe_int (nomark _))
          (pss_one (ps_setLc (i := 6) (own := [("j", 7)]) (g := gName 7) (tt := tYes) rfl sc_law.nd rfl rfl (sw_true rfl rfl rfl (by decide +kernel)) (pi_range1 rfl T.range (pa_cons (pv 3) pa_nil)) (blkOk_by (N := ["script", "pool", "turn", "many", "table", "k", "partial", "j"]) (sc := defScope s_law) (own := [("j", 7)]) (by decide +kernel)) (fun _ _ _ _ _ => (pg_name (i := 7) sc_law.nd rfl (.inl rfl))) (fun _ _ _ _ _ => pts_nil) (fun _ _ _ _ _ => (pe_call G_law_draw (hr.mono (by omega)) (by rfl) g_law_draw k_law_draw b_law_draw .nil pass0 (pa_cons (pv 1) (pa_cons pe_int pa_nil))))))
          pss_nil)
        (pss_one (ps_if (pt_not (pt_val (pe_call G_law_same (hr.mono (by omega)) (by rfl) g_law_same k_law_same b_law_same .nil pass0 (pa_cons (pe_call G_forced (hr.mono (by omega)) (by rfl) g_forced k_forced b_forced .nil pass0 (pa_cons (pv 4) (pa_cons (pe_callTy call_tuple_of (by rfl) T.tuple (by decide +kernel) (pa_cons (pv 6) pa_nil)) pa_nil))) (pa_cons (pe_call G_law_due (hr.mono (by omega)) (by rfl) g_law_due k_law_due b_law_due .nil pass0 (pa_cons (pv 4) (pa_cons (pv 6) pa_nil))) pa_nil)))))
          (pss_one (ps_ret pe_bl))
          pss_nil))))))))))
    (pss_one (ps_ret pe_bl)))), ?_⟩
    refine ⟨_, rfl, sa, ns, rfl, hs, by omega, fun p a H0 hp _ _ => ⟨6, rfl, by decide, by decide, for_range (n := 6)
      (fun _ σ H' => Px p a H0 H' ∧ ∃ (x2 x3 x4 x5 x6 x7 : Option V), σ = [some (.ref sa), some (.ref p), x2, x3, x4, x5, x6, x7]) ⟨Px.refl hp, _, _, _, _, _, _, rfl⟩ ?_ ?_⟩⟩
    · rintro i σ H1 _ ⟨X1, x2, x3, x4, x5, x6, x7, rfl⟩
      refine ⟨_, rfl, p, a, 7, rfl, by decide, by decide, X1.pool, fun m H2 hm0 Y2 _ => ?_⟩
      have X2 := X1.trans Y2
      have hm : m ≤ 6 := by omega
      refine ⟨_, rfl, _, rfl, p, a, m, rfl, hm, X2.pool, fun t bs H3 hl Y3 nt0 ht0 => ?_⟩
      have X3 := X2.trans Y3
      have ht3 := Y3.seen nt0 ht0
      refine ⟨5, rfl, by decide, by decide, for_range (n := 5)
        (fun _ σ H' => Px p a H3 H' ∧ ∃ (x5 x6 x7 : Option V), σ = [some (.ref sa), some (.ref p), some (.int (0 + (i : Int))), some (.int m), some (.ref t), x5, x6, x7]) ⟨Px.refl X3.pool, _, _, _, rfl⟩ ?_ ?_⟩
      · rintro j σ H4 _ ⟨X4, x5, x6, x7, rfl⟩
        refine ⟨_, rfl, _, rfl, by omega, by omega, fun L nL => lc_range (lo := 0) (n := ((m : Nat) : Int).toNat)
          (fun i H' => Px p a H4 H' ∧ ∃ ps : List Int, ps.length = i ∧ tern ps ∧ H' L = some (.lst (ps.map V.int))) ⟨(Px.refl X4.pool).new nL, [], rfl, tern_nil, upd_same⟩ ?_ ?_⟩
        · rintro k H5 hk5 ⟨X5, ps, hps, htern, hL⟩
          refine ⟨rfl, tYes_in ?_⟩
          refine ⟨_, rfl, p, a, 3, rfl, by decide, by decide, X5.pool, fun v H6 hv Y6 k6 => ⟨_, _, rfl, rfl, _, (k6 _ (X4.pool.ne nL)).trans hL, sz_lt (by rw [List.length_map]; omega), (X5.trans Y6).mut nL, ps ++ [(v : Int) - 1], ?_, tern_add htern (by omega), ?_⟩⟩
          · rw [List.length_append, hps]; rfl
          · rw [upd_same, List.map_append]; rfl
        · rintro H5 ⟨X5, ps0, hps0, htern0, hL0⟩
          rw [Int.toNat_natCast] at hps0
          refine ⟨fun σ H' => Px p a H3 H' ∧ ∃ (L : Addr) (ps : List Int) (x7 : Option V), ps.length = m ∧ tern ps ∧ hid p H' L = some (.lst (ps.map V.int)) ∧ σ = [some (.ref sa), some (.ref p), some (.int (0 + (i : Int))), some (.int m), some (.ref t), some (.int (0 + (j : Int))), some (.ref L), x7], ?_, ?_⟩
          · refine ⟨_, rfl, rfl, _, rfl, ite2 (fun e => ?_) (fun e => ⟨X4.trans X5, L, ps0, _, hps0, htern0, X5.seen nL hL0, rfl⟩)⟩
            refine ⟨_, rfl, _, rfl, by omega, by omega, fun L2 nL2 => lcRv (fun _ => .int (-1)) (by omega) (fun _ => rfl) (fun k H6 _ _ Q q => ⟨_, rfl, q⟩) ?_⟩
            have X6 := (Px.refl X5.pool).new (o := .lst ((List.range ((m : Nat) : Int).toNat).map fun _ => V.int (-1))) nL2
            refine ⟨(X4.trans X5).trans X6, L2, List.replicate m (-1), _, List.length_replicate .., fun k hk => .inl (List.eq_of_mem_replicate hk), X6.seen nL2 ?_, rfl⟩
            rw [upd_same, Int.toNat_natCast, List.map_replicate, List.map_const', List.length_range]
          · rintro σ H6 ⟨X6, L6, ps6, y7, hps6, ht6, hL6, rfl⟩
            refine ⟨fun σ H' => Px p a H3 H' ∧ ∃ (L : Addr) (ps : List Int) (x7 : Option V), ps.length = m ∧ tern ps ∧ hid p H' L = some (.lst (ps.map V.int)) ∧ σ = [some (.ref sa), some (.ref p), some (.int (0 + (i : Int))), some (.int m), some (.ref t), some (.int (0 + (j : Int))), some (.ref L), x7], ?_, ?_⟩
            · refine ⟨_, rfl, rfl, _, rfl, ite2 (fun e => ?_) (fun e => ⟨X6, L6, ps6, _, hps6, ht6, hL6, rfl⟩)⟩
              refine ⟨_, rfl, _, rfl, by omega, by omega, fun L2 nL2 => lc_range (lo := 0) (n := ((m : Nat) : Int).toNat)
                (fun i H' => Px p a H6 H' ∧ ∃ ps : List Int, ps.length = i ∧ tern ps ∧ H' L2 = some (.lst (ps.map V.int))) ⟨(Px.refl X6.pool).new nL2, [], rfl, tern_nil, upd_same⟩ ?_ ?_⟩
              · rintro k H7 hk5 ⟨X7, ps, hps, htern, hL⟩
                refine ⟨rfl, tYes_in ?_⟩
                refine ⟨_, rfl, p, a, 2, rfl, by decide, by decide, X7.pool, fun v H8 hv Y8 k8 => ⟨_, (k8 _ (X6.pool.ne nL2)).trans hL, sz_lt (by rw [List.length_map]; omega), (X7.trans Y8).mut nL2, ps ++ [(v : Int)], ?_, tern_add htern (by omega), ?_⟩⟩
                · rw [List.length_append, hps]; rfl
                · rw [upd_same, List.map_append]; rfl
              · rintro H7 ⟨X7, ps, hps, htern, hL⟩
                rw [Int.toNat_natCast] at hps
                exact ⟨X6.trans X7, L2, ps, _, hps, htern, X7.seen nL2 hL, rfl⟩
            · rintro σ H7 ⟨X7, L7, ps, z7, hps, htern, hL7, rfl⟩
              have ht7 := X7.get ht3
              have hbl : bs.length = 2 ^ ps.length := by rw [hps]; exact hl
              refine ⟨_, rfl, _, rfl, _, _, rfl, .inl ⟨SqL.of (hid_get hL7), fun pt npt => ?_⟩⟩
              have Y8 := (Px.refl X7.pool).new (o := .tup (ps.map V.int)) npt
              refine ⟨t, pt, bs, ps, rfl, Y8.at_ ht7, upd_same, hbl, by omega, fun H9 E9 => ?_⟩
              have Y9 := Y8.more E9
              refine ⟨_, rfl, _, rfl, t, L7, bs, ps, rfl, Y9.at_ ht7, Y9.at_ hL7, hbl, by omega, htern, fun H10 E10 => ?_⟩
              have Y10 := Y9.more E10
              rw [forced_due hbl htern]
              obtain ⟨d, hr1, hok⟩ := rep_o2v (H := H10) (dueF bs ps)
              refine ⟨_, _, d, rfl, hr1, hr1, okD.mono (Nat.zero_le _) hok, _, rfl, ?_⟩
              exact iteF ⟨X7.trans Y10, _, _, _, rfl⟩
      · rintro σ H4 ⟨X4, x5, x6, x7, rfl⟩
        exact ⟨X3.trans X4, _, _, _, _, _, _, rfl⟩
    · rintro σ H1 ⟨X1, x2, x3, x4, x5, x6, x7, rfl⟩
      exact q H1
end
end G
namespace G
open PySem PySem.Spec PyProof.Rows L2
/-- the defs and the built-in names as the top has left them -/
structure All (K : PySem.W.Frag) (mg : Str → Option Value) : Prop where
  d_forced : Dfd K mg "forced" s_forced ["table", "partial"]
  d_without_input : Dfd K mg "_without_input" s_without_input ["rows", "known"]
  d_law_pool : Dfd K mg "_law_pool" s_law_pool ["script"]
  d_law_spread : Dfd K mg "_law_spread" s_law_spread ["cell"]
  d_law_draw : Dfd K mg "_law_draw" s_law_draw ["pool", "many"]
  d_law_same : Dfd K mg "_law_same" s_law_same ["actual", "due"]
  d_law_bits : Dfd K mg "_law_bits" s_law_bits ["index", "many"]
  d_law_table : Dfd K mg "_law_table" s_law_table ["pool", "many"]
  d_law_due : Dfd K mg "_law_due" s_law_due ["table", "partial"]
  z_tuple : mg "tuple" = none
  z_zip : mg "zip" = none
  z_int : mg "int" = none
  z_list : mg "list" = none
  z_range : mg "range" = none
  z_len : mg "len" = none
  z_isinstance : mg "isinstance" = none
  z_bool : mg "bool" = none
  z_str : mg "str" = none
end G
namespace G
open PySem PySem.Spec PyProof.Rows L2
theorem glue {P : Program} {w : World} {K : PySem.W.Frag} {mg : Str → Option Value} {base : Heap} (A : All K mg) {f : Addr} {fd : FuncData} (F : Fun K "law" "law" s_law f fd) : FnOk P w K mg base CX0 4 f fd ["script"] (spLaw K) := by
  have TL : TxtL mg := ⟨A.z_int, A.z_len, A.z_list, A.z_range⟩
  have TS : TxtS mg := ⟨A.z_isinstance, A.z_tuple, A.z_list, A.z_len, A.z_range, A.z_bool, A.z_int, A.z_str⟩
  have TF : TxtF mg := ⟨A.z_tuple, A.z_zip⟩
  have hd := drawX (P := P) (w := w) (base := base) (ok_law_draw A.d_law_draw TL (ok_law_spread A.d_law_spread TL))
  have hb := ok_law_bits (P := P) (w := w) (base := base) A.d_law_bits TS
  exact fn_law F TS (ok_law_pool A.d_law_pool TL) hd (ok_law_table A.d_law_table TS hd hb) (ok_forced A.d_forced (ok_without_input A.d_without_input TF)) (ok_law_due A.d_law_due TS hb) (ok_law_same A.d_law_same TS 2)
end G
namespace G
open PySem PySem.Spec PyProof.Rows L2
theorem all_mk {l : PySem.W.OpenLaw} {w : World} {K : PySem.W.Frag} {h : Heap} {mg : Str → Option Value} {fa f0 f1 f2 f3 f4 f5 f6 f7 f8 f9 : Addr} (X : K.In h) (G : h.Ns mainGlobals mg) (hfa : mg "law" = some (.ref fa))
    {od0 an0 od1 an1 od2 an2 od3 an3 od4 an4 od5 an5 od6 an6 od7 an7 od8 an8 od9 an9 : Option Addr} {sl0 sl1 sl2 sl3 sl4 sl5 sl6 sl7 sl8 sl9 : Array (Option Value)} {oc0 kv0 dc0 pm0 cd0 ct0 oc1 kv1 dc1 pm1 cd1 ct1 oc2 kv2 dc2 pm2 cd2 ct2 oc3 kv3 dc3 pm3 cd3 ct3 oc4 kv4 dc4 pm4 cd4 ct4 oc5 kv5 dc5 pm5 cd5 ct5 oc6 kv6 dc6 pm6 cd6 ct6 oc7 kv7 dc7 pm7 cd7 ct7 oc8 kv8 dc8 pm8 cd8 ct8 oc9 kv9 dc9 pm9 cd9 ct9 : Value}
    (a0 : PySem.W.nsIn K mainGlobals "forced" = some (some (.ref f0))) (l0 : K.lookup f0 = some ⟨oc0, od0, .func (PySem.W.fnOf "forced" "forced" (defArgs s_forced) (defBody s_forced) (defScope s_forced) .none kv0 dc0 pm0 an0 cd0 ct0), sl0⟩) (c0 : PySem.W.codeIn K cd0 "forced" = true) (k0 : PySem.W.keepIn K (.ref f0) = true)
    (a1 : PySem.W.nsIn K mainGlobals "_without_input" = some (some (.ref f1))) (l1 : K.lookup f1 = some ⟨oc1, od1, .func (PySem.W.fnOf "_without_input" "_without_input" (defArgs s_without_input) (defBody s_without_input) (defScope s_without_input) .none kv1 dc1 pm1 an1 cd1 ct1), sl1⟩) (c1 : PySem.W.codeIn K cd1 "_without_input" = true) (k1 : PySem.W.keepIn K (.ref f1) = true)
    (a2 : PySem.W.nsIn K mainGlobals "_law_pool" = some (some (.ref f2))) (l2 : K.lookup f2 = some ⟨oc2, od2, .func (PySem.W.fnOf "_law_pool" "_law_pool" (defArgs s_law_pool) (defBody s_law_pool) (defScope s_law_pool) .none kv2 dc2 pm2 an2 cd2 ct2), sl2⟩) (c2 : PySem.W.codeIn K cd2 "_law_pool" = true) (k2 : PySem.W.keepIn K (.ref f2) = true)
    (a3 : PySem.W.nsIn K mainGlobals "_law_spread" = some (some (.ref f3))) (l3 : K.lookup f3 = some ⟨oc3, od3, .func (PySem.W.fnOf "_law_spread" "_law_spread" (defArgs s_law_spread) (defBody s_law_spread) (defScope s_law_spread) .none kv3 dc3 pm3 an3 cd3 ct3), sl3⟩) (c3 : PySem.W.codeIn K cd3 "_law_spread" = true) (k3 : PySem.W.keepIn K (.ref f3) = true)
    (a4 : PySem.W.nsIn K mainGlobals "_law_draw" = some (some (.ref f4))) (l4 : K.lookup f4 = some ⟨oc4, od4, .func (PySem.W.fnOf "_law_draw" "_law_draw" (defArgs s_law_draw) (defBody s_law_draw) (defScope s_law_draw) .none kv4 dc4 pm4 an4 cd4 ct4), sl4⟩) (c4 : PySem.W.codeIn K cd4 "_law_draw" = true) (k4 : PySem.W.keepIn K (.ref f4) = true)
    (a5 : PySem.W.nsIn K mainGlobals "_law_same" = some (some (.ref f5))) (l5 : K.lookup f5 = some ⟨oc5, od5, .func (PySem.W.fnOf "_law_same" "_law_same" (defArgs s_law_same) (defBody s_law_same) (defScope s_law_same) .none kv5 dc5 pm5 an5 cd5 ct5), sl5⟩) (c5 : PySem.W.codeIn K cd5 "_law_same" = true) (k5 : PySem.W.keepIn K (.ref f5) = true)
    (a6 : PySem.W.nsIn K mainGlobals "_law_bits" = some (some (.ref f6))) (l6 : K.lookup f6 = some ⟨oc6, od6, .func (PySem.W.fnOf "_law_bits" "_law_bits" (defArgs s_law_bits) (defBody s_law_bits) (defScope s_law_bits) .none kv6 dc6 pm6 an6 cd6 ct6), sl6⟩) (c6 : PySem.W.codeIn K cd6 "_law_bits" = true) (k6 : PySem.W.keepIn K (.ref f6) = true)
    (a7 : PySem.W.nsIn K mainGlobals "_law_table" = some (some (.ref f7))) (l7 : K.lookup f7 = some ⟨oc7, od7, .func (PySem.W.fnOf "_law_table" "_law_table" (defArgs s_law_table) (defBody s_law_table) (defScope s_law_table) .none kv7 dc7 pm7 an7 cd7 ct7), sl7⟩) (c7 : PySem.W.codeIn K cd7 "_law_table" = true) (k7 : PySem.W.keepIn K (.ref f7) = true)
    (a8 : PySem.W.nsIn K mainGlobals "_law_due" = some (some (.ref f8))) (l8 : K.lookup f8 = some ⟨oc8, od8, .func (PySem.W.fnOf "_law_due" "_law_due" (defArgs s_law_due) (defBody s_law_due) (defScope s_law_due) .none kv8 dc8 pm8 an8 cd8 ct8), sl8⟩) (c8 : PySem.W.codeIn K cd8 "_law_due" = true) (k8 : PySem.W.keepIn K (.ref f8) = true)
    (a9 : PySem.W.nsIn K mainGlobals "law" = some (some (.ref f9))) (l9 : K.lookup f9 = some ⟨oc9, od9, .func (PySem.W.fnOf "law" "law" (defArgs s_law) (defBody s_law) (defScope s_law) .none kv9 dc9 pm9 an9 cd9 ct9), sl9⟩) (c9 : PySem.W.codeIn K cd9 "law" = true) (k9 : PySem.W.keepIn K (.ref f9) = true)
    (z0 : PySem.W.nsIn K mainGlobals "tuple" = some none) (z1 : PySem.W.nsIn K mainGlobals "zip" = some none) (z2 : PySem.W.nsIn K mainGlobals "int" = some none) (z3 : PySem.W.nsIn K mainGlobals "list" = some none) (z4 : PySem.W.nsIn K mainGlobals "range" = some none) (z5 : PySem.W.nsIn K mainGlobals "len" = some none) (z6 : PySem.W.nsIn K mainGlobals "isinstance" = some none) (z7 : PySem.W.nsIn K mainGlobals "bool" = some none) (z8 : PySem.W.nsIn K mainGlobals "str" = some none) :
    ∃ fd : FuncData, (∀ (s : Shared) (v : Value), BindsTo s fd ⟨[v], []⟩ [("script", v)]) ∧ ∀ base : Heap, K.In base → base.Ns mainGlobals mg → FnOk l.prog w K mg base CX0 4 fa fd ["script"] (spLaw K) := by
  have e := hfa.symm.trans (PySem.W.mg_of X G a9)
  cases e
  have F0 := fun_mk (st := s_forced) l0 c0 k0
  have F1 := fun_mk (st := s_without_input) l1 c1 k1
  have F2 := fun_mk (st := s_law_pool) l2 c2 k2
  have F3 := fun_mk (st := s_law_spread) l3 c3 k3
  have F4 := fun_mk (st := s_law_draw) l4 c4 k4
  have F5 := fun_mk (st := s_law_same) l5 c5 k5
  have F6 := fun_mk (st := s_law_bits) l6 c6 k6
  have F7 := fun_mk (st := s_law_table) l7 c7 k7
  have F8 := fun_mk (st := s_law_due) l8 c8 k8
  have F9 := fun_mk (st := s_law) l9 c9 k9
  have A : All K mg := ⟨⟨f0, _, F0, PySem.W.mg_of X G a0, F0.binds (ps := ["table", "partial"]) fun _ _ _ _ _ _ us hl => match us, hl with | [_, _], _ => rfl⟩,
    ⟨f1, _, F1, PySem.W.mg_of X G a1, F1.binds (ps := ["rows", "known"]) fun _ _ _ _ _ _ us hl => match us, hl with | [_, _], _ => rfl⟩,
    ⟨f2, _, F2, PySem.W.mg_of X G a2, F2.binds (ps := ["script"]) fun _ _ _ _ _ _ us hl => match us, hl with | [_], _ => rfl⟩,
    ⟨f3, _, F3, PySem.W.mg_of X G a3, F3.binds (ps := ["cell"]) fun _ _ _ _ _ _ us hl => match us, hl with | [_], _ => rfl⟩,
    ⟨f4, _, F4, PySem.W.mg_of X G a4, F4.binds (ps := ["pool", "many"]) fun _ _ _ _ _ _ us hl => match us, hl with | [_, _], _ => rfl⟩,
    ⟨f5, _, F5, PySem.W.mg_of X G a5, F5.binds (ps := ["actual", "due"]) fun _ _ _ _ _ _ us hl => match us, hl with | [_, _], _ => rfl⟩,
    ⟨f6, _, F6, PySem.W.mg_of X G a6, F6.binds (ps := ["index", "many"]) fun _ _ _ _ _ _ us hl => match us, hl with | [_, _], _ => rfl⟩,
    ⟨f7, _, F7, PySem.W.mg_of X G a7, F7.binds (ps := ["pool", "many"]) fun _ _ _ _ _ _ us hl => match us, hl with | [_, _], _ => rfl⟩,
    ⟨f8, _, F8, PySem.W.mg_of X G a8, F8.binds (ps := ["table", "partial"]) fun _ _ _ _ _ _ us hl => match us, hl with | [_, _], _ => rfl⟩,
    PySem.W.mg_none_of X G z0,
    PySem.W.mg_none_of X G z1,
    PySem.W.mg_none_of X G z2,
    PySem.W.mg_none_of X G z3,
    PySem.W.mg_none_of X G z4,
    PySem.W.mg_none_of X G z5,
    PySem.W.mg_none_of X G z6,
    PySem.W.mg_none_of X G z7,
    PySem.W.mg_none_of X G z8⟩
  exact ⟨_, fun s v => .of_eq rfl, fun base _ _ => glue A F9⟩
end G
open PySem PySem.W PyProof.Rows
set_option maxRecDepth 100000 in
set_option maxHeartbeats 0 in
theorem PySem.Challenge.cw_signoff_k12_what_is_forced_holds : PySem.Challenge.rw_signoff_k12_what_is_forced.Holds := by
  w_on; o_law; k_head; (case hw => w_witness2)
  k_fill
  refine L2.walk_of (l := PySem.Challenge.rw_signoff_k12_what_is_forced) (n := 63) (k := 4) (x := "script") (CX := fun _ => L2.CX0) (sp := fun w => G.spLaw _) rfl (by decide) rfl ⟨rfl, by decide, by decide⟩ (fun w h Y => PySem.W.kIn_of Y) ?F (fun _ _ a ns hl _ hS => ⟨a, ns, rfl, hS, hl, fun _ => rfl⟩) (fun _ _ _ _ _ h => h)
  case F =>
    intro w mg fa h KX GN hmg
    refine' G.all_mk KX GN hmg ?a0 ?l0 ?c0 ?k0 ?a1 ?l1 ?c1 ?k1 ?a2 ?l2 ?c2 ?k2 ?a3 ?l3 ?c3 ?k3 ?a4 ?l4 ?c4 ?k4 ?a5 ?l5 ?c5 ?k5 ?a6 ?l6 ?c6 ?k6 ?a7 ?l7 ?c7 ?k7 ?a8 ?l8 ?c8 ?k8 ?a9 ?l9 ?c9 ?k9 ?z0 ?z1 ?z2 ?z3 ?z4 ?z5 ?z6 ?z7 ?z8
    (case a0 => k_is)
    (case l0 => k_is)
    (case c0 => k_is)
    (case k0 => k_is)
    (case a1 => k_is)
    (case l1 => k_is)
    (case c1 => k_is)
    (case k1 => k_is)
    (case a2 => k_is)
    (case l2 => k_is)
    (case c2 => k_is)
    (case k2 => k_is)
    (case a3 => k_is)
    (case l3 => k_is)
    (case c3 => k_is)
    (case k3 => k_is)
    (case a4 => k_is)
    (case l4 => k_is)
    (case c4 => k_is)
    (case k4 => k_is)
    (case a5 => k_is)
    (case l5 => k_is)
    (case c5 => k_is)
    (case k5 => k_is)
    (case a6 => k_is)
    (case l6 => k_is)
    (case c6 => k_is)
    (case k6 => k_is)
    (case a7 => k_is)
    (case l7 => k_is)
    (case c7 => k_is)
    (case k7 => k_is)
    (case a8 => k_is)
    (case l8 => k_is)
    (case c8 => k_is)
    (case k8 => k_is)
    (case a9 => k_is)
    (case l9 => k_is)
    (case c9 => k_is)
    (case k9 => k_is)
    (case z0 => k_is)
    (case z1 => k_is)
    (case z2 => k_is)
    (case z3 => k_is)
    (case z4 => k_is)
    (case z5 => k_is)
    (case z6 => k_is)
    (case z7 => k_is)
    (case z8 => k_is)
#print axioms PySem.Challenge.cw_signoff_k12_what_is_forced_holds
