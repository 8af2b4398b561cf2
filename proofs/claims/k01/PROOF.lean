import PyProof.Rows.All
import Wide.All
import OpenK.AllK
import Wide.FinOn
import HandS.ForMost
import HandS.Evl
import HandS.Wide
import HandS.WideBits
import HandS.Flow
import HandS.IsInst
import HandS.TupAny
import HandS.Walk
import HandS.Zip
import HandS.Steps
import KE.GoesMore
import KE.GoesEnum
import KE.KEqSeq
import HandS.StrMore
import PyProof.StrLawsFirst
import PySem.Challenge.RW_signoff_k01_tokens_in_order
set_option Elab.async false
set_option linter.all false
set_option maxRecDepth 100000
set_option maxHeartbeats 4000000
set_option Elab.async false
set_option linter.all false
set_option maxRecDepth 100000
set_option maxHeartbeats 4000000
namespace G
open PySem PySem.Spec PyProof.Rows L2 Evl
/-! ## defs by name -/
def Dfd (K : PySem.W.Frag) (mg : Str → Option Value) (x : Str) (st : Stmt) (ps : List Str) : Prop := ∃ (f : Addr) (fd : FuncData), Fun K x x st f fd ∧ mg x = some (.ref f) ∧ Binds K fd ps []
def Has (P : Program) (w : World) (K : PySem.W.Frag) (mg : Str → Option Value) (base : Heap) (k : Nat) (x : Str) (ps : List Str) (sp : Sp) : Prop :=
  ∃ (f : Addr) (fd : FuncData), FnOk P w K mg base CX0 k f fd ps sp ∧ mg x = some (.ref f) ∧ PySem.W.keepIn K (.ref f) = true ∧ Binds K fd ps []
section
variable {P : Program} {w : World} {K : PySem.W.Frag} {mg : Str → Option Value} {base : Heap}
theorem Dfd.has {x : Str} {st : Stmt} {ps : List Str} {k : Nat} {sp : Sp} (d : Dfd K mg x st ps) (h : ∀ f fd, Fun K x x st f fd → FnOk P w K mg base CX0 k f fd ps sp) : Has P w K mg base k x ps sp := by
  obtain ⟨f, fd, F, g, b⟩ := d
  exact ⟨f, fd, h f fd F, g, F.kp, b⟩
theorem Has.mono {x : Str} {ps : List Str} {j k : Nat} {sp : Sp} (h : Has P w K mg base j x ps sp) (l : j ≤ k) : Has P w K mg base k x ps sp := by
  obtain ⟨f, fd, F, g⟩ := h
  exact ⟨f, fd, F.mono l, g⟩
theorem Has.imp {x : Str} {ps : List Str} {k : Nat} {sp sp' : Sp} (h : Has P w K mg base k x ps sp) (i : ∀ vs H Q E, sp' vs H Q E → sp vs H Q E) : Has P w K mg base k x ps sp' := by
  obtain ⟨f, fd, F, g⟩ := h
  exact ⟨f, fd, F.imp i, g⟩
end
/-! ## heaps -/
theorem sq_ex {K : PySem.W.Frag} {H H' : Hp} {a : Addr} {xs : List V} (e : Ex H H') (h : SqL K H a xs) : SqL K H' a xs := ex_l e h
/-- the heap without what stands at p -/
def hid (p : Addr) (H : Hp) : Hp := fun b => if b = p then none else H b
theorem hid_self {p : Addr} {H : Hp} : hid p H p = none := by unfold hid; rw [if_pos rfl]
theorem hid_ne {p b : Addr} {H : Hp} (h : b ≠ p) : hid p H b = H b := by unfold hid; rw [if_neg h]
theorem hid_get {p b : Addr} {H : Hp} {o : HO} (h : hid p H b = some o) : H b = some o := by
  by_cases e : b = p
  · subst e; rw [hid_self] at h; cases h
  · rw [hid_ne e] at h; exact h
theorem hid_neq {p b : Addr} {H : Hp} {o : HO} (h : hid p H b = some o) : b ≠ p := by
  intro e; subst e; rw [hid_self] at h; cases h
theorem hid_ex {p : Addr} {H : Hp} : Ex (hid p H) H := fun _ _ h => hid_get h
theorem hid_upd {p : Addr} {H : Hp} {o : HO} : hid p (upd H p o) = hid p H := by
  funext b
  by_cases e : b = p
  · subst e; rw [hid_self, hid_self]
  · rw [hid_ne e, hid_ne e, upd_ne e]
theorem hid_upd_ne {p q : Addr} {H : Hp} {o : HO} (h : q ≠ p) : hid p (upd H q o) = upd (hid p H) q o := by
  funext b
  by_cases e2 : b = q
  · subst e2; rw [hid_ne h, upd_same, upd_same]
  · rw [upd_ne e2]
    by_cases e : b = p
    · subst e; rw [hid_self, hid_self]
    · rw [hid_ne e, hid_ne e, upd_ne e2]
theorem hid_none {p b : Addr} {H : Hp} (h : H b = none) : hid p H b = none := by
  unfold hid; split
  · rfl
  · exact h
/-! ## the pool of draws: the list at p, the script's copy at a -/
def PoolOk (p a : Addr) (H : Hp) : Prop := ∃ (ns : List Int) (i : Nat) (c k s : Int), H p = some (.lst [.ref a, .int i, .int c, .int k, .int s]) ∧ hid p H a = some (.lst (ns.map V.int)) ∧ ns.length ≤ 1000
/-- from H to H' all but the pool is kept, and the pool is a pool -/
structure Px (p a : Addr) (H H' : Hp) : Prop where
  was : PoolOk p a H
  pool : PoolOk p a H'
  ex : Ex (hid p H) (hid p H')
section
variable {p a : Addr} {H H1 H2 H' : Hp}
theorem Px.refl (h : PoolOk p a H) : Px p a H H := ⟨h, h, Ex.refl _⟩
theorem Px.trans (x : Px p a H H1) (y : Px p a H1 H2) : Px p a H H2 := ⟨x.was, y.pool, x.ex.trans y.ex⟩
theorem PoolOk.ne {b : Addr} (h : PoolOk p a H) (n : H b = none) : b ≠ p := by
  obtain ⟨_, _, _, _, _, e, _⟩ := h
  exact (ne_of_none e n).symm
theorem PoolOk.ne2 {b : Addr} (h : PoolOk p a H) (n : H b = none) : a ≠ b := by
  obtain ⟨_, _, _, _, _, _, e, _⟩ := h
  exact ne_of_none (hid_get e) n
theorem PoolOk.kept (h : PoolOk p a H) (e : Ex H H') : PoolOk p a H' := by
  obtain ⟨ns, i, c, k, s, h1, h2, h3⟩ := h
  exact ⟨ns, i, c, k, s, e _ _ h1, by rw [hid_ne (hid_neq h2)]; exact e _ _ (hid_get h2), h3⟩
theorem Px.ofEx (h : PoolOk p a H) (e : Ex H H') : Px p a H H' := ⟨h, h.kept e, fun b o hb => by rw [hid_ne (hid_neq hb)]; exact e _ _ (hid_get hb)⟩
theorem Px.more (x : Px p a H H1) (e : Ex H1 H2) : Px p a H H2 := x.trans (Px.ofEx x.pool e)
theorem Px.draw {o : HO} (w : PoolOk p a H) (h : PoolOk p a (upd H p o)) : Px p a H (upd H p o) := ⟨w, h, by rw [hid_upd]; exact Ex.refl _⟩
theorem Px.new (x : Px p a H H1) {l : Addr} {o : HO} (n : H1 l = none) : Px p a H (upd H1 l o) := x.more (Ex.new n)
/-- what H has is kept -/
theorem Px.get (x : Px p a H H1) {b : Addr} {o : HO} (h : hid p H b = some o) : hid p H1 b = some o := x.ex _ _ h
theorem Px.at_ (x : Px p a H H1) {b : Addr} {o : HO} (h : hid p H b = some o) : H1 b = some o := hid_get (x.ex _ _ h)
theorem Px.free (x : Px p a H H1) {b : Addr} (n : H1 b = none) : H b = none := by
  cases e : H b with
  | none => rfl
  | some o =>
    have hb : b ≠ p := x.pool.ne n
    have := x.ex b o (by rw [hid_ne hb]; exact e)
    rw [hid_get this] at n; cases n
/-- an object that H does not have may change -/
theorem Px.mut (x : Px p a H H1) {l : Addr} {o : HO} (n : H l = none) : Px p a H (upd H1 l o) := by
  have hl : l ≠ p := x.was.ne n
  have ha : a ≠ l := x.was.ne2 n
  refine ⟨x.was, ?_, ?_⟩
  · obtain ⟨ns, i, c, k, s, h1, h2, h3⟩ := x.pool
    exact ⟨ns, i, c, k, s, by rw [upd_ne hl.symm]; exact h1, by rw [hid_upd_ne hl, upd_ne ha]; exact h2, h3⟩
  · rw [hid_upd_ne hl]; exact Ex.mut x.ex (hid_none n)
/-- a fresh object stands apart from the pool -/
theorem Px.seen (x : Px p a H H1) {l : Addr} {o : HO} (n : H l = none) (e : H1 l = some o) : hid p H1 l = some o := by
  rw [hid_ne (x.was.ne n)]; exact e
end
end G
namespace G
open PySem PySem.Spec PyProof.Rows L2 Evl
/-! ## comprehensions whose elements are plain values -/
theorem given_all {n : Nat} {v : Nat → V} : given n (fun _ => true) v = (List.range n).map v := by
  unfold given
  rw [List.filter_eq_self.mpr (fun _ _ => rfl)]
section
variable {lo : Int} {n j : Nat} {tt : TT} {te : TE} {vs : List Nat} {σ : L2.St} {H1 : Hp} {D : Addr} {Qd : Hp → Prop} {K : PySem.W.Frag} {a : Addr} {xs : List V}
theorem lc_turn {f : Nat → Bool} {v : Nat → V} {i : Nat} {H : Hp} {σ2 : L2.St} (e : H = upd H1 D (.lst (given i f v))) (hi : i < 100000) (ht : Ans tt σ2 H (f i)) (he : f i = true → Val te σ2 H (v i)) :
    tt σ2 H fun b H3 => if b = true then te σ2 H3 fun y H4 => ∃ acc, H4 D = some (.lst acc) ∧ acc.length < sizeLine ∧ (upd H4 D (.lst (acc ++ [y]))) = upd H1 D (.lst (given (i + 1) f v)) else H3 = upd H1 D (.lst (given (i + 1) f v)) := by
  refine ht _ ?_
  subst e
  cases hf : f i with
  | true =>
    refine iteT (he hf _ ⟨_, upd_same, sz_lt (by have := given_len i f v; omega), ?_⟩)
    rw [given_yes hf, upd_upd]
  | false =>
    refine iteF ?_
    rw [given_no hf]
theorem lcR (f : Nat → Bool) (v : Nat → V) (hn : n ≤ 100000) (hw : ∀ x, wipe ((wipe σ vs).set j (some x)) vs = wipe σ vs)
    (ht : ∀ (i : Nat) (H : Hp), i < n → H = upd H1 D (.lst (given i f v)) → Ans tt ((wipe σ vs).set j (some (.int (lo + i)))) H (f i))
    (he : ∀ (i : Nat) (H : Hp), i < n → H = upd H1 D (.lst (given i f v)) → f i = true → Val te ((wipe σ vs).set j (some (.int (lo + i)))) H (v i)) (q : Qd (upd H1 D (.lst (given n f v)))) :
    ∃ W : Nat → Nat → Hp → Prop, (∃ m, W 0 m (upd H1 D (.lst []))) ∧ ∀ i m H, W i m H →
      ((Itr lo n).stop i H ∧ Qd H) ∨ ((Itr lo n).go i H ∧ ∃ Nx : Hp → Prop, (∀ H', Nx H' → ∃ m', m' < m ∧ W (i + 1) m' H') ∧ ∀ x H', (Itr lo n).yld i H x H' → gName j x (wipe σ vs) H' fun σ2 H2 => wipe σ2 vs = wipe σ vs ∧ tt σ2 H2 fun b H3 =>
        if b = true then te σ2 H3 fun y H4 => ∃ acc, H4 D = some (.lst acc) ∧ acc.length < sizeLine ∧ Nx (upd H4 D (.lst (acc ++ [y]))) else Nx H3) :=
  lc_range (fun i H => H = upd H1 D (.lst (given i f v))) rfl (fun i H hi e => ⟨hw _, lc_turn e (by omega) (ht i H hi e) (he i H hi e)⟩) (fun H e => by rw [e]; exact q)
theorem lcRv (v : Nat → V) (hn : n ≤ 100000) (hw : ∀ x, wipe ((wipe σ vs).set j (some x)) vs = wipe σ vs)
    (he : ∀ (i : Nat) (H : Hp), i < n → H = upd H1 D (.lst (given i (fun _ => true) v)) → Val te ((wipe σ vs).set j (some (.int (lo + i)))) H (v i)) (q : Qd (upd H1 D (.lst ((List.range n).map v)))) :
    ∃ W : Nat → Nat → Hp → Prop, (∃ m, W 0 m (upd H1 D (.lst []))) ∧ ∀ i m H, W i m H →
      ((Itr lo n).stop i H ∧ Qd H) ∨ ((Itr lo n).go i H ∧ ∃ Nx : Hp → Prop, (∀ H', Nx H' → ∃ m', m' < m ∧ W (i + 1) m' H') ∧ ∀ x H', (Itr lo n).yld i H x H' → gName j x (wipe σ vs) H' fun σ2 H2 => wipe σ2 vs = wipe σ vs ∧ tYes σ2 H2 fun b H3 =>
        if b = true then te σ2 H3 fun y H4 => ∃ acc, H4 D = some (.lst acc) ∧ acc.length < sizeLine ∧ Nx (upd H4 D (.lst (acc ++ [y]))) else Nx H3) :=
  lcR (fun _ => true) v hn hw (fun _ _ _ _ => fun _ q => q) (fun i H hi e _ => he i H hi e) (by rw [given_all]; exact q)
theorem lcL (f : Nat → Bool) (v : Nat → V) (hx : SqL K H1 a xs) (hD : H1 D = none) (hn : xs.length ≤ 100000) (hw : ∀ x, wipe ((wipe σ vs).set j (some x)) vs = wipe σ vs)
    (ht : ∀ (i : Nat) (x : V) (H : Hp), xs[i]? = some x → H = upd H1 D (.lst (given i f v)) → Ans tt ((wipe σ vs).set j (some x)) H (f i))
    (he : ∀ (i : Nat) (x : V) (H : Hp), xs[i]? = some x → H = upd H1 D (.lst (given i f v)) → f i = true → Val te ((wipe σ vs).set j (some x)) H (v i)) (q : Qd (upd H1 D (.lst (given xs.length f v)))) :
    ∃ W : Nat → Nat → Hp → Prop, (∃ m, W 0 m (upd H1 D (.lst []))) ∧ ∀ i m H, W i m H →
      ((Itl K a).stop i H ∧ Qd H) ∨ ((Itl K a).go i H ∧ ∃ Nx : Hp → Prop, (∀ H', Nx H' → ∃ m', m' < m ∧ W (i + 1) m' H') ∧ ∀ x H', (Itl K a).yld i H x H' → gName j x (wipe σ vs) H' fun σ2 H2 => wipe σ2 vs = wipe σ vs ∧ tt σ2 H2 fun b H3 =>
        if b = true then te σ2 H3 fun y H4 => ∃ acc, H4 D = some (.lst acc) ∧ acc.length < sizeLine ∧ Nx (upd H4 D (.lst (acc ++ [y]))) else Nx H3) :=
  lc_list (fun i H => H = upd H1 D (.lst (given i f v))) rfl (fun i H hi e => by rw [e]; exact ex_l (Ex.new hD) hx) (fun i x H hi e => ⟨hw _, lc_turn e (by have := (List.getElem?_eq_some_iff.mp hi).1; omega) (ht i x H hi e) (he i x H hi e)⟩) (fun H e => by rw [e]; exact q)
theorem lcT (f : Nat → Bool) (v : Nat → V) (hx : SqT K H1 a xs) (hD : H1 D = none) (hn : xs.length ≤ 100000) (hw : ∀ x, wipe ((wipe σ vs).set j (some x)) vs = wipe σ vs)
    (ht : ∀ (i : Nat) (x : V) (H : Hp), xs[i]? = some x → H = upd H1 D (.lst (given i f v)) → Ans tt ((wipe σ vs).set j (some x)) H (f i))
    (he : ∀ (i : Nat) (x : V) (H : Hp), xs[i]? = some x → H = upd H1 D (.lst (given i f v)) → f i = true → Val te ((wipe σ vs).set j (some x)) H (v i)) (q : Qd (upd H1 D (.lst (given xs.length f v)))) :
    ∃ W : Nat → Nat → Hp → Prop, (∃ m, W 0 m (upd H1 D (.lst []))) ∧ ∀ i m H, W i m H →
      ((Itt K a).stop i H ∧ Qd H) ∨ ((Itt K a).go i H ∧ ∃ Nx : Hp → Prop, (∀ H', Nx H' → ∃ m', m' < m ∧ W (i + 1) m' H') ∧ ∀ x H', (Itt K a).yld i H x H' → gName j x (wipe σ vs) H' fun σ2 H2 => wipe σ2 vs = wipe σ vs ∧ tt σ2 H2 fun b H3 =>
        if b = true then te σ2 H3 fun y H4 => ∃ acc, H4 D = some (.lst acc) ∧ acc.length < sizeLine ∧ Nx (upd H4 D (.lst (acc ++ [y]))) else Nx H3) :=
  lc_tup (fun i H => H = upd H1 D (.lst (given i f v))) rfl (fun i H hi e => by rw [e]; exact ex_t (Ex.new hD) hx) (fun i x H hi e => ⟨hw _, lc_turn e (by have := (List.getElem?_eq_some_iff.mp hi).1; omega) (ht i x H hi e) (he i x H hi e)⟩) (fun H e => by rw [e]; exact q)
theorem lcLm (g : V → V) (hx : SqL K H1 a xs) (hD : H1 D = none) (hn : xs.length ≤ 100000) (hw : ∀ x, wipe ((wipe σ vs).set j (some x)) vs = wipe σ vs)
    (he : ∀ (i : Nat) (x : V) (H : Hp), xs[i]? = some x → H = upd H1 D (.lst ((xs.take i).map g)) → Val te ((wipe σ vs).set j (some x)) H (g x)) (q : Qd (upd H1 D (.lst (xs.map g)))) :
    ∃ W : Nat → Nat → Hp → Prop, (∃ m, W 0 m (upd H1 D (.lst []))) ∧ ∀ i m H, W i m H →
      ((Itl K a).stop i H ∧ Qd H) ∨ ((Itl K a).go i H ∧ ∃ Nx : Hp → Prop, (∀ H', Nx H' → ∃ m', m' < m ∧ W (i + 1) m' H') ∧ ∀ x H', (Itl K a).yld i H x H' → gName j x (wipe σ vs) H' fun σ2 H2 => wipe σ2 vs = wipe σ vs ∧ tYes σ2 H2 fun b H3 =>
        if b = true then te σ2 H3 fun y H4 => ∃ acc, H4 D = some (.lst acc) ∧ acc.length < sizeLine ∧ Nx (upd H4 D (.lst (acc ++ [y]))) else Nx H3) :=
  lc_list (fun i H => H = upd H1 D (.lst ((xs.take i).map g))) (by rw [List.take_zero]; rfl) (fun i H hi e => by rw [e]; exact ex_l (Ex.new hD) hx)
    (fun i x H hi e => ⟨hw _, by
      refine iteT (B := H = upd H1 D (.lst ((xs.take (i + 1)).map g))) ?_
      refine he i x H hi e _ ?_
      subst e
      refine ⟨_, upd_same, sz_lt ?_, ?_⟩
      · rw [List.length_map, List.length_take]; have := (List.getElem?_eq_some_iff.mp hi).1; omega
      · rw [upd_upd, List.take_add_one, hi, List.map_append]; rfl⟩) (fun H e => by rw [e, List.take_length]; exact q)
theorem lcTm (g : V → V) (hx : SqT K H1 a xs) (hD : H1 D = none) (hn : xs.length ≤ 100000) (hw : ∀ x, wipe ((wipe σ vs).set j (some x)) vs = wipe σ vs)
    (he : ∀ (i : Nat) (x : V) (H : Hp), xs[i]? = some x → H = upd H1 D (.lst ((xs.take i).map g)) → Val te ((wipe σ vs).set j (some x)) H (g x)) (q : Qd (upd H1 D (.lst (xs.map g)))) :
    ∃ W : Nat → Nat → Hp → Prop, (∃ m, W 0 m (upd H1 D (.lst []))) ∧ ∀ i m H, W i m H →
      ((Itt K a).stop i H ∧ Qd H) ∨ ((Itt K a).go i H ∧ ∃ Nx : Hp → Prop, (∀ H', Nx H' → ∃ m', m' < m ∧ W (i + 1) m' H') ∧ ∀ x H', (Itt K a).yld i H x H' → gName j x (wipe σ vs) H' fun σ2 H2 => wipe σ2 vs = wipe σ vs ∧ tYes σ2 H2 fun b H3 =>
        if b = true then te σ2 H3 fun y H4 => ∃ acc, H4 D = some (.lst acc) ∧ acc.length < sizeLine ∧ Nx (upd H4 D (.lst (acc ++ [y]))) else Nx H3) :=
  lc_tup (fun i H => H = upd H1 D (.lst ((xs.take i).map g))) (by rw [List.take_zero]; rfl) (fun i H hi e => by rw [e]; exact ex_t (Ex.new hD) hx)
    (fun i x H hi e => ⟨hw _, by
      refine iteT (B := H = upd H1 D (.lst ((xs.take (i + 1)).map g))) ?_
      refine he i x H hi e _ ?_
      subst e
      refine ⟨_, upd_same, sz_lt ?_, ?_⟩
      · rw [List.length_map, List.length_take]; have := (List.getElem?_eq_some_iff.mp hi).1; omega
      · rw [upd_upd, List.take_add_one, hi, List.map_append]; rfl⟩) (fun H e => by rw [e, List.take_length]; exact q)
end
end G
namespace G
open PySem PySem.Spec PyProof.Rows L2 Evl
/-! ## rules within a comprehension's block: the written part by its letter -/
section
variable {X : Cx} {K : PySem.W.Frag}
theorem kIxT (h : X.K = K) : IxR X (rIxT K) := by subst h; exact ix_tup
theorem kIxL (h : X.K = K) : IxR X (rIxL K) := by subst h; exact ix_list
theorem kIx (h : X.K = K) : IxR X (rIx K) := by subst h; exact ix_seq
theorem kIn (h : X.K = K) : OpR X (compareOp .In) (rIn K false) := by subst h; exact op_in_seq
theorem kNotIn (h : X.K = K) : OpR X (compareOp .NotIn) (rIn K true) := by subst h; exact op_notIn_seq
theorem kLen (h : X.K = K) : CallR X (.builtin "len") (rLenS K) := by subst h; exact call_len_seq
theorem gStr {x s : Str} {t : Tok} {pos : Pos} (hg : Gl X x) (h : X.mg x = some (.str s t)) (hd : (x == ("__debug__" : Str)) = false := by decide) : PE X (.Name x pos) (tC (.str s)) := pe_glob (v := .str s) hg h ⟨t, rfl⟩ hd
theorem gInt {x : Str} {i : Int} {t : Tok} {pos : Pos} (hg : Gl X x) (h : X.mg x = some (.int i t)) (hd : (x == ("__debug__" : Str)) = false := by decide) : PE X (.Name x pos) (tC (.int i)) := pe_glob (v := .int i) hg h ⟨t, rfl⟩ hd
theorem gRef {x : Str} {a : Addr} {pos : Pos} (hg : Gl X x) (h : X.mg x = some (.ref a)) (hd : (x == ("__debug__" : Str)) = false := by decide) : PE X (.Name x pos) (tC (.ref a)) := pe_glob (v := .ref a) hg h rfl hd
theorem kSlL (h : X.K = K) : SlR X (rSlL K) := by subst h; exact sl_list
theorem kCatA (h : X.K = K) : OpR X (binaryOp .Add) (rCatA K) := by subst h; exact op_catA
theorem kAny (h : X.K = K) (hc : X.calm = true) : CallR X (.builtin "any") (rAny K) := by subst h; exact cr_any hc
theorem kAll (h : X.K = K) (hc : X.calm = true) : CallR X (.builtin "all") (rAll K) := by subst h; exact cr_all hc
theorem kLtT (h : X.K = K) (hu : X.A.units < cLine) : OpR X (compareOp .Lt) (rLtT K) := by subst h; exact op_ltT hu
theorem kPiT {e tg : Expr} {te : TE} (h : X.K = K) (he : PE X e te) : PI X tg e (iTup K te) := by subst h; exact pi_tup he
theorem kPiL {e tg : Expr} {te : TE} (h : X.K = K) (he : PE X e te) : PI X tg e (iList K te) := by subst h; exact pi_list he
theorem kSlA (h : X.K = K) : SlR X (rSlA K) := by subst h; exact sl_tupA
end
end G
namespace G
open PySem PySem.Spec PyProof.Rows L2 Evl
theorem tYes_in {σ : L2.St} {H : Hp} {A B : Hp → Prop} (h : A H) : tYes σ H (fun b H3 => if b = true then A H3 else B H3) := by
  show if true = true then A H else B H
  exact iteT h
def tabV (bs : List Bool) : HO := .tup (bs.map V.bl)
theorem inV_ints {k : Int} {l : List Int} : inV (.int k) (l.map V.int) = l.contains k := by
  unfold inV
  rw [List.any_map, List.contains_eq_any_beq]
  congr 1
  funext y
  show (y == k) = (k == y)
  rw [Bool.eq_iff_iff]; simp; exact eq_comm
theorem inV_bls {k : Bool} {l : List Bool} : inV (.bl k) (l.map V.bl) = l.contains k := by
  unfold inV
  rw [List.any_map, List.contains_eq_any_beq]
  congr 1
  funext y
  show (y == k) = (k == y)
  cases y <;> cases k <;> rfl
theorem flat_map {α : Type} {f : α → V} (h : ∀ x, flatV (f x) = true) (l : List α) : (l.map f).all flatV = true := by
  rw [List.all_map]
  exact List.all_eq_true.mpr fun x _ => h x
end G
/-! ## texts -/
namespace G
open PySem PySem.Spec PyProof.Rows L2 Evl TL
open PySem.StrLaws (At occBody occ_eq occ_first)
open PySem.Builtin.Str (occurrences)
/-- the text of these signs -/
def mk (l : List Nat) : Str := ⟨l.toArray⟩
theorem tl_mkS (l : List Nat) : tl (mk l) = l := rfl
theorem mk_tlS (x : Str) : mk (tl x) = x := mk_tl x
theorem mk_inj {a b : List Nat} : mk a = mk b ↔ a = b := ⟨fun h => by have := congrArg tl h; exact this, fun h => by rw [h]⟩
theorem mk_app (a b : List Nat) : mk a ++ mk b = mk (a ++ b) := ext_tl (by rw [tl_append, tl_mkS, tl_mkS, tl_mkS])
theorem mk_len (a : List Nat) : (mk a).length = a.length := by rw [len_tl, tl_mkS]
theorem mk_one (c : Nat) : (⟨#[c]⟩ : Str) = mk [c] := rfl
theorem decV_str (a b : Str) : decide (V.str a = V.str b) = decide (a = b) := by
  by_cases h : a = b
  · rw [h, decide_eq_true rfl, decide_eq_true rfl]
  · rw [decide_eq_false h, decide_eq_false fun q => h (V.str.inj q)]
theorem decV_mk (a b : List Nat) : decide (V.str (mk a) = V.str (mk b)) = decide (a = b) := by
  rw [decV_str]
  by_cases h : a = b
  · rw [h, decide_eq_true rfl, decide_eq_true rfl]
  · rw [decide_eq_false h, decide_eq_false fun q => h (mk_inj.mp q)]
theorem occ_from (x y : Str) (lo : Nat) : (occurrences x y lo x.length 1 = [] ∧ ∀ k, lo ≤ k → ¬ At x y x.length k) ∨ ∃ k r, occurrences x y lo x.length 1 = k :: r ∧ lo ≤ k ∧ At x y x.length k ∧ ∀ j, lo ≤ j → j < k → ¬ At x y x.length j := by
  rw [occ_eq]
  have hmem : ∀ k, At x y x.length k → lo ≤ k → k ∈ List.range' lo (x.length + 1 - lo) := fun k hk hl => by
    have := hk.1
    simp [List.mem_range'_1]; omega
  rcases occ_first x y x.length 1 (by decide) (List.range' lo (x.length + 1 - lo)) lo (fun i hi => by simp [List.mem_range'_1] at hi; omega) with ⟨h0, hn⟩ | ⟨pr, a, post, e, h0, ha, hn⟩
  · exact .inl ⟨by rw [h0], fun k hl hk => hn k (hmem k hk hl) hk⟩
  · have hal : lo ≤ a := by
      have : a ∈ List.range' lo (x.length + 1 - lo) := by rw [e]; simp
      simp [List.mem_range'_1] at this; omega
    refine .inr ⟨a, ((forIn (List.range' lo (x.length + 1 - lo)) ((#[] : Array Nat), lo) (occBody x y x.length 1)).run.fst.toList).tail, ?_, hal, ha, fun j hl hj hA => ?_⟩
    · generalize (forIn (List.range' lo (x.length + 1 - lo)) ((#[] : Array Nat), lo) (occBody x y x.length 1)).run.fst = arr at h0
      have h1 : arr.toList[0]? = some a := by simpa using h0
      cases hL : arr.toList with
      | nil => rw [hL] at h1; cases h1
      | cons b t => rw [hL] at h1; simp at h1; rw [h1]; rfl
    · have hm := hmem j hA hl
      rw [e] at hm
      have hs : (pr ++ a :: post).Pairwise (· < ·) := by rw [← e]; exact List.pairwise_lt_range'
      rcases List.mem_append.mp hm with z | z
      · exact hn j z hA
      · rcases List.mem_cons.mp z with z | z
        · omega
        · have := (List.pairwise_cons.mp (List.pairwise_append.mp hs).2.1).1 j z
          omega
theorem at_one {x : Str} {c k : Nat} : At x (mk [c]) x.length k ↔ (tl x)[k]? = some c := by
  rw [at_iff (by rw [tl_mkS]; simp), tl_mkS]
  unfold pre
  show (((tl x).drop k).take 1 == [c]) = true ↔ _
  rw [beq_iff_eq]
  have h0 : (tl x)[k]? = ((tl x).drop k)[0]? := by rw [List.getElem?_drop, Nat.add_zero]
  rw [h0]
  cases (tl x).drop k with
  | nil => simp
  | cons d r => simp
theorem find_hit {x : Str} {c i : Nat} {body rest : List Nat} (h : (tl x).drop i = body ++ c :: rest) (hb : c ∉ body) : Txt.find3 x (mk [c]) (i : Int) = ((i + body.length : Nat) : Int) := by
  unfold Txt.find3
  rw [show PySem.fromIndex x.length (i : Int) = i by unfold PySem.fromIndex; rw [if_neg (by omega)]; omega]
  have hat : ∀ j, (tl x)[i + j]? = (body ++ c :: rest)[j]? := fun j => by rw [← h, List.getElem?_drop]
  have hhit : At x (mk [c]) x.length (i + body.length) := at_one.mpr (by rw [hat, List.getElem?_append_right (Nat.le_refl _), Nat.sub_self]; rfl)
  rcases occ_from x (mk [c]) i with ⟨_, hn⟩ | ⟨k, r, e, hl, hA, hn⟩
  · exact absurd hhit (hn _ (by omega))
  · rw [e]
    show ((k : Nat) : Int) = _
    have h1 : ¬ i + body.length < k := fun q => hn _ (by omega) q hhit
    have h2 : ¬ k < i + body.length := fun q => by
      have := at_one.mp hA
      obtain ⟨j, rfl⟩ : ∃ j, k = i + j := ⟨k - i, by omega⟩
      rw [hat, List.getElem?_append_left (by omega)] at this
      exact hb (List.mem_of_getElem? this)
    omega
theorem find_miss {x : Str} {c i : Nat} (h : c ∉ (tl x).drop i) : Txt.find3 x (mk [c]) (i : Int) = -1 := by
  unfold Txt.find3
  rw [show PySem.fromIndex x.length (i : Int) = i by unfold PySem.fromIndex; rw [if_neg (by omega)]; omega]
  rcases occ_from x (mk [c]) i with ⟨e, _⟩ | ⟨k, r, e, hl, hA, hn⟩
  · rw [e]
  · have := at_one.mp hA
    obtain ⟨j, rfl⟩ : ∃ j, k = i + j := ⟨k - i, by omega⟩
    rw [← List.getElem?_drop] at this
    exact absurd (List.mem_of_getElem? this) h
theorem starts_at {x y : Str} {i : Nat} (hy : tl y ≠ []) : Txt.startswith3 x y (i : Int) = pre (tl y) ((tl x).drop i) := by
  unfold Txt.startswith3
  rw [show PySem.fromIndex x.length (i : Int) = i by unfold PySem.fromIndex; rw [if_neg (by omega)]; omega]
  have h := at_iff (x := x) hy i
  unfold At at h
  rw [Bool.eq_iff_iff, Bool.and_eq_true, decide_eq_true_iff]
  exact h
theorem pre_iff {S L : List Nat} : pre S L = true ↔ ∃ r, L = S ++ r := by
  unfold pre
  rw [beq_iff_eq]
  constructor
  · intro h; exact ⟨L.drop S.length, by conv => lhs; rw [← List.take_append_drop S.length L, h]⟩
  · rintro ⟨r, rfl⟩; exact List.take_left' rfl
/-- the signs of x from i to j -/
theorem cut_nat {x : Str} {i j : Nat} (hi : i ≤ j) (hj : j ≤ x.length) : cutS x (some (i : Int)) (some (j : Int)) = mk (((tl x).drop i).take (j - i)) := by
  unfold cutS
  have e1 : HT.sIx x.length 0 (some (i : Int)) = i := by rw [HT.sIx_nat]; omega
  have e2 : HT.sIx x.length x.length (some (j : Int)) = j := by rw [HT.sIx_nat]; omega
  rw [e1, e2]; rfl
section
variable {tt : TT} {te : TE} {vs : List Nat} {σ : L2.St} {H1 : Hp} {D : Addr} {Qd : Hp → Prop} {j : Nat}
theorem lcSm {z : Str} (g : Nat → V) (hn : z.length ≤ 100000) (hw : ∀ x, wipe ((wipe σ vs).set j (some x)) vs = wipe σ vs)
    (he : ∀ (i c : Nat) (H : Hp), (tl z)[i]? = some c → H = upd H1 D (.lst (((tl z).take i).map g)) → Val te ((wipe σ vs).set j (some (.str (mk [c])))) H (g c)) (q : Qd (upd H1 D (.lst ((tl z).map g)))) :
    ∃ W : Nat → Nat → Hp → Prop, (∃ m, W 0 m (upd H1 D (.lst []))) ∧ ∀ i m H, W i m H →
      ((Its z).stop i H ∧ Qd H) ∨ ((Its z).go i H ∧ ∃ Nx : Hp → Prop, (∀ H', Nx H' → ∃ m', m' < m ∧ W (i + 1) m' H') ∧ ∀ x H', (Its z).yld i H x H' → gName j x (wipe σ vs) H' fun σ2 H2 => wipe σ2 vs = wipe σ vs ∧ tYes σ2 H2 fun b H3 =>
        if b = true then te σ2 H3 fun y H4 => ∃ acc, H4 D = some (.lst acc) ∧ acc.length < sizeLine ∧ Nx (upd H4 D (.lst (acc ++ [y]))) else Nx H3) :=
  lc_it walk_str (fun i H => H = upd H1 D (.lst (((tl z).take i).map g))) (by rw [List.take_zero]; rfl) (fun _ _ _ _ => trivial)
    (fun i x H H' hi e y => by
      obtain ⟨rfl, c, hc, rfl⟩ := y
      have hc' : (tl z)[i]? = some c := by rw [← hc]; simp [tl]
      refine ⟨hw _, ?_⟩
      refine iteT (B := H' = upd H1 D (.lst (((tl z).take (i + 1)).map g))) ?_
      refine he i c H' hc' e _ ?_
      subst e
      refine ⟨_, upd_same, sz_lt ?_, ?_⟩
      · rw [List.length_map, List.length_take]; have := (List.getElem?_eq_some_iff.mp hc').1; rw [len_tl] at hn; omega
      · rw [upd_upd, List.take_add_one, hc', List.map_append]; rfl)
    (fun H e => by
      have en : z.cps.size = (tl z).length := by simp [tl]
      rw [e, en, List.take_length]; exact q)
end
end G
namespace G
open PySem PySem.Spec PyProof.Rows L2
def topS (i : Nat) : Stmt := PySem.Challenge.pw_signoff_k01_tokens_in_order.main.body.getD i (.Pass ⟨0, 0, 0, 0⟩)
abbrev s_BadToken_init : Stmt := inClass (topS 2) 0
abbrev s_tokenize : Stmt := topS 10
abbrev s_is_name : Stmt := topS 11
abbrev s_is_numeral : Stmt := topS 12
abbrev s_is_word : Stmt := topS 13
abbrev s_token_at : Stmt := topS 14
abbrev s_run_end : Stmt := topS 15
abbrev s_line_end : Stmt := topS 16
abbrev s_law_pool : Stmt := topS 18
abbrev s_law_spread : Stmt := topS 19
abbrev s_law_draw : Stmt := topS 20
abbrev s_law_same : Stmt := topS 21
abbrev s_law_word : Stmt := topS 22
abbrev s_law_numeral : Stmt := topS 23
abbrev s_law_blank : Stmt := topS 24
abbrev s_law_laid : Stmt := topS 25
abbrev s_law_token : Stmt := topS 26
abbrev s_law : Stmt := topS 27
end G
namespace G
open PySem PySem.Spec PyProof.Rows L2 Evl
structure TxtL (mg : Str → Option Value) : Prop where
  int : mg "int" = none
  len : mg "len" = none
  list : mg "list" = none
  range : mg "range" = none
section
variable {P : Program} {w : World} {K : PySem.W.Frag} {mg : Str → Option Value} {base : Heap}
def spSpread : Sp := fun vs H Q _ => ∃ (c : Int), vs = [.int c] ∧ ∀ v : Int, Q (.int v) H
theorem sc_law_spread : FnScope ["cell", "mixed", "total", "k"] ["cell"] (defScope s_law_spread) := ⟨rfl, rfl, rfl, by decide +kernel, rfl, by decide +kernel, by decide +kernel⟩
theorem ok_law_spread (D : Dfd K mg "_law_spread" s_law_spread ["cell"]) (T : TxtL mg) : Has P w K mg base 1 "_law_spread" ["cell"] spSpread := by
  refine D.has fun f fd F => F.ok sc_law_spread (fun vs H Q E h => ?_) (fun cdv A outer s H vs Q E hr h => ?_)
  · obtain ⟨c, rfl, _⟩ := h
    rfl
  · obtain ⟨c, rfl, q⟩ := h
    refine ⟨_, (pss_cons (ps_set (i := 1) sc_law_spread.nd rfl (.inl rfl) (pe_op op_mod (pe_callTy call_int1 (by rfl) T.int (by decide +kernel) (pa_cons (pv 0) pa_nil)) pe_int))
      (pss_cons (ps_set (i := 2) sc_law_spread.nd rfl (.inl rfl) pe_int)
      (pss_cons (ps_for PassesOwn.never rfl (pi_range1 rfl T.range (pa_cons pe_int pa_nil)) (pg_name (i := 3) sc_law_spread.nd rfl (.inl rfl))
        (pss_cons (ps_set (i := 1) sc_law_spread.nd rfl (.inl rfl) (pe_op op_mod (pe_callTy call_int1 (by rfl) T.int (by decide +kernel) (pa_cons (pe_op op_add (pe_op op_add (pe_op op_mul (pv 1) pe_int) pe_int) (pv 3)) pa_nil)) pe_int))
        (pss_one (ps_set (i := 2) sc_law_spread.nd rfl (.inl rfl) (pe_op op_add (pe_op op_mul (pv 2) pe_int) (pv 1))))))
      (pss_one (ps_ret (pv 2)))))), ?_⟩
    refine ⟨_, rfl, .inl ⟨_, rfl, _, _, rfl, rfl, (by show (0 : Int) < 2147483647; decide), 4, rfl, by decide, by decide, for_range (n := 4) (fun _ σ H' => H' = H ∧ ∃ (x y : Int) (z : Option V), σ = [some (.int c), some (.int x), some (.int y), z]) ⟨rfl, _, _, _, rfl⟩ ?_ ?_⟩⟩
    · rintro i σ H' hi ⟨rfl, x, y, z, rfl⟩
      refine ⟨_, rfl, _, _, rfl, rfl, .inr ⟨by decide, by decide⟩, _, _, rfl, rfl, _, rfl, _, _, rfl, rfl, .inl ⟨_, rfl, _, _, rfl, rfl, (by show (0 : Int) < 2147483647; decide), _, rfl, _, _, rfl, rfl, .inr ⟨by decide, by decide⟩, _, rfl, _, _, rfl, rfl, rfl, _, _, _, rfl⟩⟩
    · rintro σ H' ⟨rfl, x, y, z, rfl⟩
      exact ⟨_, rfl, q y⟩
/-- a draw below n -/
def spDraw : Sp := fun vs H Q _ => ∃ (p a : Addr) (n : Int), vs = [.ref p, .int n] ∧ 0 < n ∧ n.natAbs.log2 < 9000 ∧ PoolOk p a H ∧ ∀ (v : Int) (o : HO), 0 ≤ v → v < n → PoolOk p a (upd H p o) → Q (.int v) (upd H p o)
theorem sc_law_draw : FnScope ["pool", "many", "cell", "mixed", "value"] ["pool", "many"] (defScope s_law_draw) := ⟨rfl, rfl, rfl, by decide +kernel, rfl, by decide +kernel, by decide +kernel⟩
theorem ok_law_draw (D : Dfd K mg "_law_draw" s_law_draw ["pool", "many"]) (T : TxtL mg) (C : Has P w K mg base 1 "_law_spread" ["cell"] spSpread) : Has P w K mg base 2 "_law_draw" ["pool", "many"] spDraw := by
  obtain ⟨f_law_spread, d_law_spread, G_law_spread, g_law_spread, k_law_spread, b_law_spread⟩ := C
  refine D.has fun f fd F => F.ok sc_law_draw (fun vs H Q E h => ?_) (fun cdv A outer s H vs Q E hr h => ?_)
  · obtain ⟨p, a, n, rfl, _⟩ := h
    rfl
  · obtain ⟨p, a, n, rfl, n0, n9, hp, q⟩ := h
    refine ⟨_, (pss_cut (ps_if (PW.pt (pw_and (pt_cmpR op_le (pe_ix ix_list (pv 0) pe_int (fun _ _ => rfl)) pe_int (nomark _)) (pw_and1 (pt_cmpR op_lt (pe_ix ix_list (pv 0) pe_int (fun _ _ => rfl)) (pe_callB call_len_seq (by rfl) T.len (by decide +kernel) (pa_cons (pe_ix ix_list (pv 0) pe_int (fun _ _ => rfl)) pa_nil)) (nomark _)))))
      (pss_cons (ps_set (i := 2) sc_law_draw.nd rfl (.inl rfl) (pe_ix ix_list (pe_ix ix_list (pv 0) pe_int (fun _ _ => rfl)) (pe_ix ix_list (pv 0) pe_int (fun _ _ => rfl)) (fun _ _ => rfl)))
      (pss_cons (ps_asg (pe_op op_add (pe_ix ix_list (pv 0) pe_int (fun _ _ => rfl)) pe_int) (pg_sub (pv 0) pe_int set_list))
      (pss_cons (ps_asg (pv 2) (pg_sub (pv 0) pe_int set_list))
      (pss_one (ps_if (pt_cmpR op_lt (pv 2) pe_int (nomark _))
        (pss_one (ps_asg (pe_call G_law_spread hr (by rfl) g_law_spread k_law_spread b_law_spread .nil pass0 (pa_cons (pv 2) pa_nil)) (pg_sub (pv 0) pe_int set_list)))
        pss_nil)))))
      pss_nil)
    (pss_cons (ps_asg (pe_op op_add (pe_ix ix_list (pv 0) pe_int (fun _ _ => rfl)) pe_int) (pg_sub (pv 0) pe_int set_list))
    (pss_cons (ps_if (pt_cmpR op_le (pe_ix ix_list (pv 0) pe_int (fun _ _ => rfl)) pe_int (nomark _))
      (pss_cons (ps_set (i := 3) sc_law_draw.nd rfl (.inl rfl) (pe_op op_mod (pe_callTy call_int1 (by rfl) T.int (by decide +kernel) (pa_cons (pe_op op_add (pe_op op_add (pe_op op_mul (pe_ix ix_list (pv 0) pe_int (fun _ _ => rfl)) pe_int) (pe_op op_mul (pe_ix ix_list (pv 0) pe_int (fun _ _ => rfl)) pe_int)) pe_int) pa_nil)) pe_int))
      (pss_cons (ps_set (i := 3) sc_law_draw.nd rfl (.inl rfl) (pe_op op_mod (pe_callTy call_int1 (by rfl) T.int (by decide +kernel) (pa_cons (pe_op op_add (pe_op op_mul (pv 3) pe_int) (pe_ix ix_list (pv 0) pe_int (fun _ _ => rfl))) pa_nil)) pe_int))
      (pss_one (ps_ret (pe_op op_mod (pe_op op_fdiv (pv 3) pe_int) (pv 1))))))
      pss_nil)
    (pss_cons (ps_set (i := 4) sc_law_draw.nd rfl (.inl rfl) (pe_op op_mod (pe_callTy call_int1 (by rfl) T.int (by decide +kernel) (pa_cons (pe_ix ix_list (pv 0) pe_int (fun _ _ => rfl)) pa_nil)) (pv 1)))
    (pss_cons (ps_asg (pe_op op_fdivW (pe_ix ix_list (pv 0) pe_int (fun _ _ => rfl)) (pv 1)) (pg_sub (pv 0) pe_int set_list))
    (pss_one (ps_ret (pv 4)))))))), ?_⟩
    obtain ⟨ns, i, c, k, s5, hl, ha, hn⟩ := hp
    have hap : a ≠ p := hid_neq ha
    have haH := hid_get ha
    -- the pool as it stands after writes
    have pk : ∀ (i' : Nat) (c' k' s' : Int), PoolOk p a (upd H p (.lst [.ref a, .int i', .int c', .int k', .int s'])) := fun i' c' k' s' =>
      ⟨ns, i', c', k', s', upd_same, by rw [hid_upd]; exact ha, hn⟩
    refine ⟨fun σ H' => ∃ (i' : Nat) (c' k' s' : Int) (o1 : Option V), σ = [some (.ref p), some (.int n), o1, none, none] ∧ H' p = some (.lst [.ref a, .int i', .int c', .int k', .int s']) ∧ (∀ o, upd H' p o = upd H p o), ?_, ?_⟩
    · refine ⟨_, rfl, _, _, _, _, rfl, rfl, SqL.of hl, atI_nat (j := 2) rfl, _, _, rfl, rfl, _, rfl, ite2 (fun e1 => ?_) (fun e1 => ?_)⟩
      · refine ⟨_, rfl, _, _, _, _, rfl, rfl, SqL.of hl, atI_nat (j := 1) rfl, _, rfl, _, _, _, _, rfl, rfl, SqL.of hl, atI_nat (j := 0) rfl, _, _, rfl, .inl (SqL.of haH), _, _, rfl, rfl, _, rfl, ite2 (fun e2 => ?_) (fun e2 => ?_)⟩
        · have hi : i < (ns.map V.int).length := by have := of_decide_eq_true e2; omega
          have hi' : i < ns.length := by rw [List.length_map] at hi; exact hi
          have gi : (ns.map V.int)[i]? = some (.int ns[i]) := by rw [List.getElem?_map, List.getElem?_eq_getElem hi']; rfl
          refine ⟨_, rfl, _, _, _, _, rfl, rfl, SqL.of hl, atI_nat (j := 0) rfl, _, rfl, _, _, _, _, rfl, rfl, SqL.of hl, atI_nat (j := 1) rfl, _, _, _, _, rfl, rfl, SqL.of haH, atI_nat gi, ?_⟩
          refine ⟨_, rfl, _, _, _, _, rfl, rfl, SqL.of hl, atI_nat (j := 1) rfl, _, _, rfl, rfl, _, rfl, _, _, _, 1, rfl, rfl, hl, rfl, ?_⟩
          refine ⟨_, rfl, _, rfl, _, _, _, 2, rfl, rfl, upd_same, rfl, ?_⟩
          refine ⟨_, rfl, _, _, rfl, rfl, _, rfl, ite2 (fun e3 => ?_) (fun e3 => ?_)⟩
          · refine ⟨_, rfl, _, rfl, fun v => ⟨_, rfl, _, _, _, 2, rfl, rfl, upd_same, rfl, ?_⟩⟩
            exact ⟨i + 1, v, k, s5, _, rfl, upd_same, fun o => by rw [upd_upd, upd_upd, upd_upd]⟩
          · exact ⟨i + 1, ns[i], k, s5, _, rfl, upd_same, fun o => by rw [upd_upd, upd_upd]⟩
        · exact ⟨i, c, k, s5, _, rfl, hl, fun _ => rfl⟩
      · exact iteF ⟨i, c, k, s5, _, rfl, hl, fun _ => rfl⟩
    · rintro σ H' ⟨i, c, k, s5, o1, rfl, hl', hu⟩
      refine ⟨_, rfl, _, _, _, _, rfl, rfl, SqL.of hl', atI_nat (j := 3) rfl, _, _, rfl, rfl, _, rfl, _, _, _, 3, rfl, rfl, hl', rfl, ?_⟩
      refine ⟨_, rfl, _, _, _, _, rfl, rfl, SqL.of upd_same, atI_nat (j := 2) rfl, _, _, rfl, rfl, _, rfl, ite2 (fun e1 => ?_) (fun e1 => ?_)⟩
      · refine ⟨_, rfl, _, _, _, _, rfl, rfl, SqL.of upd_same, atI_nat (j := 4) rfl, _, _, rfl, rfl, .inr ⟨by decide, by decide⟩, _, rfl, _, _, _, _, rfl, rfl, SqL.of upd_same, atI_nat (j := 3) rfl, _, _, rfl, rfl, .inr ⟨by decide, by decide⟩, _, _, rfl, rfl, _, _, rfl, rfl, .inl ⟨_, rfl, _, _, rfl, rfl, (by show (0 : Int) < 2147483647; decide), ?_⟩⟩
        refine ⟨_, rfl, _, _, rfl, rfl, .inr ⟨by decide, by decide⟩, _, rfl, _, _, _, _, rfl, rfl, SqL.of upd_same, atI_nat (j := 3) rfl, _, _, rfl, rfl, .inl ⟨_, rfl, _, _, rfl, rfl, (by show (0 : Int) < 2147483629; decide), ?_⟩⟩
        refine ⟨_, rfl, _, _, rfl, rfl, ⟨by decide, by decide⟩, _, rfl, _, _, rfl, rfl, n0, ?_⟩
        show Q _ _
        rw [hu]
        exact q _ _ (Int.emod_nonneg _ (by omega)) (Int.emod_lt_of_pos _ n0) (pk i c (k + 1) s5)
      · refine ⟨_, rfl, _, _, _, _, rfl, rfl, SqL.of upd_same, atI_nat (j := 2) rfl, .inl ⟨_, rfl, _, rfl, _, _, rfl, rfl, n0, ?_⟩⟩
        refine ⟨_, rfl, _, _, _, _, rfl, rfl, SqL.of upd_same, atI_nat (j := 2) rfl, _, rfl, _, _, rfl, rfl, ⟨n0, n9⟩, _, rfl, _, _, _, 2, rfl, rfl, upd_same, rfl, _, rfl, ?_⟩
        show Q _ _
        rw [upd_upd, hu]
        exact q _ _ (Int.emod_nonneg _ (by omega)) (Int.emod_lt_of_pos _ n0) (pk i (c / n) (k + 1) s5)
/-- the same, the heap behind it a letter -/
def spDrawX : Sp := fun vs H Q _ => ∃ (p a : Addr) (n : Int), vs = [.ref p, .int n] ∧ 0 < n ∧ n ≤ 2 ^ 70 ∧ PoolOk p a H ∧ ∀ (v : Nat) (H' : Hp), (v : Int) < n → Px p a H H' → (∀ b, b ≠ p → H' b = H b) → Q (.int v) H'
theorem log2_small {n : Int} (h0 : 0 < n) (h : n ≤ 2 ^ 70) : n.natAbs.log2 < 9000 := by
  have h1 : n.natAbs < 2 ^ 71 := by omega
  have := PySem.Flt.log2_lt_of (by decide : 0 < 71) h1
  omega
theorem drawX (C : Has P w K mg base 2 "_law_draw" ["pool", "many"] spDraw) : Has P w K mg base 2 "_law_draw" ["pool", "many"] spDrawX :=
  C.imp fun vs H Q E h => by
    obtain ⟨p, a, n, rfl, h0, h1, hp, q⟩ := h
    refine ⟨p, a, n, rfl, h0, log2_small h0 h1, hp, fun v o v0 v1 hq => ?_⟩
    have e : v = ((v.toNat : Nat) : Int) := by omega
    rw [e]
    exact q v.toNat _ (by omega) (Px.draw hp hq) fun b hb => upd_ne hb
end
end G
namespace G
open PySem PySem.Spec PyProof.Rows L2 Evl
/-! ## data -/
inductive D where
  | non | bl (b : Bool) | int (i : Int) | str (s : Str) | tup (l : List D) | lst (l : List D)
def okD : Nat → D → Prop
  | 0, .tup _ => False
  | 0, .lst _ => False
  | n + 1, .tup l => l.length < 2 ^ 61 ∧ ∀ d ∈ l, okD n d
  | n + 1, .lst l => l.length < 2 ^ 61 ∧ ∀ d ∈ l, okD n d
  | _, _ => True
inductive Rep (H : Hp) : V → D → Prop where
  | non : Rep H .non .non
  | bl (b : Bool) : Rep H (.bl b) (.bl b)
  | int (i : Int) : Rep H (.int i) (.int i)
  | str (s : Str) : Rep H (.str s) (.str s)
  | tup {a : Addr} {xs : List V} {ds : List D} (h : H a = some (.tup xs)) (hl : xs.length = ds.length) (hr : ∀ (i : Nat) (x : V) (d : D), xs[i]? = some x → ds[i]? = some d → Rep H x d) : Rep H (.ref a) (.tup ds)
  | lst {a : Addr} {xs : List V} {ds : List D} (h : H a = some (.lst xs)) (hl : xs.length = ds.length) (hr : ∀ (i : Nat) (x : V) (d : D), xs[i]? = some x → ds[i]? = some d → Rep H x d) : Rep H (.ref a) (.lst ds)
theorem Rep.ex {H H' : Hp} (e : Ex H H') {x : V} {d : D} (r : Rep H x d) : Rep H' x d := by
  induction r with
  | non => exact .non
  | bl b => exact .bl b
  | int i => exact .int i
  | str s => exact .str s
  | tup h hl _ ih => exact .tup (e _ _ h) hl ih
  | lst h hl _ ih => exact .lst (e _ _ h) hl ih
theorem okD.mono : ∀ {n m : Nat} {d : D}, n ≤ m → okD n d → okD m d
  | 0, 0, d, _, h => h
  | 0, m + 1, .non, _, _ => trivial
  | 0, m + 1, .bl _, _, _ => trivial
  | 0, m + 1, .int _, _, _ => trivial
  | 0, m + 1, .str _, _, _ => trivial
  | 0, m + 1, .tup _, _, h => h.elim
  | 0, m + 1, .lst _, _, h => h.elim
  | n + 1, m + 1, .non, _, _ => trivial
  | n + 1, m + 1, .bl _, _, _ => trivial
  | n + 1, m + 1, .int _, _, _ => trivial
  | n + 1, m + 1, .str _, _, _ => trivial
  | n + 1, m + 1, .tup l, le, h => ⟨h.1, fun d hd => okD.mono (Nat.le_of_succ_le_succ le) (h.2 d hd)⟩
  | n + 1, m + 1, .lst l, le, h => ⟨h.1, fun d hd => okD.mono (Nat.le_of_succ_le_succ le) (h.2 d hd)⟩
structure TxtS (mg : Str → Option Value) : Prop where
  isinstance : mg "isinstance" = none
  tuple : mg "tuple" = none
  list : mg "list" = none
  len : mg "len" = none
  range : mg "range" = none
  bool : mg "bool" = none
  int : mg "int" = none
  str : mg "str" = none
section
variable {P : Program} {w : World} {K : PySem.W.Frag} {mg : Str → Option Value} {base : Heap}
/-- equal data: the answer is True -/
def spSame : Nat → Sp
  | 0 => fun _ _ _ _ => False
  | n + 1 => fun vs H Q _ => ∃ (x y : V) (d : D), vs = [x, y] ∧ Rep H x d ∧ Rep H y d ∧ okD n d ∧ Q (.bl true) H
theorem sc_law_same : FnScope ["actual", "due", "k"] ["actual", "due"] (defScope s_law_same) := ⟨rfl, rfl, rfl, by decide +kernel, rfl, by decide +kernel, by decide +kernel⟩
theorem fn_law_same {f : Addr} {fd : FuncData} (F : Fun K "_law_same" "_law_same" s_law_same f fd) (g_law_same : mg "_law_same" = some (.ref f)) (b_law_same : Binds K fd ["actual", "due"] []) (T : TxtS mg) : ∀ n, FnOk P w K mg base CX0 n f fd ["actual", "due"] (spSame n)
  | 0 => ⟨fun _ _ _ _ h => h.elim, fun _ _ _ _ _ _ _ _ _ _ _ _ _ h => h.elim⟩
  | n + 1 => by
    have G_law_same := fn_law_same F g_law_same b_law_same T n
    have k_law_same := F.kp
    refine F.ok sc_law_same (fun vs H Q E h => ?_) (fun cdv A outer s H vs Q E hr h => ?_)
    · obtain ⟨x, y, d, rfl, _⟩ := h
      rfl
    · obtain ⟨x, y, d, rfl, rx, ry, hd, q⟩ := h
      refine ⟨_, (pss_cons (ps_if (PW.pt (pw_or (pt_val (pe_callB call_isi (by rfl) T.isinstance (by decide +kernel) (pa_cons (pv 1) (pa_cons (pe_bltn (v := .ty "tuple") (by rfl) T.tuple (by decide +kernel) rfl) pa_nil)))) (pw_or1 (pt_val (pe_callB call_isi (by rfl) T.isinstance (by decide +kernel) (pa_cons (pv 1) (pa_cons (pe_bltn (v := .ty "list") (by rfl) T.list (by decide +kernel) rfl) pa_nil)))))))
      (pss_cons (ps_if (PW.pt (pw_or (pt_cmpR op_ne (pe_callB call_isi (by rfl) T.isinstance (by decide +kernel) (pa_cons (pv 1) (pa_cons (pe_bltn (v := .ty "tuple") (by rfl) T.tuple (by decide +kernel) rfl) pa_nil))) (pe_callB call_isi (by rfl) T.isinstance (by decide +kernel) (pa_cons (pv 0) (pa_cons (pe_bltn (v := .ty "tuple") (by rfl) T.tuple (by decide +kernel) rfl) pa_nil))) (nomark _)) (pw_or1 (pt_cmpR op_ne (pe_callB call_isi (by rfl) T.isinstance (by decide +kernel) (pa_cons (pv 1) (pa_cons (pe_bltn (v := .ty "list") (by rfl) T.list (by decide +kernel) rfl) pa_nil))) (pe_callB call_isi (by rfl) T.isinstance (by decide +kernel) (pa_cons (pv 0) (pa_cons (pe_bltn (v := .ty "list") (by rfl) T.list (by decide +kernel) rfl) pa_nil))) (nomark _)))))
        (pss_one (ps_ret pe_bl))
        pss_nil)
      (pss_cons (ps_if (pt_cmpR op_ne (pe_callB call_len_seq (by rfl) T.len (by decide +kernel) (pa_cons (pv 0) pa_nil)) (pe_callB call_len_seq (by rfl) T.len (by decide +kernel) (pa_cons (pv 1) pa_nil)) (nomark _))
        (pss_one (ps_ret pe_bl))
        pss_nil)
      (pss_cons (ps_for PassesOwn.never rfl (pi_range1 rfl T.range (pa_cons (pe_callB call_len_seq (by rfl) T.len (by decide +kernel) (pa_cons (pv 1) pa_nil)) pa_nil)) (pg_name (i := 2) sc_law_same.nd rfl (.inl rfl))
        (pss_one (ps_if (pt_not (pt_val (pe_call G_law_same hr (by rfl) g_law_same k_law_same b_law_same .nil pass0 (pa_cons (pe_ix ix_seq (pv 0) (pv 2) (fun _ _ => rfl)) (pa_cons (pe_ix ix_seq (pv 1) (pv 2) (fun _ _ => rfl)) pa_nil)))))
          (pss_one (ps_ret pe_bl))
          pss_nil)))
      (pss_one (ps_ret pe_bl)))))
      pss_nil)
    (pss_cons (ps_if (pt_cmpR op_isN (pv 1) pe_non (nomark _))
      (pss_one (ps_ret (pe_cmpR op_isN (pv 0) pe_non (nomark _))))
      pss_nil)
    (pss_cons (ps_if (pt_val (pe_callB call_isi (by rfl) T.isinstance (by decide +kernel) (pa_cons (pv 1) (pa_cons (pe_bltn (v := .ty "bool") (by rfl) T.bool (by decide +kernel) rfl) pa_nil))))
      (pss_one (ps_ret (pe_and (pe_callB call_isi (by rfl) T.isinstance (by decide +kernel) (pa_cons (pv 0) (pa_cons (pe_bltn (v := .ty "bool") (by rfl) T.bool (by decide +kernel) rfl) pa_nil))) (pe_one (pe_cmpR op_eq (pv 0) (pv 1) (nomark _))))))
      pss_nil)
    (pss_cons (ps_if (pt_val (pe_callB call_isi (by rfl) T.isinstance (by decide +kernel) (pa_cons (pv 1) (pa_cons (pe_bltn (v := .ty "int") (by rfl) T.int (by decide +kernel) rfl) pa_nil))))
      (pss_one (ps_ret (pe_and (pe_callB call_isi (by rfl) T.isinstance (by decide +kernel) (pa_cons (pv 0) (pa_cons (pe_bltn (v := .ty "int") (by rfl) T.int (by decide +kernel) rfl) pa_nil))) (pe_and (pe_not (pe_callB call_isi (by rfl) T.isinstance (by decide +kernel) (pa_cons (pv 0) (pa_cons (pe_bltn (v := .ty "bool") (by rfl) T.bool (by decide +kernel) rfl) pa_nil)))) (pe_one (pe_cmpR op_eq (pv 0) (pv 1) (nomark _)))))))
      pss_nil)
    (pss_one (ps_ret (pe_and (pe_callB call_isi (by rfl) T.isinstance (by decide +kernel) (pa_cons (pv 0) (pa_cons (pe_bltn (v := .ty "str") (by rfl) T.str (by decide +kernel) rfl) pa_nil))) (pe_one (pe_cmpR op_eq (pv 0) (pv 1) (nomark _)))))))))), ?_⟩
      cases rx with
      | non =>
        cases ry
        refine ⟨_, rfl, _, _, _, _, _, rfl, .ty "tuple", .base .non, kit_ty (a := "NoneType") (r := false) (by decide +kernel), _, rfl, iteF ⟨_, rfl, _, _, _, _, _, rfl, .ty "list", .base .non, kit_ty (a := "NoneType") (r := false) (by decide +kernel), _, rfl, iteF ⟨_, rfl, rfl, _, rfl, iteT ⟨_, rfl, rfl, ?_⟩⟩⟩⟩
        exact q
      | bl b =>
        cases ry
        refine ⟨_, rfl, _, _, _, _, _, rfl, .ty "tuple", .base (.bl _), kit_ty (a := "bool") (r := false) (by decide +kernel), _, rfl, iteF ⟨_, rfl, _, _, _, _, _, rfl, .ty "list", .base (.bl _), kit_ty (a := "bool") (r := false) (by decide +kernel), _, rfl, iteF ⟨_, rfl, rfl, _, rfl, iteF ⟨_, rfl, _, _, _, _, _, rfl, .ty "bool", .base (.bl _), kit_ty (a := "bool") (r := true) (by decide +kernel), _, rfl, iteT ⟨_, rfl, _, _, _, _, _, rfl, .ty "bool", .base (.bl _), kit_ty (a := "bool") (r := true) (by decide +kernel), _, rfl, iteT ⟨_, rfl, _, rfl, rfl, ?_⟩⟩⟩⟩⟩⟩
        rw [decide_eq_true rfl]
        exact q
      | int b =>
        cases ry
        refine ⟨_, rfl, _, _, _, _, _, rfl, .ty "tuple", .base (.int _), kit_ty (a := "int") (r := false) (by decide +kernel), _, rfl, iteF ⟨_, rfl, _, _, _, _, _, rfl, .ty "list", .base (.int _), kit_ty (a := "int") (r := false) (by decide +kernel), _, rfl, iteF ⟨_, rfl, rfl, _, rfl, iteF ⟨_, rfl, _, _, _, _, _, rfl, .ty "bool", .base (.int _), kit_ty (a := "int") (r := false) (by decide +kernel), _, rfl, iteF ⟨_, rfl, _, _, _, _, _, rfl, .ty "int", .base (.int _), kit_ty (a := "int") (r := true) (by decide +kernel), _, rfl, iteT ⟨_, rfl, _, _, _, _, _, rfl, .ty "int", .base (.int _), kit_ty (a := "int") (r := true) (by decide +kernel), _, rfl, iteT ⟨_, rfl, _, _, _, _, _, rfl, .ty "bool", .base (.int _), kit_ty (a := "int") (r := false) (by decide +kernel), _, rfl, _, rfl, iteT ⟨_, rfl, _, rfl, rfl, ?_⟩⟩⟩⟩⟩⟩⟩⟩
        rw [decide_eq_true rfl]
        exact q
      | str b =>
        cases ry
        refine ⟨_, rfl, _, _, _, _, _, rfl, .ty "tuple", .base (.str _), kit_ty (a := "str") (r := false) (by decide +kernel), _, rfl, iteF ⟨_, rfl, _, _, _, _, _, rfl, .ty "list", .base (.str _), kit_ty (a := "str") (r := false) (by decide +kernel), _, rfl, iteF ⟨_, rfl, rfl, _, rfl, iteF ⟨_, rfl, _, _, _, _, _, rfl, .ty "bool", .base (.str _), kit_ty (a := "str") (r := false) (by decide +kernel), _, rfl, iteF ⟨_, rfl, _, _, _, _, _, rfl, .ty "int", .base (.str _), kit_ty (a := "str") (r := false) (by decide +kernel), _, rfl, iteF ⟨_, rfl, _, _, _, _, _, rfl, .ty "str", .base (.str _), kit_ty (a := "str") (r := true) (by decide +kernel), _, rfl, iteT ⟨_, rfl, _, rfl, rfl, ?_⟩⟩⟩⟩⟩⟩⟩
        rw [decide_eq_true rfl]
        exact q
      | @tup a xs ds hx lx rx =>
        cases ry with
        | @tup b ys _ hy ly ry =>
          cases n with
          | zero => exact hd.elim
          | succ m =>
            obtain ⟨hlen, hall⟩ := hd
            refine ⟨_, rfl, _, _, _, _, _, rfl, .ty "tuple", .base (.tup hy), kit_ty (a := "tuple") (r := true) (by decide +kernel), _, rfl, iteT (iteT ⟨_, rfl, _, _, _, _, _, rfl, .ty "tuple", .base (.tup hy), kit_ty (a := "tuple") (r := true) (by decide +kernel), _, rfl, _, _, _, _, _, rfl, .ty "tuple", .base (.tup hx), kit_ty (a := "tuple") (r := true) (by decide +kernel), rfl, _, rfl, iteF ⟨_, rfl, _, _, _, _, _, rfl, .ty "list", .base (.tup hy), kit_ty (a := "tuple") (r := false) (by decide +kernel), _, rfl, _, _, _, _, _, rfl, .ty "list", .base (.tup hx), kit_ty (a := "tuple") (r := false) (by decide +kernel), rfl, _, rfl, iteF ⟨_, rfl, _, _, rfl, .inr (SqT.of hx), _, rfl, _, _, rfl, .inr (SqT.of hy), rfl, _, rfl, ?_⟩⟩⟩)⟩
            have el : decide (V.int (xs.length : Int) = V.int (ys.length : Int)) = true := decide_eq_true (by rw [lx, ly])
            rw [el]
            refine ⟨_, rfl, _, _, rfl, .inr (SqT.of hy), _, rfl, by omega, by omega, for_range (n := (ys.length : Int).toNat) (fun _ σ H' => H' = H ∧ ∃ z : Option V, σ = [some (.ref a), some (.ref b), z]) ⟨rfl, _, rfl⟩ ?_ ?_⟩
            · rintro i σ H' hi ⟨rfl, z, rfl⟩
              have hi' : i < ds.length := by omega
              have e0 : (0 : Int) + (i : Int) = (i : Int) := Int.zero_add _
              have g1 : xs[i]? = some xs[i] := List.getElem?_eq_getElem (by omega)
              have g2 : ys[i]? = some ys[i] := List.getElem?_eq_getElem (by omega)
              have g3 : ds[i]? = some ds[i] := List.getElem?_eq_getElem hi'
              rw [e0]
              refine ⟨_, rfl, _, rfl, .inr (.inl ⟨_, _, _, _, rfl, rfl, SqT.of hx, atI_nat g1, _, rfl, _, rfl, .inr (.inl ⟨_, _, _, _, rfl, rfl, SqT.of hy, atI_nat g2, ?_⟩)⟩)⟩
              exact ⟨_, _, ds[i], rfl, rx i _ _ g1 g3, ry i _ _ g2 g3, hall _ (List.getElem_mem hi'), _, rfl, rfl, _, rfl⟩
            · rintro σ H' ⟨rfl, z, rfl⟩
              exact q
      | @lst a xs ds hx lx rx =>
        cases ry with
        | @lst b ys _ hy ly ry =>
          cases n with
          | zero => exact hd.elim
          | succ m =>
            obtain ⟨hlen, hall⟩ := hd
            refine ⟨_, rfl, _, _, _, _, _, rfl, .ty "tuple", .base (.lst hy), kit_ty (a := "list") (r := false) (by decide +kernel), _, rfl, iteF ⟨_, rfl, _, _, _, _, _, rfl, .ty "list", .base (.lst hy), kit_ty (a := "list") (r := true) (by decide +kernel), _, rfl, iteT ⟨_, rfl, _, _, _, _, _, rfl, .ty "tuple", .base (.lst hy), kit_ty (a := "list") (r := false) (by decide +kernel), _, rfl, _, _, _, _, _, rfl, .ty "tuple", .base (.lst hx), kit_ty (a := "list") (r := false) (by decide +kernel), rfl, _, rfl, iteF ⟨_, rfl, _, _, _, _, _, rfl, .ty "list", .base (.lst hy), kit_ty (a := "list") (r := true) (by decide +kernel), _, rfl, _, _, _, _, _, rfl, .ty "list", .base (.lst hx), kit_ty (a := "list") (r := true) (by decide +kernel), rfl, _, rfl, iteF ⟨_, rfl, _, _, rfl, .inl (SqL.of hx), _, rfl, _, _, rfl, .inl (SqL.of hy), rfl, _, rfl, ?_⟩⟩⟩⟩⟩
            have el : decide (V.int (xs.length : Int) = V.int (ys.length : Int)) = true := decide_eq_true (by rw [lx, ly])
            rw [el]
            refine ⟨_, rfl, _, _, rfl, .inl (SqL.of hy), _, rfl, by omega, by omega, for_range (n := (ys.length : Int).toNat) (fun _ σ H' => H' = H ∧ ∃ z : Option V, σ = [some (.ref a), some (.ref b), z]) ⟨rfl, _, rfl⟩ ?_ ?_⟩
            · rintro i σ H' hi ⟨rfl, z, rfl⟩
              have hi' : i < ds.length := by omega
              have e0 : (0 : Int) + (i : Int) = (i : Int) := Int.zero_add _
              have g1 : xs[i]? = some xs[i] := List.getElem?_eq_getElem (by omega)
              have g2 : ys[i]? = some ys[i] := List.getElem?_eq_getElem (by omega)
              have g3 : ds[i]? = some ds[i] := List.getElem?_eq_getElem hi'
              rw [e0]
              refine ⟨_, rfl, _, rfl, .inl ⟨_, _, _, _, rfl, rfl, SqL.of hx, atI_nat g1, _, rfl, _, rfl, .inl ⟨_, _, _, _, rfl, rfl, SqL.of hy, atI_nat g2, ?_⟩⟩⟩
              exact ⟨_, _, ds[i], rfl, rx i _ _ g1 g3, ry i _ _ g2 g3, hall _ (List.getElem_mem hi'), _, rfl, rfl, _, rfl⟩
            · rintro σ H' ⟨rfl, z, rfl⟩
              exact q
theorem ok_law_same (D : Dfd K mg "_law_same" s_law_same ["actual", "due"]) (T : TxtS mg) (n : Nat) : Has P w K mg base n "_law_same" ["actual", "due"] (spSame n) := by
  obtain ⟨f, fd, F, g, b⟩ := D
  exact ⟨f, fd, fn_law_same F g b T n, g, F.kp, b⟩
end
/-! ## data made of flat lists -/
theorem rep_map {H : Hp} {α : Type} {f : α → V} {g : α → D} {l : List α} (h : ∀ x, Rep H (f x) (g x)) : (l.map f).length = (l.map g).length ∧ ∀ (i : Nat) (x : V) (d : D), (l.map f)[i]? = some x → (l.map g)[i]? = some d → Rep H x d := by
  refine ⟨by rw [List.length_map, List.length_map], fun i x d hx hd => ?_⟩
  rw [List.getElem?_map] at hx hd
  cases e : l[i]? with
  | none => rw [e] at hx; cases hx
  | some y =>
    rw [e] at hx hd
    have e1 : f y = x := Option.some.inj hx
    have e2 : g y = d := Option.some.inj hd
    rw [← e1, ← e2]
    exact h y
theorem rep_ints {H : Hp} {a : Addr} {l : List Int} (h : H a = some (.lst (l.map V.int))) : Rep H (.ref a) (.lst (l.map D.int)) :=
  let r := rep_map (H := H) (f := V.int) (g := D.int) (l := l) fun i => .int i
  .lst h r.1 r.2
theorem rep_bls {H : Hp} {a : Addr} {l : List Bool} (h : H a = some (.tup (l.map V.bl))) : Rep H (.ref a) (.tup (l.map D.bl)) :=
  let r := rep_map (H := H) (f := V.bl) (g := D.bl) (l := l) fun i => .bl i
  .tup h r.1 r.2
theorem okD_ints {l : List Int} (h : l.length < 2 ^ 61) : okD 1 (.lst (l.map D.int)) := ⟨by rw [List.length_map]; exact h, fun d hd => by obtain ⟨_, _, rfl⟩ := List.mem_map.mp hd; trivial⟩
end G
namespace G
open PySem PySem.Spec PyProof.Rows L2 Evl
section
variable {P : Program} {w : World} {K : PySem.W.Frag} {mg : Str → Option Value} {base : Heap}
theorem cutV_mem {xs : List V} {lo hi : Option Int} {i : Nat} {x : V} (h : (cutV xs lo hi)[i]? = some x) : x ∈ xs := by
  unfold cutV at h
  exact List.mem_of_mem_drop (List.mem_of_mem_take (List.mem_of_getElem? h))
theorem int_of {ns : List Int} {x : V} (h : x ∈ ns.map V.int) : ∃ z, x = .int z := by
  obtain ⟨z, _, e⟩ := List.mem_map.mp h
  exact ⟨z, e.symm⟩
def spPool (K : PySem.W.Frag) : Sp := fun vs H Q _ => ∃ (s : Addr) (ns : List Int), vs = [.ref s] ∧ SqL K H s (ns.map V.int) ∧ ns.length ≤ 1000 ∧ ∀ (p a : Addr) (H' : Hp), PoolOk p a H' → Ex H H' → H p = none → Q (.ref p) H'
theorem sc_law_pool : FnScope ["script", "salt", "cell"] ["script"] (defScope s_law_pool) := ⟨rfl, rfl, rfl, by decide +kernel, rfl, by decide +kernel, by decide +kernel⟩
theorem ok_law_pool (D : Dfd K mg "_law_pool" s_law_pool ["script"]) (T : TxtL mg) : Has P w K mg base 1 "_law_pool" ["script"] (spPool K) := by
  refine D.has fun f fd F => F.ok sc_law_pool (fun vs H Q E h => ?_) (fun cdv A outer s H vs Q E hr h => ?_)
  · obtain ⟨c, _, rfl, _⟩ := h
    rfl
  · obtain ⟨sa, ns, rfl, hs, hn, q⟩ := h
    refine ⟨_, (pss_cons (ps_set (i := 1) sc_law_pool.nd rfl (.inl rfl) pe_int)
      (pss_cons (ps_for PassesOwn.never rfl (pi_list (pe_slice sl_list (pv 0) po_none (po_some pe_int))) (pg_name (i := 2) sc_law_pool.nd rfl (.inl rfl))
        (pss_one (ps_set (i := 1) sc_law_pool.nd rfl (.inl rfl) (pe_op op_mod (pe_callTy call_int1 (by rfl) T.int (by decide +kernel) (pa_cons (pe_op op_add (pe_op op_mul (pv 1) pe_int) (pv 2)) pa_nil)) pe_int))))
      (pss_one (ps_ret (pe_lst (pa_cons (pe_callTy call_list_of (by rfl) T.list (by decide +kernel) (pa_cons (pv 0) pa_nil)) (pa_cons pe_int (pa_cons pe_int (pa_cons pe_int (pa_cons (pv 1) pa_nil)))))))))), ?_⟩
    refine ⟨_, rfl, _, rfl, sa, _, rfl, hs, fun c nc => ⟨c, rfl, ⟨_, SqL.of upd_same⟩, for_list (K := K) (a := c) (xs := cutV (ns.map V.int) none (some 63)) (fun _ σ H' => H' = upd H c (.lst (cutV (ns.map V.int) none (some 63))) ∧ ∃ (x : Int) (z : Option V), σ = [some (.ref sa), some (.int x), z]) ⟨rfl, _, _, rfl⟩ ?_ ?_ ?_⟩⟩
    · rintro i σ H' _ ⟨rfl, _⟩
      exact SqL.of upd_same
    · rintro i x σ H' hi ⟨rfl, y, z, rfl⟩
      obtain ⟨m, rfl⟩ := int_of (cutV_mem hi)
      exact ⟨_, rfl, _, _, rfl, rfl, .inr ⟨by decide, by decide⟩, _, rfl, _, _, rfl, rfl, .inl ⟨_, rfl, _, _, rfl, rfl, (by show (0 : Int) < 1000003; decide), rfl, _, _, rfl⟩⟩
    · rintro σ H' ⟨rfl, y, z, rfl⟩
      have e1 : Ex H (upd H c (.lst (cutV (ns.map V.int) none (some 63)))) := Ex.new nc
      refine ⟨_, rfl, _, _, rfl, .inl (ex_l e1 hs), fun l nl => ⟨_, rfl, (by show 5 ≤ sizeLine; decide), fun p np => ?_⟩⟩
      have e2 := e1.trans (Ex.new (o := .lst (ns.map V.int)) nl)
      have npl : l ≠ p := ne_of_none upd_same np
      exact q p l _ ⟨ns, 0, 0, 0, y, upd_same, by rw [hid_ne npl, upd_ne npl]; exact upd_same, hn⟩ (e2.trans (Ex.new np)) (fresh_back e2 np)
end
end G
/-! ## tokens -/
namespace G
open PySem PySem.Spec PyProof.Rows L2 Evl TL
def sLET : Str := "abcdefghijklmnopqrstuvwxyz"
def sDIG : Str := "0123456789"
def sRUN : Str := "abcdefghijklmnopqrstuvwxyz0123456789_"
def kwds : List Str := ["cell", "pin", "module", "gate", "part", "reg", "edge", "out", "setup", "hold", "start"]
def sgns : List Str := ["(", ")", "{", "}", ",", ";", ":", "=", "->", "..", "&", "|", "^", "!"]
def isRun (c : Nat) : Bool := decide (c ∈ tl sRUN)
def isWord (T : List Nat) : Bool := match T with
  | [] => false
  | c :: _ => decide (c ∈ tl sLET) && T.all isRun
def isNum (T : List Nat) : Bool := match T with
  | [] => false
  | c :: _ => decide (T.length ≤ 9) && !(decide (c = 48) && !decide (T = [48])) && T.all fun d => decide (d ∈ tl sDIG)
def isName (T : List Nat) : Bool := isWord T && !decide (mk T ∈ kwds)
/-- a token that is a run -/
def RunTok (T : List Nat) : Prop := T ≠ [] ∧ (∀ c ∈ T, isRun c = true) ∧ (isWord T = true ∨ isNum T = true)
def SgnTok (T : List Nat) : Prop := mk T ∈ sgns
def NoRun (S : List Nat) : Prop := ∀ c r, S = c :: r → isRun c = false
/-- S is a text of these tokens -/
inductive Lx : List Nat → List (List Nat) → Prop where
  | nil : Lx [] []
  | sp {c : Nat} {S : List Nat} {ts : List (List Nat)} (h : c = 32 ∨ c = 10) (r : Lx S ts) : Lx (c :: S) ts
  | com {b S : List Nat} {ts : List (List Nat)} (h : 10 ∉ b) (hs : S = [] ∨ ∃ q, S = 10 :: q) (r : Lx S ts) : Lx (35 :: b ++ S) ts
  | run {T S : List Nat} {ts : List (List Nat)} (h : RunTok T) (hs : NoRun S) (r : Lx S ts) : Lx (T ++ S) (T :: ts)
  | sgn {T S : List Nat} {ts : List (List Nat)} (h : SgnTok T) (r : Lx S ts) : Lx (T ++ S) (T :: ts)
theorem dig_run : ∀ c ∈ tl sDIG, isRun c = true := by decide +kernel
theorem let_run : ∀ c ∈ tl sLET, isRun c = true := by decide +kernel
theorem run_not : isRun 32 = false ∧ isRun 10 = false ∧ isRun 35 = false := by decide +kernel
theorem sgn_facts : ∀ s ∈ sgns, tl s ≠ [] ∧ isRun ((tl s).headD 0) = false ∧ (tl s).headD 0 ≠ 32 ∧ (tl s).headD 0 ≠ 10 ∧ (tl s).headD 0 ≠ 35 ∧ (tl s).length ≤ 2 := by decide +kernel
theorem sgn_apart : ∀ s ∈ sgns, ∀ u ∈ sgns, s ≠ u → pre (tl s) (tl u) = false := by decide +kernel
theorem sgn_of {T : List Nat} (h : SgnTok T) : T ≠ [] ∧ isRun (T.headD 0) = false ∧ T.headD 0 ≠ 32 ∧ T.headD 0 ≠ 10 ∧ T.headD 0 ≠ 35 ∧ T.length ≤ 2 := sgn_facts (mk T) h
/-- where a run ends -/
def RunTo (L : List Nat) (i e : Nat) : Prop := i ≤ e ∧ e ≤ L.length ∧ (∀ k, i ≤ k → k < e → ∀ c, L[k]? = some c → isRun c = true) ∧ (∀ c, L[e]? = some c → isRun c = false)
theorem runTo_eq {L T S : List Nat} {i e : Nat} (h : RunTo L i e) (hL : L.drop i = T ++ S) (hT : ∀ c ∈ T, isRun c = true) (hS : NoRun S) (hi : i ≤ L.length) : e = i + T.length := by
  obtain ⟨h1, h2, h3, h4⟩ := h
  have hat : ∀ j, L[i + j]? = (T ++ S)[j]? := fun j => by rw [← hL, List.getElem?_drop]
  have hlen : L.length = i + (T.length + S.length) := by
    have := congrArg List.length hL
    rw [List.length_drop, List.length_append] at this
    omega
  by_cases c1 : e < i + T.length
  · have he : L[e]? = some T[e - i] := by
      have := hat (e - i)
      rw [show i + (e - i) = e by omega, List.getElem?_append_left (by omega), List.getElem?_eq_getElem (show e - i < T.length by omega)] at this
      exact this
    have := h4 _ he
    rw [hT _ (List.getElem_mem (by omega))] at this
    cases this
  · by_cases c2 : i + T.length < e
    · cases hS' : S with
      | nil => rw [hS'] at hlen; simp at hlen; omega
      | cons c r =>
        have he : L[i + T.length]? = some c := by rw [hat, List.getElem?_append_right (Nat.le_refl _), Nat.sub_self, hS']; rfl
        have := h3 (i + T.length) (by omega) c2 c he
        rw [hS c r hS'] at this
        cases this
    · omega
theorem isWord_mem {T : List Nat} {c : Nat} {r : List Nat} (e : T = c :: r) : isWord T = (decide (c ∈ tl sLET) && T.all isRun) := by subst e; rfl
theorem isNum_mem {T : List Nat} {c : Nat} {r : List Nat} (e : T = c :: r) : isNum T = (decide (T.length ≤ 9) && !(decide (c = 48) && !decide (T = [48])) && T.all fun d => decide (d ∈ tl sDIG)) := by subst e; rfl
theorem inV_strs {k : Str} {l : List Str} : inV (.str k) (l.map V.str) = decide (k ∈ l) := by
  unfold inV
  rw [List.any_map, Bool.eq_iff_iff, List.any_eq_true, decide_eq_true_iff]
  constructor
  · rintro ⟨y, hy, h⟩
    have h' : (y == k) = true := h
    rw [← eq_of_beq h']; exact hy
  · intro h
    exact ⟨k, h, (beq_self_eq_true k : (k == k) = true)⟩
structure TxtK (K : PySem.W.Frag) (mg : Str → Option Value) : Prop where
  len : mg "len" = none
  all : mg "all" = none
  LETTERS : ∃ t, mg "LETTERS" = some (.str sLET t)
  DIGITS : ∃ t, mg "DIGITS" = some (.str sDIG t)
  RUN : ∃ t, mg "RUN_CHARACTERS" = some (.str sRUN t)
  MOST : ∃ t, mg "MOST_DIGITS" = some (.int 9 t)
  KEY : ∃ a, mg "KEYWORDS" = some (.ref a) ∧ ∀ H, SqT K H a (kwds.map V.str)
  SIG : ∃ a, mg "SIGNS" = some (.ref a) ∧ ∀ H, SqT K H a (sgns.map V.str)
section
variable {P : Program} {w : World} {K : PySem.W.Frag} {mg : Str → Option Value} {base : Heap}
def spIsWord : Sp := fun vs H Q _ => ∃ T : List Nat, vs = [.str (mk T)] ∧ T ≠ [] ∧ T.length ≤ 50000 ∧ ∀ H', Ex H H' → Q (.bl (isWord T)) H'
theorem all_bl {l : List Nat} {g : Nat → Bool} : (l.map fun c => V.bl (g c)) = (l.map g).map V.bl := by rw [List.map_map]; rfl
theorem sc_is_word : FnScope ["token", "character"] ["token"] (defScope s_is_word) := ⟨rfl, rfl, rfl, by decide +kernel, rfl, by decide +kernel, by decide +kernel⟩
theorem ok_is_word (D : Dfd K mg "is_word" s_is_word ["token"]) (T : TxtK K mg) : Has P w K mg base 1 "is_word" ["token"] spIsWord := by
  obtain ⟨tL, g_LETTERS⟩ := T.LETTERS
  obtain ⟨tR, g_RUN_CHARACTERS⟩ := T.RUN
  refine D.has fun f fd F => F.ok sc_is_word (fun vs H Q E h => ?_) (fun cdv A outer s H vs Q E hr h => ?_)
  · obtain ⟨T, rfl, _⟩ := h
    rfl
  · obtain ⟨T, rfl, hne, hlen, q⟩ := h
    obtain ⟨c, r, rfl⟩ := List.exists_cons_of_ne_nil hne
    have hs : (mk (c :: r)).length ≤ sizeLine := by rw [mk_len]; exact sz_of (by omega)
    refine ⟨_, (pss_one (ps_ret (pe_and (pe_cmpR op_in_sign (pe_ix ix_str (pv 0) pe_int (fun _ _ => rfl)) (gStr rfl g_LETTERS) rfl) (pe_one (pe_callB (cr_all rfl) (by rfl) T.all (by decide +kernel) (pa_cons (pe_lc (own := [("character", 1)]) (g := gName 1) (tt := tYes) rfl sc_is_word.nd (pi_str (pv 0)) (blkOk_by (N := ["token", "character"]) (sc := defScope s_is_word) (own := [("character", 1)]) (by decide +kernel)) (fun _ _ _ _ _ => (pg_name (i := 1) sc_is_word.nd rfl (.inl rfl))) (fun _ _ _ _ _ => pts_nil) (fun _ _ _ _ _ => (pe_cmpR op_in_sign (pv 1) (gStr rfl g_RUN_CHARACTERS) rfl))) pa_nil)))))), ?_⟩
    refine ⟨_, rfl, _, _, c, rfl, rfl, hs, atI_nat (j := 0) rfl, c, sLET, rfl, rfl, _, rfl, ?_⟩
    have key : isWord (c :: r) = (decide (c ∈ tl sLET) && (c :: r).all isRun) := rfl
    cases hc : decide (c ∈ tl sLET) with
    | false =>
      refine iteF ?_
      rw [hc] at key
      have := q H (Ex.refl H)
      rw [key] at this
      exact this
    | true =>
      refine iteT ⟨_, rfl, _, rfl, fun L nL => lcSm (fun d => .bl (isRun d)) (by rw [mk_len]; omega) (fun _ => rfl) (fun i d H1 _ _ Q q => ⟨_, rfl, d, sRUN, rfl, rfl, q⟩) ?_⟩
      refine ⟨L, ((tl (mk (c :: r))).map isRun), rfl, SqL.of ?_, ?_⟩
      · rw [upd_same, all_bl]
      · rw [hc] at key
        have := q _ (Ex.new (o := .lst ((tl (mk (c :: r))).map fun d => V.bl (isRun d))) nL)
        rw [key, Bool.true_and] at this
        have e : ((tl (mk (c :: r))).map isRun).all id = (c :: r).all isRun := by rw [List.all_map]; rfl
        rw [e]
        exact this
def spIsNum : Sp := fun vs H Q _ => ∃ T : List Nat, vs = [.str (mk T)] ∧ T ≠ [] ∧ T.length ≤ 50000 ∧ ∀ H', Ex H H' → Q (.bl (isNum T)) H'
theorem sc_is_numeral : FnScope ["token", "character"] ["token"] (defScope s_is_numeral) := ⟨rfl, rfl, rfl, by decide +kernel, rfl, by decide +kernel, by decide +kernel⟩
theorem ok_is_numeral (D : Dfd K mg "is_numeral" s_is_numeral ["token"]) (T : TxtK K mg) : Has P w K mg base 1 "is_numeral" ["token"] spIsNum := by
  obtain ⟨tL, g_DIGITS⟩ := T.DIGITS
  obtain ⟨tM, g_MOST_DIGITS⟩ := T.MOST
  refine D.has fun f fd F => F.ok sc_is_numeral (fun vs H Q E h => ?_) (fun cdv A outer s H vs Q E hr h => ?_)
  · obtain ⟨T, rfl, _⟩ := h
    rfl
  · obtain ⟨T, rfl, hne, hlen, q⟩ := h
    obtain ⟨c, r, rfl⟩ := List.exists_cons_of_ne_nil hne
    have hs : (mk (c :: r)).length ≤ sizeLine := by rw [mk_len]; exact sz_of (by omega)
    have key : isNum (c :: r) = (decide ((c :: r).length ≤ 9) && !(decide (c = 48) && !decide (c :: r = [48])) && (c :: r).all fun d => decide (d ∈ tl sDIG)) := rfl
    have no : isNum (c :: r) = false → Q (.bl false) H := fun e => by have := q H (Ex.refl H); rw [e] at this; exact this
    refine ⟨_, (pss_cut (ps_if (PW.pt (pw_or (pt_cmpR op_gt (pe_callB call_len_str (by rfl) T.len (by decide +kernel) (pa_cons (pv 0) pa_nil)) (gInt rfl g_MOST_DIGITS) (nomark _)) (pw_or1 (PW.pt (pw_and (pt_cmpR op_eq (pe_ix ix_str (pv 0) pe_int (fun _ _ => rfl)) pe_str (nomark _)) (pw_and1 (pt_cmpR op_ne (pv 0) pe_str (nomark _))))))))
      (pss_one (ps_ret pe_bl))
      pss_nil)
    (pss_one (ps_ret (pe_callB (cr_all rfl) (by rfl) T.all (by decide +kernel) (pa_cons (pe_lc (own := [("character", 1)]) (g := gName 1) (tt := tYes) rfl sc_is_numeral.nd (pi_str (pv 0)) (blkOk_by (N := ["token", "character"]) (sc := defScope s_is_numeral) (own := [("character", 1)]) (by decide +kernel)) (fun _ _ _ _ _ => (pg_name (i := 1) sc_is_numeral.nd rfl (.inl rfl))) (fun _ _ _ _ _ => pts_nil) (fun _ _ _ _ _ => (pe_cmpR op_in_sign (pv 1) (gStr rfl g_DIGITS) rfl))) pa_nil))))), ?_⟩
    refine ⟨fun σ H' => σ = [some (.str (mk (c :: r))), none] ∧ H' = H ∧ (c :: r).length ≤ 9 ∧ (decide (c = 48) && !decide (c :: r = [48])) = false, ?_, ?_⟩
    · refine ⟨_, rfl, _, rfl, hs, _, _, rfl, rfl, _, rfl, ite2 (fun e => ?_) (fun e => ?_)⟩
      · refine iteT (no ?_)
        have h1 := of_decide_eq_true e
        rw [mk_len] at h1
        rw [key, decide_eq_false (by omega)]; rfl
      · have h9 : (c :: r).length ≤ 9 := by
          have : ¬ (9 : Int) < ((mk (c :: r)).length : Int) := fun z => e (decide_eq_true z)
          rw [mk_len] at this; omega
        refine ⟨_, rfl, _, _, c, rfl, rfl, hs, atI_nat (j := 0) rfl, rfl, _, rfl, ?_⟩
        have e48 : decide (V.str (⟨#[c]⟩ : Str) = V.str "0") = decide (c = 48) := by
          show decide (V.str (mk [c]) = V.str (mk [48])) = _
          rw [decV_mk]; by_cases h : c = 48 <;> simp [h]
        rw [e48]
        cases hc : decide (c = 48) with
        | false => exact iteF (iteF ⟨rfl, rfl, h9, rfl⟩)
        | true =>
          refine iteT ⟨_, rfl, rfl, _, rfl, ?_⟩
          have e0 : decide (V.str (mk (c :: r)) = V.str "0") = decide (c :: r = [48]) := decV_mk (c :: r) [48]
          rw [e0]
          cases hd : decide (c :: r = [48]) with
          | true => exact iteF ⟨rfl, rfl, h9, rfl⟩
          | false =>
            refine iteT (no ?_)
            rw [key, hc, hd, decide_eq_true h9]; rfl
    · rintro σ H' ⟨rfl, rfl, h9, hz⟩
      refine ⟨_, rfl, _, rfl, fun L nL => lcSm (fun d => .bl (decide (d ∈ tl sDIG))) (by rw [mk_len]; omega) (fun _ => rfl) (fun i d H1 _ _ Q q => ⟨_, rfl, d, sDIG, rfl, rfl, q⟩) ?_⟩
      refine ⟨L, ((tl (mk (c :: r))).map fun d => decide (d ∈ tl sDIG)), rfl, SqL.of ?_, ?_⟩
      · rw [upd_same, all_bl]
      · have := q _ (Ex.new (o := .lst ((tl (mk (c :: r))).map fun d => V.bl (decide (d ∈ tl sDIG)))) nL)
        rw [key, hz, decide_eq_true h9] at this
        have e : ((tl (mk (c :: r))).map fun d => decide (d ∈ tl sDIG)).all id = (c :: r).all fun d => decide (d ∈ tl sDIG) := by rw [List.all_map]; rfl
        show Q (.bl (((tl (mk (c :: r))).map fun d => decide (d ∈ tl sDIG)).all id)) _
        rw [e]
        exact this
def spIsName : Sp := fun vs H Q _ => ∃ T : List Nat, vs = [.str (mk T)] ∧ T ≠ [] ∧ T.length ≤ 50000 ∧ ∀ H', Ex H H' → Q (.bl (isName T)) H'
theorem sc_is_name : FnScope ["token"] ["token"] (defScope s_is_name) := ⟨rfl, rfl, rfl, by decide +kernel, rfl, by decide +kernel, by decide +kernel⟩
theorem ok_is_name (D : Dfd K mg "is_name" s_is_name ["token"]) (T : TxtK K mg) (C : Has P w K mg base 1 "is_word" ["token"] spIsWord) : Has P w K mg base 2 "is_name" ["token"] spIsName := by
  obtain ⟨aK, g_KEYWORDS, hK⟩ := T.KEY
  obtain ⟨f_is_word, d_is_word, G_is_word, g_is_word, k_is_word, b_is_word⟩ := C
  refine D.has fun f fd F => F.ok sc_is_name (fun vs H Q E h => ?_) (fun cdv A outer s H vs Q E hr h => ?_)
  · obtain ⟨T, rfl, _⟩ := h
    rfl
  · obtain ⟨T, rfl, hne, hlen, q⟩ := h
    refine ⟨_, (pss_one (ps_ret (pe_and (pe_call G_is_word (hr.mono (by omega)) (by rfl) g_is_word k_is_word b_is_word .nil pass0 (pa_cons (pv 0) pa_nil)) (pe_one (pe_cmpR op_notIn_seq (pv 0) (gRef rfl g_KEYWORDS) (by rfl)))))), ?_⟩
    refine ⟨_, rfl, T, rfl, hne, hlen, fun H1 e1 => ⟨_, rfl, ?_⟩⟩
    have := q H1 e1
    unfold isName at this
    cases hw : isWord T with
    | false => rw [hw] at this; exact iteF this
    | true =>
      rw [hw, Bool.true_and] at this
      refine iteT ⟨_, rfl, aK, _, rfl, .inr (hK H1), rfl, flat_map (fun _ => rfl) _, ?_⟩
      show Q (.bl (if true = true then !inV (.str (mk T)) (kwds.map V.str) else inV (.str (mk T)) (kwds.map V.str))) H1
      rw [if_pos rfl, inV_strs]
      exact this
def spRunEnd : Sp := fun vs H Q _ => ∃ (x : Str) (i : Nat), vs = [.str x, .int i] ∧ i ≤ x.length ∧ x.length ≤ 50000 ∧ ∀ e : Nat, RunTo (tl x) i e → Q (.int e) H
theorem sc_run_end : FnScope ["text", "at", "end"] ["text", "at"] (defScope s_run_end) := ⟨rfl, rfl, rfl, by decide +kernel, rfl, by decide +kernel, by decide +kernel⟩
theorem ok_run_end (D : Dfd K mg "_run_end" s_run_end ["text", "at"]) (T : TxtK K mg) : Has P w K mg base 1 "_run_end" ["text", "at"] spRunEnd := by
  obtain ⟨tR, g_RUN_CHARACTERS⟩ := T.RUN
  refine D.has fun f fd F => F.ok sc_run_end (fun vs H Q E h => ?_) (fun cdv A outer s H vs Q E hr h => ?_)
  · obtain ⟨_, _, rfl, _⟩ := h
    rfl
  · obtain ⟨x, i, rfl, hi, hlen, q⟩ := h
    have hs : x.length ≤ sizeLine := sz_of (by omega)
    refine ⟨_, (pss_cons (ps_set (i := 2) sc_run_end.nd rfl (.inl rfl) (pv 1))
    (pss_cons (ps_while PassesOwn.never (PW.pt (pw_and (pt_cmpR op_lt (pv 2) (pe_callB call_len_str (by rfl) T.len (by decide +kernel) (pa_cons (pv 0) pa_nil)) (nomark _)) (pw_and1 (pt_cmpR op_in_sign (pe_ix ix_str (pv 0) (pv 2) (fun _ _ => rfl)) (gStr rfl g_RUN_CHARACTERS) rfl))))
      (pss_one (ps_aug (i := 2) sc_run_end.nd rfl (.inl rfl) pe_int ip_add)))
    (pss_one (ps_ret (pv 2))))), ?_⟩
    refine ⟨_, rfl, fun m σ H' => H' = H ∧ ∃ e : Nat, σ = [some (.str x), some (.int i), some (.int e)] ∧ i ≤ e ∧ e ≤ x.length ∧ m = x.length - e ∧ ∀ k, i ≤ k → k < e → ∀ c, (tl x)[k]? = some c → isRun c = true, ⟨_, rfl, i, rfl, by omega, hi, rfl, fun k h1 h2 => by omega⟩, ?_⟩
    rintro m σ H' ⟨rfl, e, rfl, h1, h2, rfl, h3⟩
    refine ⟨_, rfl, _, rfl, _, rfl, hs, _, _, rfl, rfl, _, rfl, ite2 (fun c1 => ?_) (fun c1 => ?_)⟩
    · have he : e < x.length := by have := of_decide_eq_true c1; omega
      have het : e < (tl x).length := by rw [← len_tl]; exact he
      refine ⟨_, rfl, _, rfl, _, _, (tl x)[e], rfl, rfl, hs, atI_nat (List.getElem?_eq_getElem het), (tl x)[e], sRUN, rfl, rfl, _, rfl, ?_⟩
      cases hc : decide ((tl x)[e] ∈ tl sRUN) with
      | true =>
        refine iteT ⟨fun σ' H'' => H'' = H' ∧ σ' = [some (.str x), some (.int i), some (.int ((e + 1 : Nat) : Int))], ?_, ?_⟩
        · rintro σ' H'' ⟨rfl, rfl⟩
          refine ⟨x.length - (e + 1), by omega, rfl, e + 1, rfl, by omega, by omega, rfl, fun k k1 k2 c hk => ?_⟩
          by_cases ke : k = e
          · subst ke
            rw [List.getElem?_eq_getElem het] at hk
            rw [← Option.some.inj hk]; exact hc
          · exact h3 k k1 (by omega) c hk
        · exact ⟨_, rfl, _, _, rfl, rfl, rfl, rfl⟩
      | false =>
        refine iteF ⟨_, rfl, q e ⟨h1, by rw [← len_tl]; exact h2, h3, fun c hk => ?_⟩⟩
        rw [List.getElem?_eq_getElem het] at hk
        rw [← Option.some.inj hk]; exact hc
    · have he : e = x.length := by
        have : ¬ (e : Int) < (x.length : Int) := fun z => c1 (decide_eq_true z)
        omega
      refine iteF ⟨_, rfl, q e ⟨h1, by rw [← len_tl]; exact h2, h3, fun c hk => ?_⟩⟩
      rw [List.getElem?_eq_none (by rw [← len_tl]; omega)] at hk
      cases hk
end
end G
namespace G
open PySem PySem.Spec PyProof.Rows L2 Evl TL
section
variable {P : Program} {w : World} {K : PySem.W.Frag} {mg : Str → Option Value} {base : Heap}
/-- a comment ends ahead of the next line feed, or with the text -/
def spLineEnd : Sp := fun vs H Q _ => ∃ (x : Str) (i : Nat) (b S : List Nat), vs = [.str x, .int i] ∧ x.length ≤ 50000 ∧ i ≤ x.length ∧ (tl x).drop i = b ++ S ∧ 10 ∉ b ∧ (S = [] ∨ ∃ q, S = 10 :: q) ∧ Q (.int ((i + b.length : Nat) : Int)) H
theorem sc_line_end : FnScope ["text", "at", "end"] ["text", "at"] (defScope s_line_end) := ⟨rfl, rfl, rfl, by decide +kernel, rfl, by decide +kernel, by decide +kernel⟩
theorem ok_line_end (D : Dfd K mg "_line_end" s_line_end ["text", "at"]) (T : TxtK K mg) : Has P w K mg base 1 "_line_end" ["text", "at"] spLineEnd := by
  refine D.has fun f fd F => F.ok sc_line_end (fun vs H Q E h => ?_) (fun cdv A outer s H vs Q E hr h => ?_)
  · obtain ⟨_, _, _, _, rfl, _⟩ := h
    rfl
  · obtain ⟨x, i, b, S, rfl, hlen, hix, hd, hb, hS, q⟩ := h
    have hs : x.length ≤ sizeLine := sz_of (by omega)
    have hl : x.length = i + (b.length + S.length) := by
      have := congrArg List.length hd
      rw [List.length_drop, List.length_append, ← len_tl] at this
      omega
    refine ⟨_, (pss_cons (ps_set (i := 2) sc_line_end.nd rfl (.inl rfl) (pe_bm PySem.F.plainAttrs_str PySem.F.slot_str_find PySem.F.type_str_find mt_find3 (pv 0) (pa_cons pe_str (pa_cons (pv 1) pa_nil))))
    (pss_one (ps_ret (pe_ifExp (pt_cmpR op_lt (pv 2) pe_int (nomark _)) (pe_callB call_len_str (by rfl) T.len (by decide +kernel) (pa_cons (pv 0) pa_nil)) (pv 2))))), ?_⟩
    refine ⟨_, rfl, rfl, _, rfl, x, mk [10], (i : Int), rfl, rfl, ?_⟩
    rcases hS with rfl | ⟨q', rfl⟩
    · rw [find_miss (x := x) (c := 10) (i := i) (by rw [hd, List.append_nil]; exact hb)]
      refine ⟨_, rfl, _, _, rfl, rfl, _, rfl, iteT ⟨_, rfl, x, rfl, hs, ?_⟩⟩
      rw [hl, List.length_nil, Nat.add_zero]
      exact q
    · rw [find_hit (x := x) (c := 10) (i := i) hd hb]
      refine ⟨_, rfl, _, _, rfl, rfl, _, rfl, ite2 (fun e => ?_) (fun e => ⟨_, rfl, q⟩)⟩
      have := of_decide_eq_true e
      omega
/-- the token at a place -/
def spTokenAt : Sp := fun vs H Q _ => ∃ (x : Str) (i : Nat) (T S : List Nat), vs = [.str x, .int i] ∧ x.length ≤ 50000 ∧ i ≤ x.length ∧ (tl x).drop i = T ++ S ∧ ((RunTok T ∧ NoRun S) ∨ SgnTok T) ∧ ∀ H', Ex H H' → Q (.str (mk T)) H'
theorem sc_token_at : FnScope ["text", "at", "run", "sign"] ["text", "at"] (defScope s_token_at) := ⟨rfl, rfl, rfl, by decide +kernel, rfl, by decide +kernel, by decide +kernel⟩
theorem ok_token_at (D : Dfd K mg "_token_at" s_token_at ["text", "at"]) (T : TxtK K mg) (C1 : Has P w K mg base 1 "_run_end" ["text", "at"] spRunEnd) (C2 : Has P w K mg base 1 "is_word" ["token"] spIsWord) (C3 : Has P w K mg base 1 "is_numeral" ["token"] spIsNum) :
    Has P w K mg base 2 "_token_at" ["text", "at"] spTokenAt := by
  obtain ⟨f_run_end, d_run_end, G_run_end, g_run_end, k_run_end, b_run_end⟩ := C1
  obtain ⟨f_is_word, d_is_word, G_is_word, g_is_word, k_is_word, b_is_word⟩ := C2
  obtain ⟨f_is_numeral, d_is_numeral, G_is_numeral, g_is_numeral, k_is_numeral, b_is_numeral⟩ := C3
  obtain ⟨aS, g_SIGNS, hSg⟩ := T.SIG
  refine D.has fun f fd F => F.ok sc_token_at (fun vs H Q E h => ?_) (fun cdv A outer s H vs Q E hr h => ?_)
  · obtain ⟨_, _, _, _, rfl, _⟩ := h
    rfl
  · obtain ⟨x, i, T, S, rfl, hlen, hix, hd, hT, q⟩ := h
    have hs : x.length ≤ sizeLine := sz_of (by omega)
    have hl : x.length = i + (T.length + S.length) := by
      have := congrArg List.length hd
      rw [List.length_drop, List.length_append, ← len_tl] at this
      omega
    refine ⟨_, (pss_cons (ps_set (i := 2) sc_token_at.nd rfl (.inl rfl) (pe_slice sl_str (pv 0) (po_some (pv 1)) (po_some (pe_call G_run_end (hr.mono (by omega)) (by rfl) g_run_end k_run_end b_run_end .nil pass0 (pa_cons (pv 0) (pa_cons (pv 1) pa_nil))))))
    (pss_cut (ps_if (PW.pt (pw_and (pt_truth (pv 2) (by intro _; rfl)) (pw_and1 (PW.pt (pw_or (pt_val (pe_call G_is_word (hr.mono (by omega)) (by rfl) g_is_word k_is_word b_is_word .nil pass0 (pa_cons (pv 2) pa_nil))) (pw_or1 (pt_val (pe_call G_is_numeral (hr.mono (by omega)) (by rfl) g_is_numeral k_is_numeral b_is_numeral .nil pass0 (pa_cons (pv 2) pa_nil)))))))))
      (pss_one (ps_ret (pv 2)))
      pss_nil)
    (pss_cons (ps_for PassesOwn.never rfl (pi_tup (gRef rfl g_SIGNS)) (pg_name (i := 3) sc_token_at.nd rfl (.inl rfl))
      (pss_one (ps_if (pt_val (pe_bm PySem.F.plainAttrs_str PySem.F.slot_str_startswith PySem.F.type_str_startswith mt_startswith3 (pv 0) (pa_cons (pv 3) (pa_cons (pv 1) pa_nil))))
        (pss_one (ps_ret (pv 3)))
        pss_nil)))
    (pss_one ps_never)))), ?_⟩
    refine ⟨_, rfl, _, rfl, _, rfl, _, rfl, _, rfl, x, i, rfl, hix, hlen, fun e he => ⟨_, rfl, x, rfl, hs, ?_⟩⟩
    have hcut : cutS x (some (i : Int)) (some (e : Int)) = mk (((tl x).drop i).take (e - i)) := cut_nat he.1 (by rw [len_tl]; exact he.2.1)
    rw [hcut]
    rcases hT with ⟨hrun, hS⟩ | hsg
    · -- a run
      have ee := runTo_eq he hd hrun.2.1 hS (by rw [← len_tl]; exact hix)
      have et : ((tl x).drop i).take (e - i) = T := by rw [hd, ee, show i + T.length - i = T.length by omega, List.take_left' rfl]
      rw [et]
      refine ⟨fun _ _ => False, ?_, fun _ _ z => z.elim⟩
      have hTl : T.length ≤ 50000 := by omega
      have h0 : ((mk T).length : Int) != 0 := by
        have : 0 < T.length := List.length_pos_iff.mpr hrun.1
        exact bne_iff_ne.mpr (by rw [mk_len]; omega)
      refine ⟨_, rfl, true, ⟨by rw [mk_len]; exact sz_of (by omega), h0.symm⟩, iteT ⟨_, rfl, T, rfl, hrun.1, hTl, fun H1 e1 => ⟨_, rfl, ?_⟩⟩⟩
      cases hw : isWord T with
      | true => exact iteT (iteT ⟨_, rfl, q H1 e1⟩)
      | false =>
        refine iteF ⟨_, rfl, T, rfl, hrun.1, hTl, fun H2 e2 => ⟨_, rfl, ?_⟩⟩
        have hn : isNum T = true := by
          rcases hrun.2.2 with z | z
          · rw [hw] at z; cases z
          · exact z
        rw [hn]
        exact iteT ⟨_, rfl, q H2 (e1.trans e2)⟩
    · -- a sign
      obtain ⟨hne, hnr, _, _, _, _⟩ := sgn_of hsg
      obtain ⟨c, r, rfl⟩ := List.exists_cons_of_ne_nil hne
      have ee : e = i := by
        by_cases c1 : i < e
        · have hc : (tl x)[i]? = some c := by
            have := List.getElem?_drop (xs := tl x) (i := i) (j := 0)
            rw [hd, Nat.add_zero] at this
            rw [← this]; rfl
          have := he.2.2.1 i (Nat.le_refl _) c1 c hc
          have hnr' : isRun c = false := hnr
          rw [hnr'] at this; cases this
        · have := he.1; omega
      rw [ee, Nat.sub_self, List.take_zero]
      refine ⟨fun σ H' => σ = [some (.str x), some (.int i), some (.str (mk [])), none] ∧ H' = H, ?_, ?_⟩
      · exact ⟨_, rfl, false, ⟨by rw [mk_len]; exact Nat.zero_le _, rfl⟩, iteF (iteF ⟨rfl, rfl⟩)⟩
      · rintro σ H' ⟨rfl, rfl⟩
        refine ⟨aS, rfl, ⟨_, hSg H'⟩, for_tup (K := K) (a := aS) (xs := sgns.map V.str) (fun j σ H2 => H2 = H' ∧ (∀ k, k < j → sgns[k]? ≠ some (mk (c :: r))) ∧ ∃ z : Option V, σ = [some (.str x), some (.int i), some (.str (mk [])), z])
          ⟨rfl, fun k hk => by omega, none, rfl⟩ (fun _ _ H2 _ _ => hSg H2) ?_ ?_⟩
        · rintro j y σ H2 hy ⟨rfl, hno, z, rfl⟩
          rw [List.getElem?_map] at hy
          cases hj : sgns[j]? with
          | none => rw [hj] at hy; cases hy
          | some u =>
            rw [hj] at hy
            have ey : V.str u = y := Option.some.inj hy
            subst ey
            have hu : u ∈ sgns := List.mem_of_getElem? hj
            refine ⟨_, rfl, rfl, _, rfl, _, rfl, x, u, (i : Int), rfl, rfl, _, rfl, ?_⟩
            rw [starts_at (sgn_facts u hu).1, hd]
            by_cases hc : u = mk (c :: r)
            · have hp : pre (tl u) (c :: r ++ S) = true := pre_iff.mpr ⟨S, by rw [hc]; rfl⟩
              rw [hp, hc]
              exact iteT ⟨_, rfl, q H2 (Ex.refl _)⟩
            · have hp : pre (tl u) (c :: r ++ S) = false := by
                cases hq : pre (tl u) (c :: r ++ S) with
                | false => rfl
                | true =>
                  obtain ⟨r2, e2⟩ := pre_iff.mp hq
                  have hsg' : mk (c :: r) ∈ sgns := hsg
                  rcases Nat.le_total (tl u).length (c :: r).length with l1 | l1
                  · have : pre (tl u) (tl (mk (c :: r))) = true := pre_iff.mpr ⟨(c :: r).drop (tl u).length, by
                      have := congrArg (List.take (c :: r).length) e2
                      rw [List.take_left' rfl, List.take_append, List.take_of_length_le l1] at this
                      show c :: r = _
                      have h4 := congrArg (List.drop (tl u).length) this
                      rw [List.drop_left' rfl] at h4
                      rw [h4, ← this]⟩
                    rw [sgn_apart u hu _ hsg' hc] at this; cases this
                  · have : pre (tl (mk (c :: r))) (tl u) = true := pre_iff.mpr ⟨(tl u).drop (c :: r).length, by
                      have := congrArg (List.take (tl u).length) e2.symm
                      rw [List.take_left' rfl, List.take_append, List.take_of_length_le l1] at this
                      have h4 := congrArg (List.drop (c :: r).length) this
                      rw [List.drop_left' rfl] at h4
                      show tl u = c :: r ++ _
                      rw [h4, ← this]⟩
                    rw [sgn_apart _ hsg' u hu (fun z => hc z.symm)] at this; cases this
              rw [hp]
              refine iteF ⟨rfl, fun k hk => ?_, _, rfl⟩
              by_cases ek : k = j
              · subst ek; rw [hj]; exact fun z => hc (Option.some.inj z)
              · exact hno k (by omega)
        · rintro σ H2 ⟨rfl, hno, z, rfl⟩
          have hsg' : mk (c :: r) ∈ sgns := hsg
          obtain ⟨k, hk, he'⟩ := List.getElem_of_mem hsg'
          exact absurd (List.getElem?_eq_some_iff.mpr ⟨hk, he'⟩) (hno k (by rw [List.length_map]; exact hk))
def strsV (ts : List (List Nat)) : List V := ts.map fun T => V.str (mk T)
def spTokenize : Sp := fun vs H Q _ => ∃ (x : Str) (ts : List (List Nat)), vs = [.str x] ∧ x.length ≤ 50000 ∧ Lx (tl x) ts ∧ ∀ p H', H p = none → Ex H H' → H' p = some (.lst (strsV ts)) → Q (.ref p) H'
theorem strsV_add (a : List (List Nat)) (T : List Nat) : strsV (a ++ [T]) = strsV a ++ [.str (mk T)] := by unfold strsV; rw [List.map_append]; rfl
theorem sc_tokenize : FnScope ["text", "tokens", "at", "token"] ["text"] (defScope s_tokenize) := ⟨rfl, rfl, rfl, by decide +kernel, rfl, by decide +kernel, by decide +kernel⟩
theorem ok_tokenize (D : Dfd K mg "tokenize" s_tokenize ["text"]) (T : TxtK K mg) (C1 : Has P w K mg base 1 "_line_end" ["text", "at"] spLineEnd) (C2 : Has P w K mg base 2 "_token_at" ["text", "at"] spTokenAt) : Has P w K mg base 3 "tokenize" ["text"] spTokenize := by
  obtain ⟨f_line_end, d_line_end, G_line_end, g_line_end, k_line_end, b_line_end⟩ := C1
  obtain ⟨f_token_at, d_token_at, G_token_at, g_token_at, k_token_at, b_token_at⟩ := C2
  refine D.has fun f fd F => F.ok sc_tokenize (fun vs H Q E h => ?_) (fun cdv A outer s H vs Q E hr h => ?_)
  · obtain ⟨_, _, rfl, _⟩ := h
    rfl
  · obtain ⟨x, ts, rfl, hlen, hL, q⟩ := h
    have hs : x.length ≤ sizeLine := sz_of (by omega)
    refine ⟨_, (pss_cons (ps_set (i := 1) sc_tokenize.nd rfl (.inl rfl) (pe_lst pa_nil))
    (pss_cons (ps_set (i := 2) sc_tokenize.nd rfl (.inl rfl) pe_int)
    (pss_cons (ps_while PassesOwn.never (pt_cmpR op_lt (pv 2) (pe_callB call_len_str (by rfl) T.len (by decide +kernel) (pa_cons (pv 0) pa_nil)) (nomark _))
      (pss_one (ps_if (PW.pt (pw_or (pt_cmpR op_eq (pe_ix ix_str (pv 0) (pv 2) (fun _ _ => rfl)) pe_str (nomark _)) (pw_or1 (pt_cmpR op_eq (pe_ix ix_str (pv 0) (pv 2) (fun _ _ => rfl)) pe_str (nomark _)))))
        (pss_one (ps_aug (i := 2) sc_tokenize.nd rfl (.inl rfl) pe_int ip_add))
        (pss_one (ps_if (pt_cmpR op_eq (pe_ix ix_str (pv 0) (pv 2) (fun _ _ => rfl)) pe_str (nomark _))
          (pss_one (ps_set (i := 2) sc_tokenize.nd rfl (.inl rfl) (pe_call G_line_end (hr.mono (by omega)) (by rfl) g_line_end k_line_end b_line_end .nil pass0 (pa_cons (pv 0) (pa_cons (pv 2) pa_nil)))))
          (pss_cons (ps_set (i := 3) sc_tokenize.nd rfl (.inl rfl) (pe_call G_token_at (hr.mono (by omega)) (by rfl) g_token_at k_token_at b_token_at .nil pass0 (pa_cons (pv 0) (pa_cons (pv 2) pa_nil))))
          (pss_cons (ps_expr (pe_bm PySem.F.plainAttrs_list PySem.F.slot_list_append PySem.F.type_list_append mt_append (pv 1) (pa_cons (pv 3) pa_nil)))
          (pss_one (ps_aug (i := 2) sc_tokenize.nd rfl (.inl rfl) (pe_callB call_len_str (by rfl) T.len (by decide +kernel) (pa_cons (pv 3) pa_nil)) ip_add)))))))))
    (pss_one (ps_ret (pv 1)))))), ?_⟩
    refine ⟨Nat.zero_le _, fun o no => ⟨fun m σ H' => Ex H H' ∧ ∃ (i : Nat) (S : List Nat) (us rs : List (List Nat)) (z : Option V), i ≤ x.length ∧ (tl x).drop i = S ∧ Lx S rs ∧ us ++ rs = ts ∧ us.length ≤ i ∧ m = x.length - i ∧ H' o = some (.lst (strsV us)) ∧ σ = [some (.str x), some (.ref o), some (.int i), z],
      ⟨_, Ex.new no, 0, tl x, [], ts, none, Nat.zero_le _, rfl, hL, rfl, Nat.le_refl _, rfl, upd_same, rfl⟩, ?_⟩⟩
    rintro m σ H1 ⟨e1, i, S, us, rs, z, hi, hd, hS, hts, hul, rfl, ho, rfl⟩
    have hl : x.length = i + S.length := by
      have := congrArg List.length hd
      rw [List.length_drop, ← len_tl] at this
      omega
    have hc0 : ∀ c r, S = c :: r → (tl x)[i]? = some c := fun c r e => by
      have := List.getElem?_drop (xs := tl x) (i := i) (j := 0)
      rw [hd, e, Nat.add_zero] at this
      rw [← this]; rfl
    have dec1 : ∀ c d : Nat, decide (V.str (⟨#[c]⟩ : Str) = V.str (mk [d])) = decide (c = d) := fun c d => by
      show decide (V.str (mk [c]) = V.str (mk [d])) = _
      rw [decV_mk]; by_cases h : c = d <;> simp [h]
    refine ⟨_, rfl, _, rfl, x, rfl, hs, _, _, rfl, rfl, _, rfl, ?_⟩
    cases hS with
    | nil =>
      rw [List.length_nil, Nat.add_zero] at hl
      rw [decide_eq_false (by omega)]
      refine iteF ⟨_, rfl, q o H1 no e1 ?_⟩
      rw [ho, ← hts, List.append_nil]
    | @sp c S' ts' hc hr' =>
      rw [List.length_cons] at hl
      have hcx := hc0 c S' rfl
      rw [decide_eq_true (by omega)]
      refine iteT ⟨fun σ H' => H' = H1 ∧ σ = [some (.str x), some (.ref o), some (.int ((i + 1 : Nat) : Int)), z], ?_, ?_⟩
      · rintro σ' H' ⟨rfl, rfl⟩
        refine ⟨x.length - (i + 1), by omega, e1, i + 1, S', us, rs, z, by omega, ?_, hr', hts, by omega, rfl, ho, rfl⟩
        rw [← List.drop_drop, hd]; rfl
      · refine ⟨_, rfl, _, rfl, _, _, c, rfl, rfl, hs, atI_nat hcx, rfl, _, rfl, ?_⟩
        have d32 : decide (V.str (⟨#[c]⟩ : Str) = V.str " ") = decide (c = 32) := dec1 c 32
        rw [d32]
        rcases hc with rfl | rfl
        · exact iteT (iteT ⟨_, rfl, _, _, rfl, rfl, rfl, rfl⟩)
        · refine iteF ⟨_, rfl, _, rfl, _, _, 10, rfl, rfl, hs, atI_nat hcx, rfl, _, rfl, ?_⟩
          have d10 : decide (V.str (⟨#[10]⟩ : Str) = V.str "\n") = decide (10 = 10) := dec1 10 10
          rw [d10]
          exact iteT ⟨_, rfl, _, _, rfl, rfl, rfl, rfl⟩
    | @com b S' ts' hb hs' hr' =>
      have hcx := hc0 35 (b ++ S') rfl
      rw [List.cons_append, List.length_cons, List.length_append] at hl
      rw [decide_eq_true (by omega)]
      refine iteT ⟨fun σ H' => H' = H1 ∧ σ = [some (.str x), some (.ref o), some (.int ((i + (35 :: b).length : Nat) : Int)), z], ?_, ?_⟩
      · rintro σ' H' ⟨rfl, rfl⟩
        refine ⟨x.length - (i + (35 :: b).length), by rw [List.length_cons]; omega, e1, i + (35 :: b).length, S', us, rs, z, by rw [List.length_cons]; omega, ?_, hr', hts, by omega, rfl, ho, rfl⟩
        rw [← List.drop_drop, hd, List.drop_left' rfl]
      · refine ⟨_, rfl, _, rfl, _, _, 35, rfl, rfl, hs, atI_nat hcx, rfl, _, rfl, ?_⟩
        have d32 : decide (V.str (⟨#[35]⟩ : Str) = V.str " ") = decide (35 = 32) := dec1 35 32
        rw [d32]
        refine iteF ⟨_, rfl, _, rfl, _, _, 35, rfl, rfl, hs, atI_nat hcx, rfl, _, rfl, ?_⟩
        have d10 : decide (V.str (⟨#[35]⟩ : Str) = V.str "\n") = decide (35 = 10) := dec1 35 10
        rw [d10]
        refine iteF ⟨_, rfl, _, rfl, _, _, 35, rfl, rfl, hs, atI_nat hcx, rfl, _, rfl, ?_⟩
        have d35 : decide (V.str (⟨#[35]⟩ : Str) = V.str "#") = decide (35 = 35) := dec1 35 35
        rw [d35]
        refine iteT ⟨_, rfl, _, rfl, x, i, 35 :: b, S', rfl, hlen, hi, hd, ?_, hs', rfl, rfl⟩
        intro h10
        rcases List.mem_cons.mp h10 with h | h
        · omega
        · exact hb h
    | @run T S' ts' hT hn hr' =>
      obtain ⟨c, r, rfl⟩ := List.exists_cons_of_ne_nil hT.1
      have hcx := hc0 c (r ++ S') rfl
      have hcr : isRun c = true := hT.2.1 c (List.mem_cons_self ..)
      have n32 : c ≠ 32 := fun h => by rw [h, run_not.1] at hcr; cases hcr
      have n10 : c ≠ 10 := fun h => by rw [h, run_not.2.1] at hcr; cases hcr
      have n35 : c ≠ 35 := fun h => by rw [h, run_not.2.2] at hcr; cases hcr
      rw [List.length_append] at hl
      have hpos : 0 < (c :: r).length := Nat.succ_pos _
      rw [decide_eq_true (by omega)]
      refine iteT ⟨fun σ H' => Ex H H' ∧ H' o = some (.lst (strsV (us ++ [c :: r]))) ∧ ∃ z, σ = [some (.str x), some (.ref o), some (.int ((i + (c :: r).length : Nat) : Int)), z], ?_, ?_⟩
      · rintro σ' H' ⟨e2, ho2, z2, rfl⟩
        refine ⟨x.length - (i + (c :: r).length), by omega, e2, i + (c :: r).length, S', us ++ [c :: r], ts', z2, by omega, ?_, hr', by rw [← hts, List.append_assoc]; rfl, by rw [List.length_append]; simp only [List.length_cons, List.length_nil]; omega, rfl, ho2, rfl⟩
        rw [← List.drop_drop, hd, List.drop_left' rfl]
      · refine ⟨_, rfl, _, rfl, _, _, c, rfl, rfl, hs, atI_nat hcx, rfl, _, rfl, ?_⟩
        have d32 : decide (V.str (⟨#[c]⟩ : Str) = V.str " ") = false := (dec1 c 32).trans (decide_eq_false n32)
        have d10 : decide (V.str (⟨#[c]⟩ : Str) = V.str "\n") = false := (dec1 c 10).trans (decide_eq_false n10)
        have d35 : decide (V.str (⟨#[c]⟩ : Str) = V.str "#") = false := (dec1 c 35).trans (decide_eq_false n35)
        rw [d32]
        refine iteF ⟨_, rfl, _, rfl, _, _, c, rfl, rfl, hs, atI_nat hcx, rfl, _, rfl, ?_⟩
        rw [d10]
        refine iteF ⟨_, rfl, _, rfl, _, _, c, rfl, rfl, hs, atI_nat hcx, rfl, _, rfl, ?_⟩
        rw [d35]
        refine iteF ⟨_, rfl, _, rfl, x, i, c :: r, S', rfl, hlen, hi, hd, .inl ⟨hT, hn⟩, fun H2 e2 => ?_⟩
        have ho2 := e2 _ _ ho
        refine ⟨_, rfl, .inl ⟨rfl, _, SqL.of ho2⟩, _, rfl, o, _, _, rfl, rfl, ho2, ?_, ?_⟩
        · exact sz_lt (by unfold strsV; rw [List.length_map]; omega)
        · refine ⟨_, rfl, _, rfl, _, rfl, ?_, _, _, rfl, rfl, (e1.trans e2).mut no, ?_, some (.str (mk (c :: r))), ?_⟩
          · rw [mk_len]; exact sz_of (by omega)
          · rw [upd_same, strsV_add]
          · rw [mk_len]; rfl
    | @sgn T S' ts' hT hr' =>
      obtain ⟨hne, hnr, n32, n10, n35, h2⟩ := sgn_of hT
      obtain ⟨c, r, rfl⟩ := List.exists_cons_of_ne_nil hne
      have hcx := hc0 c (r ++ S') rfl
      rw [List.length_append] at hl
      have hpos : 0 < (c :: r).length := Nat.succ_pos _
      rw [decide_eq_true (by omega)]
      refine iteT ⟨fun σ H' => Ex H H' ∧ H' o = some (.lst (strsV (us ++ [c :: r]))) ∧ ∃ z, σ = [some (.str x), some (.ref o), some (.int ((i + (c :: r).length : Nat) : Int)), z], ?_, ?_⟩
      · rintro σ' H' ⟨e2, ho2, z2, rfl⟩
        refine ⟨x.length - (i + (c :: r).length), by omega, e2, i + (c :: r).length, S', us ++ [c :: r], ts', z2, by omega, ?_, hr', by rw [← hts, List.append_assoc]; rfl, by rw [List.length_append]; simp only [List.length_cons, List.length_nil]; omega, rfl, ho2, rfl⟩
        rw [← List.drop_drop, hd, List.drop_left' rfl]
      · refine ⟨_, rfl, _, rfl, _, _, c, rfl, rfl, hs, atI_nat hcx, rfl, _, rfl, ?_⟩
        have d32 : decide (V.str (⟨#[c]⟩ : Str) = V.str " ") = false := (dec1 c 32).trans (decide_eq_false n32)
        have d10 : decide (V.str (⟨#[c]⟩ : Str) = V.str "\n") = false := (dec1 c 10).trans (decide_eq_false n10)
        have d35 : decide (V.str (⟨#[c]⟩ : Str) = V.str "#") = false := (dec1 c 35).trans (decide_eq_false n35)
        rw [d32]
        refine iteF ⟨_, rfl, _, rfl, _, _, c, rfl, rfl, hs, atI_nat hcx, rfl, _, rfl, ?_⟩
        rw [d10]
        refine iteF ⟨_, rfl, _, rfl, _, _, c, rfl, rfl, hs, atI_nat hcx, rfl, _, rfl, ?_⟩
        rw [d35]
        refine iteF ⟨_, rfl, _, rfl, x, i, c :: r, S', rfl, hlen, hi, hd, .inr hT, fun H2 e2 => ?_⟩
        have ho2 := e2 _ _ ho
        refine ⟨_, rfl, .inl ⟨rfl, _, SqL.of ho2⟩, _, rfl, o, _, _, rfl, rfl, ho2, ?_, ?_⟩
        · exact sz_lt (by unfold strsV; rw [List.length_map]; omega)
        · refine ⟨_, rfl, _, rfl, _, rfl, ?_, _, _, rfl, rfl, (e1.trans e2).mut no, ?_, some (.str (mk (c :: r))), ?_⟩
          · rw [mk_len]; exact sz_of (by omega)
          · rw [upd_same, strsV_add]
          · rw [mk_len]; rfl
end
end G
namespace G
open PySem PySem.Spec PyProof.Rows L2 Evl TL
/-! ## laid texts -/
/-- P, ahead of any text of ts, is a text of us and then ts; e: P ends with a run -/
def Laid (X : List Nat) (us : List (List Nat)) (e : Bool) : Prop := ∀ S ts, Lx S ts → (e = true → NoRun S) → Lx (X ++ S) (us ++ ts)
def blanks : List Str := [" ", "\n", "  ", " # a = cell 1 ! \n", "\n\n ", "#\n"]
theorem norun_cons {c : Nat} {r : List Nat} (h : isRun c = false) : NoRun (c :: r) := fun d q e => by injection e with e1 _; rw [← e1]; exact h
theorem blank_ok : ∀ b ∈ blanks, ∃ c r, tl b = c :: r ∧ isRun c = false ∧ (tl b).length ≤ 20 := by
  intro b hb
  have h : ∀ b ∈ blanks, tl b ≠ [] ∧ isRun ((tl b).headD 0) = false ∧ (tl b).length ≤ 20 := by decide +kernel
  obtain ⟨h1, h2, h3⟩ := h b hb
  obtain ⟨c, r, e⟩ := List.exists_cons_of_ne_nil h1
  rw [e] at h2
  exact ⟨c, r, e, h2, h3⟩
theorem blank_lx {b : Str} (hb : b ∈ blanks) {S : List Nat} {ts : List (List Nat)} (r : Lx S ts) : Lx (tl b ++ S) ts := by
  have hm : b = " " ∨ b = "\n" ∨ b = "  " ∨ b = " # a = cell 1 ! \n" ∨ b = "\n\n " ∨ b = "#\n" := by
    unfold blanks at hb
    simpa using hb
  rcases hm with rfl | rfl | rfl | rfl | rfl | rfl
  · exact .sp (.inl rfl) r
  · exact .sp (.inr rfl) r
  · exact .sp (.inl rfl) (.sp (.inl rfl) r)
  · exact .sp (.inl rfl) (.com (b := tl (" a = cell 1 ! " : Str)) (S := 10 :: S) (by decide +kernel) (.inr ⟨_, rfl⟩) (.sp (.inr rfl) r))
  · exact .sp (.inr rfl) (.sp (.inr rfl) (.sp (.inl rfl) r))
  · exact .com (b := []) (S := 10 :: S) (by simp) (.inr ⟨_, rfl⟩) (.sp (.inr rfl) r)
/-- a blank: one of the six, or nothing -/
def Blank (B : List Nat) (needed : Bool) : Prop := mk B ∈ blanks ∨ (B = [] ∧ needed = false)
def endsRun (us : List (List Nat)) : Bool := match us.getLast? with
  | some T => isRun (T.headD 0)
  | none => false
def headRun (T : List Nat) : Bool := isRun (T.headD 0)
def TokOk (T : List Nat) : Prop := RunTok T ∨ SgnTok T
theorem tok_ne {T : List Nat} (h : TokOk T) : T ≠ [] := by
  rcases h with h | h
  · exact h.1
  · exact (sgn_of h).1
theorem laid_step {X B T : List Nat} {us : List (List Nat)} {needed : Bool} (h : Laid X us (endsRun us)) (hB : Blank B needed) (hT : TokOk T) (hn : needed = false → ¬ (headRun T = true ∧ endsRun us = true)) : Laid (X ++ B ++ T) (us ++ [T]) (endsRun (us ++ [T])) := by
  have ee : endsRun (us ++ [T]) = headRun T := by unfold endsRun headRun; rw [List.getLast?_append]; rfl
  rw [ee]
  intro S ts hS hne
  have h1 : Lx (T ++ S) (T :: ts) := by
    rcases hT with hr | hs
    · obtain ⟨c, r, rfl⟩ := List.exists_cons_of_ne_nil hr.1
      exact .run hr (hne (hr.2.1 c (List.mem_cons_self ..))) hS
    · exact .sgn hs hS
  have h2 : Lx (B ++ (T ++ S)) (T :: ts) := by
    rcases hB with hb | ⟨hb, _⟩
    · exact blank_lx hb h1
    · rw [hb]; exact h1
  have h3 := h _ _ h2 fun he => by
    rcases hB with hb | ⟨hb, hn'⟩
    · obtain ⟨c, r, e, hc, _⟩ := blank_ok _ hb
      have e' : B = c :: r := e
      rw [e']
      exact norun_cons hc
    · rw [hb]
      obtain ⟨c, r, rfl⟩ := List.exists_cons_of_ne_nil (tok_ne hT)
      refine norun_cons ?_
      cases hc : isRun c with
      | false => rfl
      | true => exact absurd ⟨hc, he⟩ (hn hn')
  have e1 : X ++ B ++ T ++ S = X ++ (B ++ (T ++ S)) := by simp only [List.append_assoc]
  rw [e1, List.append_assoc]
  exact h3
theorem laid_end {X B : List Nat} {us : List (List Nat)} (h : Laid X us (endsRun us)) (hB : Blank B false) : Lx (X ++ B) us := by
  have h0 : Lx B [] := by
    rcases hB with hb | ⟨hb, _⟩
    · have := blank_lx hb Lx.nil
      rw [List.append_nil] at this
      exact this
    · rw [hb]; exact .nil
  have := h B [] h0 fun he => by
    rcases hB with hb | ⟨hb, _⟩
    · obtain ⟨c, r, e, hc, _⟩ := blank_ok _ hb
      have e' : B = c :: r := e
      rw [e']
      exact norun_cons hc
    · rw [hb]; intro c r e; cases e
  rw [List.append_nil] at this
  exact this
/-! ## the drawn tokens -/
theorem kw_facts : ∀ k ∈ kwds, isWord (tl k) = true ∧ isName (tl k) = false ∧ isNum (tl k) = false ∧ (tl k).length ≤ 20 := by decide +kernel
theorem sg_names : ∀ s ∈ sgns, isName (tl s) = false ∧ isNum (tl s) = false := by decide +kernel
theorem kw_more : ∀ k ∈ kwds, k ++ "_" ∉ kwds ∧ isWord (tl (k ++ "_")) = true ∧ isNum (tl (k ++ "_")) = false ∧ (tl (k ++ "_")).length ≤ 20 := by decide +kernel
theorem let_not_dig : ∀ c ∈ tl sLET, c ∉ tl sDIG := by decide +kernel
theorem word_run {T : List Nat} (h : isWord T = true) : RunTok T := by
  cases T with
  | nil => cases h
  | cons c r =>
    have h' : (decide (c ∈ tl sLET) && (c :: r).all isRun) = true := h
    rw [Bool.and_eq_true, List.all_eq_true] at h'
    exact ⟨List.cons_ne_nil _ _, h'.2, .inl h⟩
theorem word_num {T : List Nat} (h : isWord T = true) : isNum T = false := by
  cases T with
  | nil => rfl
  | cons c r =>
    have h' : (decide (c ∈ tl sLET) && (c :: r).all isRun) = true := h
    rw [Bool.and_eq_true] at h'
    have hc := let_not_dig c (of_decide_eq_true h'.1)
    show (_ && (c :: r).all fun d => decide (d ∈ tl sDIG)) = false
    rw [List.all_cons, decide_eq_false hc, Bool.false_and, Bool.and_false]
theorem num_run {T : List Nat} (h : isNum T = true) : RunTok T := by
  cases T with
  | nil => cases h
  | cons c r =>
    have h' : (decide ((c :: r).length ≤ 9) && !(decide (c = 48) && !decide (c :: r = [48])) && (c :: r).all fun d => decide (d ∈ tl sDIG)) = true := h
    rw [Bool.and_eq_true, List.all_eq_true] at h'
    exact ⟨List.cons_ne_nil _ _, fun d hd => dig_run d (of_decide_eq_true (h'.2 d hd)), .inr h⟩
theorem num_name {T : List Nat} (h : isNum T = true) : isName T = false := by
  unfold isName
  cases hw : isWord T with
  | false => rfl
  | true => rw [word_num hw] at h; cases h
theorem dig_mem {d : Nat} (h1 : 48 ≤ d) (h2 : d ≤ 57) : d ∈ tl sDIG := by
  have : ∀ k, k < 10 → 48 + k ∈ tl sDIG := by decide +kernel
  have := this (d - 48) (by omega)
  rwa [show 48 + (d - 48) = d by omega] at this
/-- no number but 0 begins with 0 -/
theorem num_head : ∀ (n : Nat), 0 < n → ∃ c r, numL n = c :: r ∧ c ≠ 48 := by
  intro n
  induction n using Nat.strongRecOn with
  | _ n ih =>
    intro hn
    by_cases h : n < 10
    · exact ⟨48 + n, [], numL_lt h, by omega⟩
    · obtain ⟨c, r, e, hc⟩ := ih (n / 10) (by omega) (by omega)
      exact ⟨c, r ++ [48 + n % 10], by rw [numL_step (by omega), e]; rfl, hc⟩
theorem isNum_num {n : Nat} (h : n < 1000000000) : isNum (numL n) = true := by
  have hl : (numL n).length ≤ 9 := numL_len (by decide) h
  have hd : ∀ d ∈ numL n, d ∈ tl sDIG := fun d hd => by
    have := numL_digits n d hd
    exact dig_mem this.1 this.2
  by_cases h0 : n = 0
  · subst h0; decide +kernel
  · obtain ⟨c, r, e, hc⟩ := num_head n (by omega)
    rw [e] at hl hd ⊢
    show (decide ((c :: r).length ≤ 9) && !(decide (c = 48) && !decide (c :: r = [48])) && (c :: r).all fun d => decide (d ∈ tl sDIG)) = true
    rw [decide_eq_true hl, decide_eq_false hc, List.all_eq_true.mpr fun d hd' => decide_eq_true (hd d hd')]
    rfl
section
variable {P : Program} {w : World} {K : PySem.W.Frag} {mg : Str → Option Value} {base : Heap}
/-- a name -/
def spWord : Sp := fun vs H Q _ => ∃ (p a : Addr), vs = [.ref p] ∧ PoolOk p a H ∧ ∀ (T : List Nat) (H' : Hp), isWord T = true → mk T ∉ kwds → T.length ≤ 20 → Px p a H H' → Q (.str (mk T)) H'
theorem item_of {L : List Nat} {v : Nat} (h : v < L.length) : ∃ c, L[v]? = some c ∧ c ∈ L := ⟨L[v], List.getElem?_eq_getElem h, List.getElem_mem h⟩
theorem sc_law_word : FnScope ["pool", "heads", "rest", "word", "k"] ["pool"] (defScope s_law_word) := ⟨rfl, rfl, rfl, by decide +kernel, rfl, by decide +kernel, by decide +kernel⟩
theorem ok_law_word (D : Dfd K mg "_law_word" s_law_word ["pool"]) (T : TxtS mg) (C : Has P w K mg base 2 "_law_draw" ["pool", "many"] spDrawX) : Has P w K mg base 3 "_law_word" ["pool"] spWord := by
  obtain ⟨f_law_draw, d_law_draw, G_law_draw, g_law_draw, k_law_draw, b_law_draw⟩ := C
  refine D.has fun f fd F => F.ok sc_law_word (fun vs H Q E h => ?_) (fun cdv A outer s H vs Q E hr h => ?_)
  · obtain ⟨_, _, rfl, _⟩ := h
    rfl
  · obtain ⟨p, a, rfl, hp, q⟩ := h
    refine ⟨_, (pss_cons (ps_set (i := 1) sc_law_word.nd rfl (.inl rfl) pe_str)
    (pss_cons (ps_set (i := 2) sc_law_word.nd rfl (.inl rfl) pe_str)
    (pss_cons (ps_set (i := 3) sc_law_word.nd rfl (.inl rfl) (pe_ix ix_str (pv 1) (pe_call G_law_draw (hr.mono (by omega)) (by rfl) g_law_draw k_law_draw b_law_draw .nil pass0 (pa_cons (pv 0) (pa_cons pe_int pa_nil))) (fun _ _ => rfl)))
    (pss_cons (ps_for PassesOwn.never rfl (pi_range1 rfl T.range (pa_cons (pe_ix ix_list (pe_lst (pa_cons pe_int (pa_cons pe_int (pa_cons pe_int (pa_cons pe_int (pa_cons pe_int (pa_cons pe_int (pa_cons pe_int (pa_cons pe_int pa_nil))))))))) (pe_call G_law_draw (hr.mono (by omega)) (by rfl) g_law_draw k_law_draw b_law_draw .nil pass0 (pa_cons (pv 0) (pa_cons pe_int pa_nil))) (fun _ _ => rfl)) pa_nil)) (pg_name (i := 4) sc_law_word.nd rfl (.inl rfl))
      (pss_one (ps_set (i := 3) sc_law_word.nd rfl (.inl rfl) (pe_op op_add_str (pv 3) (pe_ix ix_str (pv 2) (pe_call G_law_draw (hr.mono (by omega)) (by rfl) g_law_draw k_law_draw b_law_draw .nil pass0 (pa_cons (pv 0) (pa_cons pe_int pa_nil))) (fun _ _ => rfl))))))
    (pss_cons (ps_if (pt_cmpR op_in_seq (pv 3) (pe_lst (pa_cons pe_str (pa_cons pe_str (pa_cons pe_str (pa_cons pe_str (pa_cons pe_str (pa_cons pe_str (pa_cons pe_str (pa_cons pe_str (pa_cons pe_str (pa_cons pe_str (pa_cons pe_str pa_nil)))))))))))) (by rfl))
      (pss_one (ps_set (i := 3) sc_law_word.nd rfl (.inl rfl) (pe_op op_add_str (pv 3) pe_str)))
      pss_nil)
    (pss_one (ps_ret (pv 3)))))))), ?_⟩
    have l26 : (tl sLET).length = 26 := by decide +kernel
    have l37 : (tl sRUN).length = 37 := by decide +kernel
    refine ⟨_, rfl, _, rfl, p, a, 26, rfl, by decide, by decide, hp, fun v H1 hv X1 _ => ?_⟩
    obtain ⟨c, hc, hm⟩ := item_of (L := tl sLET) (v := v) (by rw [l26]; omega)
    refine ⟨sLET, _, c, rfl, rfl, by decide, atI_nat hc, ?_⟩
    refine ⟨(by show 8 ≤ sizeLine; decide), fun l nl => ⟨_, rfl, p, a, 8, rfl, by decide, by decide, (X1.new nl).pool, fun v2 H2 hv2 X2 k2 => ?_⟩⟩
    have hl2 : H2 l = some (.lst [.int 0, .int 0, .int 1, .int 1, .int 2, .int 3, .int 5, .int 12]) := by rw [k2 _ (X1.pool.ne nl)]; exact upd_same
    have hit : ∃ n : Nat, ([.int 0, .int 0, .int 1, .int 1, .int 2, .int 3, .int 5, .int 12] : List V)[v2]? = some (.int (n : Int)) ∧ n ≤ 12 := by
      have h8 : v2 < 8 := by omega
      match v2, h8 with
      | 0, _ => exact ⟨0, rfl, by decide⟩
      | 1, _ => exact ⟨0, rfl, by decide⟩
      | 2, _ => exact ⟨1, rfl, by decide⟩
      | 3, _ => exact ⟨1, rfl, by decide⟩
      | 4, _ => exact ⟨2, rfl, by decide⟩
      | 5, _ => exact ⟨3, rfl, by decide⟩
      | 6, _ => exact ⟨5, rfl, by decide⟩
      | 7, _ => exact ⟨12, rfl, by decide⟩
      | n + 8, h => omega
    obtain ⟨n, hn, hn12⟩ := hit
    have X3 := (X1.new nl).trans X2
    refine ⟨_, _, _, _, rfl, rfl, SqL.of hl2, atI_nat hn, _, rfl, by omega, by omega, for_range (n := ((n : Nat) : Int).toNat)
      (fun i σ H' => Px p a H H' ∧ ∃ (W : List Nat) (z : Option V), isWord W = true ∧ W.length = i + 1 ∧ σ = [some (.ref p), some (.str sLET), some (.str sRUN), some (.str (mk W)), z]) ⟨X3, [c], _, ?_, rfl, rfl⟩ ?_ ?_⟩
    · show (decide (c ∈ tl sLET) && [c].all isRun) = true
      rw [decide_eq_true hm, List.all_cons, let_run c hm]; rfl
    · rintro i σ H3 hi ⟨X4, W, z, hW, hWl, rfl⟩
      refine ⟨_, rfl, _, rfl, _, rfl, p, a, 37, rfl, by decide, by decide, X4.pool, fun v3 H4 hv3 X5 _ => ?_⟩
      obtain ⟨d, hd, hdm⟩ := item_of (L := tl sRUN) (v := v3) (by rw [l37]; omega)
      refine ⟨sRUN, _, d, rfl, rfl, by decide, atI_nat hd, _, _, rfl, rfl, ?_, X4.trans X5, W ++ [d], some (.int (0 + (i : Int))), ?_, by rw [List.length_append, hWl]; rfl, ?_⟩
      · rw [mk_len]
        show _ + 1 ≤ sizeLine
        exact sz_of (by omega)
      · cases W with
        | nil => cases hW
        | cons c' r' =>
          have h' : (decide (c' ∈ tl sLET) && (c' :: r').all isRun) = true := hW
          rw [Bool.and_eq_true] at h'
          show (decide (c' ∈ tl sLET) && (c' :: r' ++ [d]).all isRun) = true
          rw [h'.1, List.all_append, h'.2]
          show (true && (true && (isRun d && true))) = true
          rw [show isRun d = true from decide_eq_true hdm]; rfl
      · rw [mk_one, mk_app]; rfl
    · rintro σ H3 ⟨X4, W, z, hW, hWl, rfl⟩
      have hWl' : W.length ≤ 13 := by omega
      refine ⟨_, rfl, (by show 11 ≤ sizeLine; decide), fun l2 nl2 => ⟨l2, kwds.map V.str, rfl, .inl (SqL.of upd_same), rfl, flat_map (fun _ => rfl) _, _, rfl, ?_⟩⟩
      show if (if false = true then !inV (.str (mk W)) (kwds.map V.str) else inV (.str (mk W)) (kwds.map V.str)) = true then _ else _
      rw [if_neg Bool.false_ne_true, inV_strs]
      by_cases hk : mk W ∈ kwds
      · rw [decide_eq_true hk]
        refine iteT ⟨_, rfl, _, _, rfl, rfl, ?_, _, rfl, ?_⟩
        · rw [mk_len]
          show W.length + 1 ≤ sizeLine
          exact sz_of (by omega)
        · obtain ⟨h1, h2, h3, h4⟩ := kw_more _ hk
          have e : mk W ++ ("_" : Str) = mk (W ++ [95]) := mk_app W [95]
          rw [e] at h1 h2 h4
          show Q (.str (mk W ++ ("_" : Str))) _
          rw [e]
          exact q _ _ h2 h1 h4 (X4.new nl2)
      · rw [decide_eq_false hk]
        exact iteF ⟨_, rfl, q _ _ hW hk (by omega) (X4.new nl2)⟩
def spNumeral : Sp := fun vs H Q _ => ∃ (p a : Addr), vs = [.ref p] ∧ PoolOk p a H ∧ ∀ (n : Nat) (H' : Hp), n < 1000000000 → Px p a H H' → Q (.int n) H'
theorem sc_law_numeral : FnScope ["pool", "many", "number"] ["pool"] (defScope s_law_numeral) := ⟨rfl, rfl, rfl, by decide +kernel, rfl, by decide +kernel, by decide +kernel⟩
theorem ok_law_numeral (D : Dfd K mg "_law_numeral" s_law_numeral ["pool"]) (C : Has P w K mg base 2 "_law_draw" ["pool", "many"] spDrawX) : Has P w K mg base 3 "_law_numeral" ["pool"] spNumeral := by
  obtain ⟨f_law_draw, d_law_draw, G_law_draw, g_law_draw, k_law_draw, b_law_draw⟩ := C
  refine D.has fun f fd F => F.ok sc_law_numeral (fun vs H Q E h => ?_) (fun cdv A outer s H vs Q E hr h => ?_)
  · obtain ⟨_, _, rfl, _⟩ := h
    rfl
  · obtain ⟨p, a, rfl, hp, q⟩ := h
    refine ⟨_, (pss_cons (ps_set (i := 1) sc_law_numeral.nd rfl (.inl rfl) (pe_ix ix_list (pe_lst (pa_cons pe_int (pa_cons pe_int (pa_cons pe_int (pa_cons pe_int (pa_cons pe_int (pa_cons pe_int pa_nil))))))) (pe_call G_law_draw (hr.mono (by omega)) (by rfl) g_law_draw k_law_draw b_law_draw .nil pass0 (pa_cons (pv 0) (pa_cons pe_int pa_nil))) (fun _ _ => rfl)))
    (pss_cons (ps_set (i := 2) sc_law_numeral.nd rfl (.inl rfl) (pe_call G_law_draw (hr.mono (by omega)) (by rfl) g_law_draw k_law_draw b_law_draw .nil pass0 (pa_cons (pv 0) (pa_cons (pe_ix ix_list (pe_lst (pa_cons pe_int (pa_cons pe_int (pa_cons pe_int (pa_cons pe_int pa_nil))))) (pe_bm PySem.F.plainAttrs_list PySem.F.slot_list_index PySem.F.type_list_index mt_index (pe_lst (pa_cons pe_int (pa_cons pe_int (pa_cons pe_int (pa_cons pe_int pa_nil))))) (pa_cons (pv 1) pa_nil)) (fun _ _ => rfl)) pa_nil))))
    (pss_one (ps_ret (pv 2))))), ?_⟩
    refine ⟨(by show 6 ≤ sizeLine; decide), fun l nl => ⟨_, rfl, p, a, 6, rfl, by decide, by decide, ((Px.refl hp).new nl).pool, fun v H1 hv X1 k1 => ?_⟩⟩
    have Y1 := ((Px.refl hp).new nl).trans X1
    have hl1 : H1 l = some (.lst [.int 1, .int 1, .int 1, .int 2, .int 3, .int 9]) := by rw [k1 _ (hp.ne nl)]; exact upd_same
    have hit : ∃ (m : Int) (j : Nat) (b : Nat), ([.int 1, .int 1, .int 1, .int 2, .int 3, .int 9] : List V)[v]? = some (.int m) ∧ ([.int 1, .int 2, .int 3, .int 9] : List V)[j]? = some (.int m) ∧
        (∀ (k : Nat) (z' : V), k < j → ([.int 1, .int 2, .int 3, .int 9] : List V)[k]? = some z' → eqV z' (.int m) = false) ∧ ([.int 10, .int 100, .int 1000, .int 1000000000] : List V)[j]? = some (.int (b : Int)) ∧ 0 < b ∧ b ≤ 1000000000 := by
      have n0 : ∀ (m : Int) (k : Nat) (z' : V), k < 0 → ([.int 1, .int 2, .int 3, .int 9] : List V)[k]? = some z' → eqV z' (.int m) = false := fun _ k _ h => by omega
      have h6 : v < 6 := by omega
      match v, h6 with
      | 0, _ => exact ⟨1, 0, 10, rfl, rfl, n0 1, rfl, by decide, by decide⟩
      | 1, _ => exact ⟨1, 0, 10, rfl, rfl, n0 1, rfl, by decide, by decide⟩
      | 2, _ => exact ⟨1, 0, 10, rfl, rfl, n0 1, rfl, by decide, by decide⟩
      | 3, _ =>
        refine ⟨2, 1, 100, rfl, rfl, fun k z' hk e => ?_, rfl, by decide, by decide⟩
        have : k = 0 := by omega
        subst this
        cases e; rfl
      | 4, _ =>
        refine ⟨3, 2, 1000, rfl, rfl, fun k z' hk e => ?_, rfl, by decide, by decide⟩
        match k, hk, e with
        | 0, _, e => cases e; rfl
        | 1, _, e => cases e; rfl
      | 5, _ =>
        refine ⟨9, 3, 1000000000, rfl, rfl, fun k z' hk e => ?_, rfl, by decide, by decide⟩
        match k, hk, e with
        | 0, _, e => cases e; rfl
        | 1, _, e => cases e; rfl
        | 2, _, e => cases e; rfl
      | n + 6, h => omega
    obtain ⟨m, j, b, h1, h2, h3, h4, h5, h6⟩ := hit
    refine ⟨_, _, _, _, rfl, rfl, SqL.of hl1, atI_nat h1, ?_⟩
    refine ⟨_, rfl, (by show 4 ≤ sizeLine; decide), fun l2 nl2 => ⟨(by show 4 ≤ sizeLine; decide), fun l3 nl3 => ⟨.inl ⟨rfl, _, SqL.of upd_same⟩, _, rfl, l3, _, _, j, _, rfl, rfl, SqL.of upd_same, rfl, rfl, h2, beq_self_eq_true m, h3, ?_⟩⟩⟩
    have Y2 := (Y1.new (o := .lst [.int 10, .int 100, .int 1000, .int 1000000000]) nl2).new (o := .lst [.int 1, .int 2, .int 3, .int 9]) nl3
    refine ⟨_, _, _, _, rfl, rfl, SqL.of ((upd_ne (ne_of_none upd_same nl3)).trans upd_same), atI_nat h4, p, a, b, rfl, by omega, by omega, Y2.pool, fun v2 H2 hv2 X2 _ => ?_⟩
    exact ⟨_, rfl, q v2 H2 (by omega) (Y2.trans X2)⟩
def spBlank : Sp := fun vs H Q _ => ∃ (p a : Addr) (b : Bool), vs = [.ref p, .bl b] ∧ PoolOk p a H ∧ ∀ (B : List Nat) (H' : Hp), Blank B b → B.length ≤ 20 → Px p a H H' → Q (.str (mk B)) H'
theorem sc_law_blank : FnScope ["pool", "needed", "text"] ["pool", "needed"] (defScope s_law_blank) := ⟨rfl, rfl, rfl, by decide +kernel, rfl, by decide +kernel, by decide +kernel⟩
theorem ok_law_blank (D : Dfd K mg "_law_blank" s_law_blank ["pool", "needed"]) (C : Has P w K mg base 2 "_law_draw" ["pool", "many"] spDrawX) : Has P w K mg base 3 "_law_blank" ["pool", "needed"] spBlank := by
  obtain ⟨f_law_draw, d_law_draw, G_law_draw, g_law_draw, k_law_draw, b_law_draw⟩ := C
  refine D.has fun f fd F => F.ok sc_law_blank (fun vs H Q E h => ?_) (fun cdv A outer s H vs Q E hr h => ?_)
  · obtain ⟨_, _, _, rfl, _⟩ := h
    rfl
  · obtain ⟨p, a, b, rfl, hp, q⟩ := h
    refine ⟨_, (pss_cons (ps_set (i := 2) sc_law_blank.nd rfl (.inl rfl) (pe_ix ix_list (pe_lst (pa_cons pe_str (pa_cons pe_str (pa_cons pe_str (pa_cons pe_str (pa_cons pe_str (pa_cons pe_str pa_nil))))))) (pe_call G_law_draw (hr.mono (by omega)) (by rfl) g_law_draw k_law_draw b_law_draw .nil pass0 (pa_cons (pv 0) (pa_cons pe_int pa_nil))) (fun _ _ => rfl)))
    (pss_cut (ps_if (PW.pt (pw_and (pt_not (pt_val (pv 1))) (pw_and1 (pt_cmpR op_eq (pe_call G_law_draw (hr.mono (by omega)) (by rfl) g_law_draw k_law_draw b_law_draw .nil pass0 (pa_cons (pv 0) (pa_cons pe_int pa_nil))) pe_int (nomark _)))))
      (pss_one (ps_ret pe_str))
      pss_nil)
    (pss_one (ps_ret (pv 2))))), ?_⟩
    refine ⟨(by show 6 ≤ sizeLine; decide), fun l nl => ⟨_, rfl, p, a, 6, rfl, by decide, by decide, ((Px.refl hp).new nl).pool, fun v H1 hv X1 k1 => ?_⟩⟩
    have Y1 := ((Px.refl hp).new nl).trans X1
    have hl1 : H1 l = some (.lst (blanks.map V.str)) := by rw [k1 _ (hp.ne nl)]; exact upd_same
    have hv' : v < blanks.length := by show v < 6; omega
    obtain ⟨c, r, e, hc, hlen⟩ := blank_ok _ (List.getElem_mem hv')
    have hit : (blanks.map V.str)[v]? = some (.str (mk (tl blanks[v]))) := by rw [List.getElem?_map, List.getElem?_eq_getElem hv', mk_tlS]; rfl
    have hB : Blank (tl blanks[v]) b := .inl (by rw [mk_tlS]; exact List.getElem_mem hv')
    refine ⟨_, _, _, _, rfl, rfl, SqL.of hl1, atI_nat hit, ?_⟩
    generalize tl blanks[v] = B at hB hlen
    refine ⟨fun σ H' => Px p a H H' ∧ σ = [some (.ref p), some (.bl b), some (.str (mk B))], ?_, ?_⟩
    · refine ⟨_, rfl, _, rfl, ?_⟩
      cases b with
      | true => exact iteF (iteF ⟨Y1, rfl⟩)
      | false =>
        refine iteT ⟨_, rfl, p, a, 3, rfl, by decide, by decide, Y1.pool, fun v2 H2 hv2 X2 _ => ⟨rfl, _, rfl, ite2 (fun _ => ?_) (fun _ => ⟨Y1.trans X2, rfl⟩)⟩⟩
        exact q [] H2 (.inr ⟨rfl, rfl⟩) (by decide) (Y1.trans X2)
    · rintro σ H2 ⟨X2, rfl⟩
      exact ⟨_, rfl, q B H2 hB hlen X2⟩
def spLaid : Sp := fun vs H Q _ => ∃ (p a l : Addr) (us : List (List Nat)), vs = [.ref p, .ref l] ∧ PoolOk p a H ∧ hid p H l = some (.lst (strsV us)) ∧ us.length ≤ 100 ∧ (∀ T ∈ us, TokOk T ∧ T.length ≤ 20) ∧ ∀ (x : Str) (H' : Hp), Lx (tl x) us → x.length ≤ 50000 → Px p a H H' → Q (.str x) H'
theorem strs_at {us : List (List Nat)} {i : Nat} (h : i < us.length) : (strsV us)[i]? = some (.str (mk us[i])) := by unfold strsV; rw [List.getElem?_map, List.getElem?_eq_getElem h]; rfl
theorem take_snoc {us : List (List Nat)} {i : Nat} (h : i < us.length) : us.take (i + 1) = us.take i ++ [us[i]] := by rw [List.take_add_one, List.getElem?_eq_getElem h]; rfl
theorem endsRun_take {us : List (List Nat)} {i : Nat} (h : i ≤ us.length) (h0 : 0 < i) : endsRun (us.take i) = headRun (us[i - 1]'(by omega)) := by
  obtain ⟨j, rfl⟩ : ∃ j, i = j + 1 := ⟨i - 1, by omega⟩
  rw [take_snoc (by omega)]
  unfold endsRun headRun
  rw [List.getLast?_append]
  rfl
theorem sc_law_laid : FnScope ["pool", "tokens", "text", "runs", "k", "needed"] ["pool", "tokens"] (defScope s_law_laid) := ⟨rfl, rfl, rfl, by decide +kernel, rfl, by decide +kernel, by decide +kernel⟩
theorem ok_law_laid (D : Dfd K mg "_law_laid" s_law_laid ["pool", "tokens"]) (T : TxtS mg) (C : Has P w K mg base 3 "_law_blank" ["pool", "needed"] spBlank) : Has P w K mg base 4 "_law_laid" ["pool", "tokens"] spLaid := by
  obtain ⟨f_law_blank, d_law_blank, G_law_blank, g_law_blank, k_law_blank, b_law_blank⟩ := C
  refine D.has fun f fd F => F.ok sc_law_laid (fun vs H Q E h => ?_) (fun cdv A outer s H vs Q E hr h => ?_)
  · obtain ⟨_, _, _, _, rfl, _⟩ := h
    rfl
  · obtain ⟨p, a, l, us, rfl, hp, hl, hn, hok, q⟩ := h
    have hul : (strsV us).length = us.length := by unfold strsV; exact List.length_map ..
    refine ⟨_, (pss_cons (ps_set (i := 2) sc_law_laid.nd rfl (.inl rfl) (pe_call G_law_blank (hr.mono (by omega)) (by rfl) g_law_blank k_law_blank b_law_blank .nil pass0 (pa_cons (pv 0) (pa_cons pe_bl pa_nil))))
    (pss_cons (ps_set (i := 3) sc_law_laid.nd rfl (.inl rfl) pe_str)
    (pss_cons (ps_for PassesOwn.never rfl (pi_range1 rfl T.range (pa_cons (pe_callB call_len_seq (by rfl) T.len (by decide +kernel) (pa_cons (pv 1) pa_nil)) pa_nil)) (pg_name (i := 4) sc_law_laid.nd rfl (.inl rfl))
      (pss_cut (ps_set (i := 5) sc_law_laid.nd rfl (.inl rfl) (pe_and (pe_cmpR op_gt (pv 4) pe_int (nomark _)) (pe_and (pe_cmpR op_in_sign (pe_ix ix_str (pe_ix ix_list (pv 1) (pv 4) (fun _ _ => rfl)) pe_int (fun _ _ => rfl)) (pv 3) rfl) (pe_one (pe_cmpR op_in_sign (pe_ix ix_str (pe_ix ix_list (pv 1) (pe_op op_sub (pv 4) pe_int) (fun _ _ => rfl)) pe_int (fun _ _ => rfl)) (pv 3) rfl)))))
      (pss_one (ps_set (i := 2) sc_law_laid.nd rfl (.inl rfl) (pe_op op_add_str (pe_op op_add_str (pv 2) (pe_call G_law_blank (hr.mono (by omega)) (by rfl) g_law_blank k_law_blank b_law_blank .nil pass0 (pa_cons (pv 0) (pa_cons (pv 5) pa_nil)))) (pe_ix ix_list (pv 1) (pv 4) (fun _ _ => rfl)))))))
    (pss_one (ps_ret (pe_op op_add_str (pv 2) (pe_call G_law_blank (hr.mono (by omega)) (by rfl) g_law_blank k_law_blank b_law_blank .nil pass0 (pa_cons (pv 0) (pa_cons pe_bl pa_nil))))))))), ?_⟩
    refine ⟨_, rfl, p, a, false, rfl, hp, fun B0 H1 hB0 hb0 X1 => ?_⟩
    refine ⟨_, rfl, _, _, rfl, .inl (SqL.of (X1.at_ hl)), _, rfl, by omega, by omega, for_range (n := (((strsV us).length : Nat) : Int).toNat)
      (fun i σ H' => Px p a H H' ∧ ∃ (X : List Nat) (y z : Option V), Laid X (us.take i) (endsRun (us.take i)) ∧ X.length ≤ 20 + 40 * i ∧ σ = [some (.ref p), some (.ref l), some (.str (mk X)), some (.str sRUN), y, z]) ⟨X1, B0, _, _, ?_, by omega, rfl⟩ ?_ ?_⟩
    · rw [List.take_zero]
      intro S ts hS _
      rcases hB0 with hb | ⟨hb, _⟩
      · exact blank_lx hb hS
      · rw [hb]; exact hS
    · rintro i σ H2 hi ⟨X2, X, y, z, hX, hXl, rfl⟩
      have hi' : i < us.length := by omega
      obtain ⟨hT, hTl⟩ := hok us[i] (List.getElem_mem hi')
      obtain ⟨c, r, ec⟩ := List.exists_cons_of_ne_nil (tok_ne hT)
      have e0 : (0 : Int) + (i : Int) = (i : Int) := Int.zero_add _
      rw [e0]
      have hl2 := X2.at_ hl
      have ix : tl (mk us[i]) = c :: r := ec
      have dT : decide (c ∈ tl sRUN) = headRun us[i] := by unfold headRun; rw [ec]; rfl
      have hlen1 : (mk us[i]).length ≤ sizeLine := by rw [mk_len]; exact sz_of (by omega)
      refine ⟨fun σ H' => H' = H2 ∧ ∃ nb : Bool, (nb = false → ¬ (headRun us[i] = true ∧ endsRun (us.take i) = true)) ∧ σ = [some (.ref p), some (.ref l), some (.str (mk X)), some (.str sRUN), some (.int (i : Int)), some (.bl nb)], ?_, ?_⟩
      · refine ⟨_, rfl, _, _, rfl, rfl, _, rfl, ite2 (fun e1 => ?_) (fun e1 => ?_)⟩
        · have h0 : 0 < i := by have := of_decide_eq_true e1; omega
          have hi2 : i - 1 < us.length := by omega
          obtain ⟨hT', hTl'⟩ := hok us[i - 1] (List.getElem_mem hi2)
          obtain ⟨c', r', ec'⟩ := List.exists_cons_of_ne_nil (tok_ne hT')
          have ix' : tl (mk us[i - 1]) = c' :: r' := ec'
          have dT' : decide (c' ∈ tl sRUN) = endsRun (us.take i) := by rw [endsRun_take (by omega) h0]; unfold headRun; rw [ec']; rfl
          have e1' : (i : Int) - 1 = ((i - 1 : Nat) : Int) := by omega
          refine ⟨_, rfl, _, rfl, _, _, _, _, rfl, rfl, SqL.of hl2, atI_nat (strs_at hi'), mk us[i], _, c, rfl, rfl, hlen1, atI_nat (j := 0) (congrArg (fun l => l[0]?) ix), _, rfl, c, sRUN, rfl, rfl, _, rfl, ?_⟩
          rw [dT]
          cases hh : headRun us[i] with
          | false => exact iteF ⟨rfl, false, fun _ z => Bool.false_ne_true z.1, rfl⟩
          | true =>
            refine iteT ⟨_, rfl, _, rfl, _, _, rfl, rfl, _, _, _, _, rfl, rfl, SqL.of hl2, at_of e1' (strs_at hi2), mk us[i - 1], _, c', rfl, rfl, by rw [mk_len]; exact sz_of (by omega), atI_nat (j := 0) (congrArg (fun l => l[0]?) ix'), _, rfl, c', sRUN, rfl, rfl, ?_⟩
            rw [dT']
            exact ⟨rfl, _, fun hn z => by rw [hn] at z; exact Bool.false_ne_true z.2, rfl⟩
        · have h0 : i = 0 := by
            have : ¬ (0 : Int) < (i : Int) := fun z => e1 (decide_eq_true z)
            omega
          subst h0
          exact ⟨rfl, false, fun _ z => by rw [List.take_zero] at z; exact absurd z.2 (by decide), rfl⟩
      · rintro σ H3 ⟨rfl, nb, hnb, rfl⟩
        refine ⟨_, rfl, _, rfl, _, rfl, p, a, nb, rfl, X2.pool, fun B H4 hB hb X3 => ⟨_, _, rfl, rfl, ?_, _, rfl, _, rfl, _, _, _, _, rfl, rfl, SqL.of (X3.at_ (X2.get hl)), atI_nat (strs_at hi'), _, _, rfl, rfl, ?_, X2.trans X3, X ++ B ++ us[i], some (.int (i : Int)), some (.bl nb), ?_, ?_, ?_⟩⟩
        · rw [mk_len, mk_len]; exact sz_of (by omega)
        · rw [mk_app, mk_len, mk_len, List.length_append]; exact sz_of (by omega)
        · rw [take_snoc hi']
          exact laid_step hX hB hT hnb
        · rw [List.length_append, List.length_append]; omega
        · rw [mk_app, mk_app]; rfl
    · rintro σ H2 ⟨X2, X, y, z, hX, hXl, rfl⟩
      rw [hul, Int.toNat_natCast, List.take_length] at hX
      refine ⟨_, rfl, _, rfl, p, a, false, rfl, X2.pool, fun B H3 hB hb X3 => ⟨_, _, rfl, rfl, ?_, ?_⟩⟩
      · rw [mk_len, mk_len]; exact sz_of (by omega)
      · rw [mk_app]
        exact q _ H3 (laid_end hX hB) (by rw [mk_len, List.length_append]; omega) (X2.trans X3)
/-- a drawn token with what is told of it -/
def spToken : Sp := fun vs H Q _ => ∃ (p a : Addr), vs = [.ref p] ∧ PoolOk p a H ∧ ∀ (r : Addr) (T : List Nat) (b1 b2 : Bool) (H' : Hp), TokOk T → T.length ≤ 20 → isName T = b1 → isNum T = b2 → Px p a H H' → H r = none → H' r = some (.lst [.str (mk T), .bl b1, .bl b2]) → Q (.ref r) H'
theorem sc_law_token : FnScope ["pool", "kind", "keywords", "signs"] ["pool"] (defScope s_law_token) := ⟨rfl, rfl, rfl, by decide +kernel, rfl, by decide +kernel, by decide +kernel⟩
theorem ok_law_token (D : Dfd K mg "_law_token" s_law_token ["pool"]) (T : TxtS mg) (C : Has P w K mg base 2 "_law_draw" ["pool", "many"] spDrawX) (C2 : Has P w K mg base 3 "_law_word" ["pool"] spWord) (C3 : Has P w K mg base 3 "_law_numeral" ["pool"] spNumeral) : Has P w K mg base 4 "_law_token" ["pool"] spToken := by
  obtain ⟨f_law_draw, d_law_draw, G_law_draw, g_law_draw, k_law_draw, b_law_draw⟩ := C
  obtain ⟨f_law_word, d_law_word, G_law_word, g_law_word, k_law_word, b_law_word⟩ := C2
  obtain ⟨f_law_numeral, d_law_numeral, G_law_numeral, g_law_numeral, k_law_numeral, b_law_numeral⟩ := C3
  refine D.has fun f fd F => F.ok sc_law_token (fun vs H Q E h => ?_) (fun cdv A outer s H vs Q E hr h => ?_)
  · obtain ⟨_, _, rfl, _⟩ := h
    rfl
  · obtain ⟨p, a, rfl, hp, q⟩ := h
    refine ⟨_, (pss_cons (ps_set (i := 1) sc_law_token.nd rfl (.inl rfl) (pe_call G_law_draw (hr.mono (by omega)) (by rfl) g_law_draw k_law_draw b_law_draw .nil pass0 (pa_cons (pv 0) (pa_cons pe_int pa_nil))))
    (pss_cons (ps_if (pt_cmpR op_eq (pv 1) pe_int (nomark _))
      (pss_cons (ps_set (i := 2) sc_law_token.nd rfl (.inl rfl) (pe_lst (pa_cons pe_str (pa_cons pe_str (pa_cons pe_str (pa_cons pe_str (pa_cons pe_str (pa_cons pe_str (pa_cons pe_str (pa_cons pe_str (pa_cons pe_str (pa_cons pe_str (pa_cons pe_str pa_nil)))))))))))))
      (pss_one (ps_ret (pe_lst (pa_cons (pe_ix ix_list (pv 2) (pe_call G_law_draw (hr.mono (by omega)) (by rfl) g_law_draw k_law_draw b_law_draw .nil pass0 (pa_cons (pv 0) (pa_cons pe_int pa_nil))) (fun _ _ => rfl)) (pa_cons pe_bl (pa_cons pe_bl pa_nil)))))))
      pss_nil)
    (pss_cons (ps_if (pt_cmpR op_eq (pv 1) pe_int (nomark _))
      (pss_one (ps_ret (pe_lst (pa_cons (pe_callTy call_str_int (by rfl) T.str (by decide +kernel) (pa_cons (pe_call G_law_numeral (hr.mono (by omega)) (by rfl) g_law_numeral k_law_numeral b_law_numeral .nil pass0 (pa_cons (pv 0) pa_nil)) pa_nil)) (pa_cons pe_bl (pa_cons pe_bl pa_nil))))))
      pss_nil)
    (pss_cons (ps_if (pt_cmpR op_eq (pv 1) pe_int (nomark _))
      (pss_one (ps_ret (pe_lst (pa_cons (pe_call G_law_word (hr.mono (by omega)) (by rfl) g_law_word k_law_word b_law_word .nil pass0 (pa_cons (pv 0) pa_nil)) (pa_cons pe_bl (pa_cons pe_bl pa_nil))))))
      pss_nil)
    (pss_cons (ps_set (i := 3) sc_law_token.nd rfl (.inl rfl) (pe_lst (pa_cons pe_str (pa_cons pe_str (pa_cons pe_str (pa_cons pe_str (pa_cons pe_str (pa_cons pe_str (pa_cons pe_str (pa_cons pe_str (pa_cons pe_str (pa_cons pe_str (pa_cons pe_str (pa_cons pe_str (pa_cons pe_str (pa_cons pe_str pa_nil))))))))))))))))
    (pss_one (ps_ret (pe_lst (pa_cons (pe_ix ix_list (pv 3) (pe_call G_law_draw (hr.mono (by omega)) (by rfl) g_law_draw k_law_draw b_law_draw .nil pass0 (pa_cons (pv 0) (pa_cons pe_int pa_nil))) (fun _ _ => rfl)) (pa_cons pe_bl (pa_cons pe_bl pa_nil))))))))))), ?_⟩
    refine ⟨_, rfl, p, a, 5, rfl, by decide, by decide, hp, fun kind H1 hk X1 _ => ?_⟩
    refine ⟨_, rfl, rfl, _, rfl, ite2 (fun e => ?_) (fun e => ?_)⟩
    · -- a keyword
      refine ⟨(by show 11 ≤ sizeLine; decide), fun l nl => ⟨_, rfl, _, rfl, p, a, 11, rfl, by decide, by decide, (X1.new nl).pool, fun v H2 hv X2 k2 => ?_⟩⟩
      have Y2 := (X1.new nl).trans X2
      have hl2 : H2 l = some (.lst (kwds.map V.str)) := by rw [k2 _ (X1.pool.ne nl)]; exact upd_same
      have hv' : v < kwds.length := by show v < 11; omega
      obtain ⟨h1, h2, h3, h4⟩ := kw_facts _ (List.getElem_mem hv')
      have hit : (kwds.map V.str)[v]? = some (.str (mk (tl kwds[v]))) := by rw [List.getElem?_map, List.getElem?_eq_getElem hv', mk_tlS]; rfl
      refine ⟨_, _, _, _, rfl, rfl, SqL.of hl2, atI_nat hit, (by show 3 ≤ sizeLine; decide), fun r nr => ?_⟩
      exact q r _ false false _ (.inl (word_run h1)) h4 h2 h3 (Y2.new nr) (Y2.free nr) upd_same
    · refine ⟨_, rfl, rfl, _, rfl, ite2 (fun e1 => ?_) (fun e1 => ?_)⟩
      · -- a numeral
        refine ⟨_, rfl, p, a, rfl, X1.pool, fun n H2 hn X2 => ⟨(n : Int), rfl, ?_, (by show 3 ≤ sizeLine; decide), fun r nr => ?_⟩⟩
        · have : (n : Int).natAbs < 2 ^ 30 := by rw [Int.natAbs_natCast]; omega
          have := PySem.Flt.log2_lt_of (by decide : 0 < 30) this
          omega
        · have Y2 := X1.trans X2
          have et : (toString (n : Int) : String) = toString ((n : Nat) : Int) := rfl
          have em : (Str.ofString (toString ((n : Nat) : Int))) = mk (numL n) := ext_tl (tl_num n)
          have hN := isNum_num hn
          refine q r (numL n) false true _ (.inl (num_run hN)) ?_ (num_name hN) hN (Y2.new nr) (Y2.free nr) (upd_same.trans ?_)
          · have := numL_len (n := n) (k := 9) (by decide) hn
            omega
          · rw [← em]
      · refine ⟨_, rfl, rfl, _, rfl, ite2 (fun e2 => ?_) (fun e2 => ?_)⟩
        · -- a word
          refine ⟨_, rfl, p, a, rfl, X1.pool, fun W H2 hW hk hWl X2 => ⟨(by show 3 ≤ sizeLine; decide), fun r nr => ?_⟩⟩
          have Y2 := X1.trans X2
          have hnm : isName W = true := by unfold isName; rw [hW, decide_eq_false hk]; rfl
          exact q r W true false _ (.inl (word_run hW)) hWl hnm (word_num hW) (Y2.new nr) (Y2.free nr) upd_same
        · -- a sign
          refine ⟨(by show 14 ≤ sizeLine; decide), fun l nl => ⟨_, rfl, _, rfl, p, a, 14, rfl, by decide, by decide, (X1.new nl).pool, fun v H2 hv X2 k2 => ?_⟩⟩
          have Y2 := (X1.new nl).trans X2
          have hl2 : H2 l = some (.lst (sgns.map V.str)) := by rw [k2 _ (X1.pool.ne nl)]; exact upd_same
          have hv' : v < sgns.length := by show v < 14; omega
          obtain ⟨h1, h2⟩ := sg_names _ (List.getElem_mem hv')
          have hm : SgnTok (tl sgns[v]) := by unfold SgnTok; rw [mk_tlS]; exact List.getElem_mem hv'
          have hit : (sgns.map V.str)[v]? = some (.str (mk (tl sgns[v]))) := by rw [List.getElem?_map, List.getElem?_eq_getElem hv', mk_tlS]; rfl
          refine ⟨_, _, _, _, rfl, rfl, SqL.of hl2, atI_nat hit, (by show 3 ≤ sizeLine; decide), fun r nr => ?_⟩
          have h6 := (sgn_of hm).2.2.2.2.2
          exact q r _ false false _ (.inr hm) (by omega) h1 h2 (Y2.new nr) (Y2.free nr) upd_same
theorem rep_strs {H : Hp} {x : Addr} {us : List (List Nat)} (h : H x = some (.lst (strsV us))) : Rep H (.ref x) (.lst (us.map fun T => G.D.str (mk T))) :=
  let r := rep_map (H := H) (f := fun T => V.str (mk T)) (g := fun T => G.D.str (mk T)) (l := us) fun _ => .str _
  .lst h r.1 r.2
theorem okD_strs {us : List (List Nat)} (h : us.length ≤ 1000) : okD 1 (.lst (us.map fun T => G.D.str (mk T))) := ⟨by rw [List.length_map]; omega, fun d hd => by obtain ⟨_, _, rfl⟩ := List.mem_map.mp hd; trivial⟩
def spLaw (K : PySem.W.Frag) : Sp := fun vs H Q _ => ∃ (a : Addr) (ns : List Int), vs = [.ref a] ∧ SqL K H a (ns.map V.int) ∧ ns.length ≤ 63 ∧ ∀ H', Q (.bl true) H'
/-- the rows that were drawn -/
def Rows (p : Addr) (H : Hp) (as : List Addr) (us : List (List Nat)) : Prop := as.length = us.length ∧ ∀ (i : Nat) (b : Addr) (T : List Nat), as[i]? = some b → us[i]? = some T → hid p H b = some (.lst [.str (mk T), .bl (isName T), .bl (isNum T)]) ∧ TokOk T ∧ T.length ≤ 20
theorem Rows.ex {p : Addr} {H H' : Hp} {as : List Addr} {us : List (List Nat)} (r : Rows p H as us) (e : Ex (hid p H) (hid p H')) : Rows p H' as us := ⟨r.1, fun i b T h1 h2 => ⟨e _ _ (r.2 i b T h1 h2).1, (r.2 i b T h1 h2).2⟩⟩
theorem lx_end : Lx (tl ("# cell\n \n#" : Str)) [] := .com (b := tl (" cell" : Str)) (S := [10, 32, 10, 35]) (by decide +kernel) (.inr ⟨_, rfl⟩) (.sp (.inr rfl) (.sp (.inl rfl) (.sp (.inr rfl) (.com (b := []) (S := []) (by simp) (.inl rfl) .nil))))
theorem sc_law : FnScope ["script", "pool", "turn", "drawn", "row", "tokens", "k"] ["script"] (defScope s_law) := ⟨rfl, rfl, rfl, by decide +kernel, rfl, by decide +kernel, by decide +kernel⟩
theorem fn_law {f : Addr} {fd : FuncData} (F : Fun K "law" "law" s_law f fd) (T : TxtS mg) (C1 : Has P w K mg base 1 "_law_pool" ["script"] (spPool K)) (C2 : Has P w K mg base 2 "_law_draw" ["pool", "many"] spDrawX) (C3 : Has P w K mg base 4 "_law_token" ["pool"] spToken)
    (C4 : Has P w K mg base 4 "_law_laid" ["pool", "tokens"] spLaid) (C5 : Has P w K mg base 3 "tokenize" ["text"] spTokenize) (C6 : Has P w K mg base 2 "is_name" ["token"] spIsName) (C8 : Has P w K mg base 1 "is_numeral" ["token"] spIsNum) (C7 : Has P w K mg base 2 "_law_same" ["actual", "due"] (spSame 2)) :
    FnOk P w K mg base CX0 5 f fd ["script"] (spLaw K) := by
  obtain ⟨f_law_pool, d_law_pool, G_law_pool, g_law_pool, k_law_pool, b_law_pool⟩ := C1
  obtain ⟨f_law_draw, d_law_draw, G_law_draw, g_law_draw, k_law_draw, b_law_draw⟩ := C2
  obtain ⟨f_law_token, d_law_token, G_law_token, g_law_token, k_law_token, b_law_token⟩ := C3
  obtain ⟨f_law_laid, d_law_laid, G_law_laid, g_law_laid, k_law_laid, b_law_laid⟩ := C4
  obtain ⟨f_tokenize, d_tokenize, G_tokenize, g_tokenize, k_tokenize, b_tokenize⟩ := C5
  obtain ⟨f_is_name, d_is_name, G_is_name, g_is_name, k_is_name, b_is_name⟩ := C6
  obtain ⟨f_is_numeral, d_is_numeral, G_is_numeral, g_is_numeral, k_is_numeral, b_is_numeral⟩ := C8
  obtain ⟨f_law_same, d_law_same, G_law_same, g_law_same, k_law_same, b_law_same⟩ := C7
  refine F.ok sc_law (fun vs H Q E h => ?_) (fun cdv A outer s H vs Q E hr h => ?_)
  · obtain ⟨a, ns, rfl, _⟩ := h
    rfl
  · obtain ⟨sa, ns, rfl, hs, hn, q⟩ := h
    refine ⟨_, (pss_cons (ps_set (i := 1) sc_law.nd rfl (.inr rfl) (pe_call G_law_pool (hr.mono (by omega)) (by rfl) g_law_pool k_law_pool b_law_pool .nil pass0 (pa_cons (pv 0) pa_nil)))
    (pss_cons (ps_for PassesOwn.never rfl (pi_range1 rfl T.range (pa_cons pe_int pa_nil)) (pg_name (i := 2) sc_law.nd rfl (.inl rfl))
      (pss_cons (ps_setLc (i := 3) (own := [("k", 6)]) (g := gName 6) (tt := tYes) rfl sc_law.nd rfl rfl (sw_true rfl rfl rfl (by decide +kernel)) (pi_range1 rfl T.range (pa_cons (pe_call G_law_draw (hr.mono (by omega)) (by rfl) g_law_draw k_law_draw b_law_draw .nil pass0 (pa_cons (pv 1) (pa_cons pe_int pa_nil))) pa_nil)) (blkOk_by (N := ["script", "pool", "turn", "drawn", "row", "tokens", "k"]) (sc := defScope s_law) (own := [("k", 6)]) (by decide +kernel)) (fun _ _ _ _ _ => (pg_name (i := 6) sc_law.nd rfl (.inl rfl))) (fun _ _ _ _ _ => pts_nil) (fun _ _ _ _ _ => (pe_call G_law_token (hr.mono (by omega)) (by rfl) g_law_token k_law_token b_law_token .nil pass0 (pa_cons (pv 1) pa_nil))))
      (pss_cons (ps_setLc (i := 5) (own := [("row", 4)]) (g := gName 4) (tt := tYes) rfl sc_law.nd rfl rfl (sw_true rfl rfl rfl (by decide +kernel)) (pi_list (pv 3)) (blkOk_by (N := ["script", "pool", "turn", "drawn", "row", "tokens", "k"]) (sc := defScope s_law) (own := [("row", 4)]) (by decide +kernel)) (fun _ _ _ _ _ => (pg_name (i := 4) sc_law.nd rfl (.inl rfl))) (fun _ _ _ _ _ => pts_nil) (fun _ _ _ _ _ => (pe_ix (kIxL (K := K) rfl) (pv 4) pe_int (fun _ _ => rfl))))
      (pss_cons (ps_if (pt_not (pt_val (pe_call G_law_same (hr.mono (by omega)) (by rfl) g_law_same k_law_same b_law_same .nil pass0 (pa_cons (pe_call G_tokenize (hr.mono (by omega)) (by rfl) g_tokenize k_tokenize b_tokenize .nil pass0 (pa_cons (pe_call G_law_laid (hr.mono (by omega)) (by rfl) g_law_laid k_law_laid b_law_laid .nil pass0 (pa_cons (pv 1) (pa_cons (pv 5) pa_nil))) pa_nil)) (pa_cons (pv 5) pa_nil)))))
        (pss_one (ps_ret pe_bl))
        pss_nil)
      (pss_one (ps_for PassesOwn.never rfl (pi_list (pv 3)) (pg_name (i := 4) sc_law.nd rfl (.inl rfl))
        (pss_one (ps_if (PW.pt (pw_or (pt_not (pt_val (pe_call G_law_same (hr.mono (by omega)) (by rfl) g_law_same k_law_same b_law_same .nil pass0 (pa_cons (pe_call G_is_name (hr.mono (by omega)) (by rfl) g_is_name k_is_name b_is_name .nil pass0 (pa_cons (pe_ix ix_list (pv 4) pe_int (fun _ _ => rfl)) pa_nil)) (pa_cons (pe_ix ix_list (pv 4) pe_int (fun _ _ => rfl)) pa_nil))))) (pw_or1 (pt_not (pt_val (pe_call G_law_same (hr.mono (by omega)) (by rfl) g_law_same k_law_same b_law_same .nil pass0 (pa_cons (pe_call G_is_numeral (hr.mono (by omega)) (by rfl) g_is_numeral k_is_numeral b_is_numeral .nil pass0 (pa_cons (pe_ix ix_list (pv 4) pe_int (fun _ _ => rfl)) pa_nil)) (pa_cons (pe_ix ix_list (pv 4) pe_int (fun _ _ => rfl)) pa_nil))))))))
          (pss_one (ps_ret pe_bl))
          pss_nil))))))))
    (pss_one (ps_ret (pe_and (pe_call G_law_same (hr.mono (by omega)) (by rfl) g_law_same k_law_same b_law_same .nil pass0 (pa_cons (pe_call G_tokenize (hr.mono (by omega)) (by rfl) g_tokenize k_tokenize b_tokenize .nil pass0 (pa_cons pe_str pa_nil)) (pa_cons (pe_lst pa_nil) pa_nil))) (pe_one (pe_call G_law_same (hr.mono (by omega)) (by rfl) g_law_same k_law_same b_law_same .nil pass0 (pa_cons (pe_call G_tokenize (hr.mono (by omega)) (by rfl) g_tokenize k_tokenize b_tokenize .nil pass0 (pa_cons pe_str pa_nil)) (pa_cons (pe_lst pa_nil) pa_nil))))))))), ?_⟩
    refine ⟨_, rfl, sa, ns, rfl, hs, by omega, fun p a H0 hp _ _ => ⟨3, rfl, by decide, by decide, for_range (n := 3)
      (fun _ σ H' => Px p a H0 H' ∧ ∃ (x2 x3 x4 x5 x6 : Option V), σ = [some (.ref sa), some (.ref p), x2, x3, x4, x5, x6]) ⟨Px.refl hp, _, _, _, _, _, rfl⟩ ?_ ?_⟩⟩
    · rintro i σ H1 _ ⟨X1, x2, x3, x4, x5, x6, rfl⟩
      refine ⟨_, rfl, p, a, 26, rfl, by decide, by decide, X1.pool, fun m H2 hm X2 _ => ⟨m, rfl, by omega, by omega, fun L nL => lc_range (lo := 0) (n := ((m : Nat) : Int).toNat)
        (fun i H' => Px p a H2 H' ∧ ∃ (as : List Addr) (us : List (List Nat)), as.length = i ∧ H' L = some (.lst (as.map V.ref)) ∧ Rows p H' as us) ⟨(Px.refl X2.pool).new nL, [], [], rfl, upd_same, rfl, fun i b T h => by cases h⟩ ?_ ?_⟩⟩
      · rintro k H3 hk ⟨X3, as, us, hal, hL, hR⟩
        refine ⟨rfl, tYes_in ?_⟩
        refine ⟨_, rfl, p, a, rfl, X3.pool, fun r T b1 b2 H4 hT hTl h1 h2 X4 nr hr4 => ?_⟩
        have hL4 : H4 L = some (.lst (as.map V.ref)) := X4.at_ (X3.seen nL hL)
        have nrL : r ≠ L := fun z => by rw [z, hL] at nr; cases nr
        refine ⟨_, hL4, sz_lt (by rw [List.length_map]; omega), (X3.trans X4).mut nL, as ++ [r], us ++ [T], by rw [List.length_append, hal]; rfl, by rw [upd_same, List.map_append]; rfl, ?_⟩
        have nLp : L ≠ p := X2.pool.ne nL
        refine ⟨by rw [List.length_append, List.length_append, hR.1]; rfl, fun j b U hb hU => ?_⟩
        have go : ∀ c o, c ≠ L → hid p H4 c = some o → hid p (upd H4 L (.lst (as.map V.ref ++ [V.ref r]))) c = some o := fun c o hc ho => by
          rw [hid_upd_ne nLp, upd_ne hc]; exact ho
        by_cases hj : j < as.length
        · rw [List.getElem?_append_left hj] at hb
          rw [List.getElem?_append_left (by rw [← hR.1]; exact hj)] at hU
          obtain ⟨g1, g2⟩ := hR.2 j b U hb hU
          refine ⟨go b _ ?_ (X4.get g1), g2⟩
          intro z
          subst z
          have := hid_get g1
          rw [hL] at this
          have e := HO.lst.inj (Option.some.inj this)
          have hl3 := congrArg List.length e
          have hh := congrArg List.head? e
          rw [List.length_map] at hl3
          cases as with
          | nil => simp at hj
          | cons a0 ar => simp at hh
        · have hj' : j = as.length := by
            have := (List.getElem?_eq_some_iff.mp hb).1
            rw [List.length_append] at this
            simp only [List.length_cons, List.length_nil] at this
            omega
          subst hj'
          rw [List.getElem?_append_right (Nat.le_refl _), Nat.sub_self] at hb
          rw [hR.1, List.getElem?_append_right (Nat.le_refl _), Nat.sub_self] at hU
          have eb : r = b := Option.some.inj hb
          have eU : T = U := Option.some.inj hU
          subst eb eU
          refine ⟨go r _ nrL ?_, hT, hTl⟩
          rw [h1, h2]
          exact X4.seen nr hr4
      · rintro H3 ⟨X3, as, us, hal, hL, hR⟩
        have hLh := X3.seen nL hL
        have Y3 := (X1.trans X2).trans X3
        have hul : us.length ≤ 26 := by rw [← hR.1, hal]; omega
        refine ⟨_, rfl, L, rfl, ⟨_, SqL.of hL⟩, fun L2 nL2 => lc_list (xs := as.map V.ref) (fun i H' => H' = upd H3 L2 (.lst (strsV (us.take i)))) rfl (fun i H' _ e => by rw [e]; exact ex_l (Ex.new nL2) (SqL.of hL)) ?_ ?_⟩
        · rintro j x H4 hx rfl
          rw [List.getElem?_map] at hx
          cases hb : as[j]? with
          | none => rw [hb] at hx; cases hx
          | some b =>
            rw [hb] at hx
            have ex : V.ref b = x := Option.some.inj hx
            subst ex
            have hj : j < us.length := by rw [← hR.1]; exact (List.getElem?_eq_some_iff.mp hb).1
            obtain ⟨g1, _⟩ := hR.2 j b us[j] hb (List.getElem?_eq_getElem hj)
            have g3 : upd H3 L2 (.lst (strsV (us.take j))) b = some (.lst [.str (mk us[j]), .bl (isName us[j]), .bl (isNum us[j])]) := Ex.new nL2 _ _ (hid_get g1)
            refine ⟨rfl, tYes_in ⟨_, rfl, _, _, _, _, rfl, rfl, SqL.of g3, atI_nat (j := 0) rfl, _, upd_same, sz_lt ?_, ?_⟩⟩
            · unfold strsV; rw [List.length_map, List.length_take]; omega
            · rw [upd_upd, take_snoc hj, strsV_add]
        · rintro H4 rfl
          rw [List.length_map, hR.1, List.take_length]
          have X4 := (Px.refl X3.pool).new (o := .lst (strsV us)) nL2
          have h2 : hid p (upd H3 L2 (.lst (strsV us))) L2 = some (.lst (strsV us)) := X4.seen nL2 upd_same
          have hL4 := X4.get hLh
          have hR4 := hR.ex X4.ex
          generalize upd H3 L2 (.lst (strsV us)) = H4 at *
          have htok : ∀ T ∈ us, TokOk T ∧ T.length ≤ 20 := fun T hT => by
            obtain ⟨k, hk, e⟩ := List.getElem_of_mem hT
            have hk' : k < as.length := by rw [hR.1]; exact hk
            have hb : as[k]? = some as[k] := List.getElem?_eq_getElem hk'
            have := hR.2 k _ T hb (List.getElem?_eq_some_iff.mpr ⟨hk, e⟩)
            exact this.2
          refine ⟨_, rfl, _, rfl, p, a, L2, us, rfl, X4.pool, h2, by omega, htok, fun x H5 hx hxl X5 => ⟨x, us, rfl, hxl, hx, fun r H6 nr E6 hr6 => ?_⟩⟩
          have X6 := X5.more E6
          refine ⟨_, rfl, _, _, .lst (us.map fun T => G.D.str (mk T)), rfl, rep_strs hr6, rep_strs (X6.at_ h2), okD_strs (by omega), _, rfl, ?_⟩
          have Y6 := (Y3.trans X4).trans X6
          refine iteF ⟨_, rfl, L, rfl, ⟨_, SqL.of (X6.at_ hL4)⟩, for_list (K := K) (a := L) (xs := as.map V.ref)
            (fun _ σ H' => Px p a H6 H' ∧ ∃ (z4 : Option V), σ = [some (.ref sa), some (.ref p), some (.int (0 + (i : Int))), some (.ref L), z4, some (.ref L2), x6]) ⟨Px.refl X6.pool, _, rfl⟩ (fun j σ H' _ g => SqL.of (g.1.at_ (X6.get hL4))) ?_ ?_⟩
          · rintro j x σ H7 hx7 ⟨X7, z4, rfl⟩
            rw [List.getElem?_map] at hx7
            cases hb : as[j]? with
            | none => rw [hb] at hx7; cases hx7
            | some b =>
              rw [hb] at hx7
              have ex : V.ref b = x := Option.some.inj hx7
              subst ex
              have hj : j < us.length := by rw [← hR.1]; exact (List.getElem?_eq_some_iff.mp hb).1
              obtain ⟨g1, hT, hTl⟩ := hR4.2 j b us[j] hb (List.getElem?_eq_getElem hj)
              have g7 := X7.get (X6.get g1)
              refine ⟨_, rfl, _, _, _, _, rfl, rfl, SqL.of (hid_get g7), atI_nat (j := 0) rfl, us[j], rfl, tok_ne hT, by omega, fun H8 E8 => ?_⟩
              have X8 := X7.more E8
              refine ⟨_, rfl, _, _, _, _, rfl, rfl, SqL.of (X8.at_ (X6.get g1)), atI_nat (j := 1) rfl, _, _, .bl (isName us[j]), rfl, .bl _, .bl _, trivial, _, rfl, ?_⟩
              refine iteF ⟨_, rfl, _, _, _, _, rfl, rfl, SqL.of (X8.at_ (X6.get g1)), atI_nat (j := 0) rfl, us[j], rfl, tok_ne hT, by omega, fun H9 E9 => ?_⟩
              have X9 := X8.more E9
              refine ⟨_, rfl, _, _, _, _, rfl, rfl, SqL.of (X9.at_ (X6.get g1)), atI_nat (j := 2) rfl, _, _, .bl (isNum us[j]), rfl, .bl _, .bl _, trivial, _, rfl, ?_⟩
              exact iteF ⟨X9, _, rfl⟩
          · rintro σ H7 ⟨X7, z4, rfl⟩
            exact ⟨Y6.trans X7, _, _, _, _, _, rfl⟩
    · rintro σ H1 ⟨X1, x2, x3, x4, x5, x6, rfl⟩
      refine ⟨mk [], [], rfl, by decide, .nil, fun r H2 nr E2 hr2 => ⟨Nat.zero_le _, fun l nl => ?_⟩⟩
      refine ⟨_, _, .lst (([] : List (List Nat)).map fun T => G.D.str (mk T)), rfl, rep_strs (Ex.new nl _ _ hr2), rep_strs upd_same, okD_strs (by decide), _, rfl, ?_⟩
      refine iteT ⟨"# cell\n \n#", [], rfl, by decide, lx_end, fun r2 H3 nr2 E3 hr3 => ⟨Nat.zero_le _, fun l2 nl2 => ?_⟩⟩
      refine ⟨_, _, .lst (([] : List (List Nat)).map fun T => G.D.str (mk T)), rfl, rep_strs (Ex.new nl2 _ _ hr3), rep_strs upd_same, okD_strs (by decide), ?_⟩
      exact q _
end
end G
namespace G
open PySem PySem.Spec PyProof.Rows L2
/-- the defs and the built-in names as the top has left them -/
structure All (K : PySem.W.Frag) (mg : Str → Option Value) : Prop where
  d_tokenize : Dfd K mg "tokenize" s_tokenize ["text"]
  d_is_name : Dfd K mg "is_name" s_is_name ["token"]
  d_is_numeral : Dfd K mg "is_numeral" s_is_numeral ["token"]
  d_is_word : Dfd K mg "is_word" s_is_word ["token"]
  d_token_at : Dfd K mg "_token_at" s_token_at ["text", "at"]
  d_run_end : Dfd K mg "_run_end" s_run_end ["text", "at"]
  d_line_end : Dfd K mg "_line_end" s_line_end ["text", "at"]
  d_law_pool : Dfd K mg "_law_pool" s_law_pool ["script"]
  d_law_spread : Dfd K mg "_law_spread" s_law_spread ["cell"]
  d_law_draw : Dfd K mg "_law_draw" s_law_draw ["pool", "many"]
  d_law_same : Dfd K mg "_law_same" s_law_same ["actual", "due"]
  d_law_word : Dfd K mg "_law_word" s_law_word ["pool"]
  d_law_numeral : Dfd K mg "_law_numeral" s_law_numeral ["pool"]
  d_law_blank : Dfd K mg "_law_blank" s_law_blank ["pool", "needed"]
  d_law_laid : Dfd K mg "_law_laid" s_law_laid ["pool", "tokens"]
  d_law_token : Dfd K mg "_law_token" s_law_token ["pool"]
  z_super : mg "super" = none
  z_len : mg "len" = none
  z_all : mg "all" = none
  z_int : mg "int" = none
  z_list : mg "list" = none
  z_range : mg "range" = none
  z_isinstance : mg "isinstance" = none
  z_tuple : mg "tuple" = none
  z_bool : mg "bool" = none
  z_str : mg "str" = none
  z_ValueError : mg "ValueError" = none
  c_KEYWORDS : ∃ a, mg "KEYWORDS" = some (.ref a) ∧ ∀ H, SqT K H a [.str "cell", .str "pin", .str "module", .str "gate", .str "part", .str "reg", .str "edge", .str "out", .str "setup", .str "hold", .str "start"]
  c_SIGNS : ∃ a, mg "SIGNS" = some (.ref a) ∧ ∀ H, SqT K H a [.str "(", .str ")", .str "{", .str "}", .str ",", .str ";", .str ":", .str "=", .str "->", .str "..", .str "&", .str "|", .str "^", .str "!"]
  c_LETTERS : ∃ t, mg "LETTERS" = some (.str "abcdefghijklmnopqrstuvwxyz" t)
  c_DIGITS : ∃ t, mg "DIGITS" = some (.str "0123456789" t)
  c_RUN_CHARACTERS : ∃ t, mg "RUN_CHARACTERS" = some (.str "abcdefghijklmnopqrstuvwxyz0123456789_" t)
  c_MOST_DIGITS : ∃ t, mg "MOST_DIGITS" = some (.int 9 t)
end G
namespace G
open PySem PySem.Spec PyProof.Rows L2
theorem glue {P : Program} {w : World} {K : PySem.W.Frag} {mg : Str → Option Value} {base : Heap} (A : All K mg) {f : Addr} {fd : FuncData} (F : Fun K "law" "law" s_law f fd) : FnOk P w K mg base CX0 5 f fd ["script"] (spLaw K) := by
  have TL : TxtL mg := ⟨A.z_int, A.z_len, A.z_list, A.z_range⟩
  have TS : TxtS mg := ⟨A.z_isinstance, A.z_tuple, A.z_list, A.z_len, A.z_range, A.z_bool, A.z_int, A.z_str⟩
  have TK : TxtK K mg := ⟨A.z_len, A.z_all, A.c_LETTERS, A.c_DIGITS, A.c_RUN_CHARACTERS, A.c_MOST_DIGITS, A.c_KEYWORDS, A.c_SIGNS⟩
  have hd := drawX (P := P) (w := w) (base := base) (ok_law_draw A.d_law_draw TL (ok_law_spread A.d_law_spread TL))
  have hw := ok_is_word (P := P) (w := w) (base := base) A.d_is_word TK
  have hn := ok_is_numeral (P := P) (w := w) (base := base) A.d_is_numeral TK
  exact fn_law F TS (ok_law_pool A.d_law_pool TL) hd
    (ok_law_token A.d_law_token TS hd (ok_law_word A.d_law_word TS hd) (ok_law_numeral A.d_law_numeral hd))
    (ok_law_laid A.d_law_laid TS (ok_law_blank A.d_law_blank hd))
    (ok_tokenize A.d_tokenize TK (ok_line_end A.d_line_end TK) (ok_token_at A.d_token_at TK (ok_run_end A.d_run_end TK) hw hn))
    (ok_is_name A.d_is_name TK hw) hn (ok_law_same A.d_law_same TS 2)
end G
namespace G
open PySem PySem.Spec PyProof.Rows L2
theorem all_mk {l : PySem.W.OpenLaw} {w : World} {K : PySem.W.Frag} {h : Heap} {mg : Str → Option Value} {fa f0 f1 f2 f3 f4 f5 f6 f7 f8 f9 f10 f11 f12 f13 f14 f15 f16 : Addr} (X : K.In h) (G : h.Ns mainGlobals mg) (hfa : mg "law" = some (.ref fa))
    {od0 an0 od1 an1 od2 an2 od3 an3 od4 an4 od5 an5 od6 an6 od7 an7 od8 an8 od9 an9 od10 an10 od11 an11 od12 an12 od13 an13 od14 an14 od15 an15 od16 an16 : Option Addr} {sl0 sl1 sl2 sl3 sl4 sl5 sl6 sl7 sl8 sl9 sl10 sl11 sl12 sl13 sl14 sl15 sl16 : Array (Option Value)} {oc0 kv0 dc0 pm0 cd0 ct0 oc1 kv1 dc1 pm1 cd1 ct1 oc2 kv2 dc2 pm2 cd2 ct2 oc3 kv3 dc3 pm3 cd3 ct3 oc4 kv4 dc4 pm4 cd4 ct4 oc5 kv5 dc5 pm5 cd5 ct5 oc6 kv6 dc6 pm6 cd6 ct6 oc7 kv7 dc7 pm7 cd7 ct7 oc8 kv8 dc8 pm8 cd8 ct8 oc9 kv9 dc9 pm9 cd9 ct9 oc10 kv10 dc10 pm10 cd10 ct10 oc11 kv11 dc11 pm11 cd11 ct11 oc12 kv12 dc12 pm12 cd12 ct12 oc13 kv13 dc13 pm13 cd13 ct13 oc14 kv14 dc14 pm14 cd14 ct14 oc15 kv15 dc15 pm15 cd15 ct15 oc16 kv16 dc16 pm16 cd16 ct16 : Value}
    (a0 : PySem.W.nsIn K mainGlobals "tokenize" = some (some (.ref f0))) (l0 : K.lookup f0 = some ⟨oc0, od0, .func (PySem.W.fnOf "tokenize" "tokenize" (defArgs s_tokenize) (defBody s_tokenize) (defScope s_tokenize) .none kv0 dc0 pm0 an0 cd0 ct0), sl0⟩) (c0 : PySem.W.codeIn K cd0 "tokenize" = true) (k0 : PySem.W.keepIn K (.ref f0) = true)
    (a1 : PySem.W.nsIn K mainGlobals "is_name" = some (some (.ref f1))) (l1 : K.lookup f1 = some ⟨oc1, od1, .func (PySem.W.fnOf "is_name" "is_name" (defArgs s_is_name) (defBody s_is_name) (defScope s_is_name) .none kv1 dc1 pm1 an1 cd1 ct1), sl1⟩) (c1 : PySem.W.codeIn K cd1 "is_name" = true) (k1 : PySem.W.keepIn K (.ref f1) = true)
    (a2 : PySem.W.nsIn K mainGlobals "is_numeral" = some (some (.ref f2))) (l2 : K.lookup f2 = some ⟨oc2, od2, .func (PySem.W.fnOf "is_numeral" "is_numeral" (defArgs s_is_numeral) (defBody s_is_numeral) (defScope s_is_numeral) .none kv2 dc2 pm2 an2 cd2 ct2), sl2⟩) (c2 : PySem.W.codeIn K cd2 "is_numeral" = true) (k2 : PySem.W.keepIn K (.ref f2) = true)
    (a3 : PySem.W.nsIn K mainGlobals "is_word" = some (some (.ref f3))) (l3 : K.lookup f3 = some ⟨oc3, od3, .func (PySem.W.fnOf "is_word" "is_word" (defArgs s_is_word) (defBody s_is_word) (defScope s_is_word) .none kv3 dc3 pm3 an3 cd3 ct3), sl3⟩) (c3 : PySem.W.codeIn K cd3 "is_word" = true) (k3 : PySem.W.keepIn K (.ref f3) = true)
    (a4 : PySem.W.nsIn K mainGlobals "_token_at" = some (some (.ref f4))) (l4 : K.lookup f4 = some ⟨oc4, od4, .func (PySem.W.fnOf "_token_at" "_token_at" (defArgs s_token_at) (defBody s_token_at) (defScope s_token_at) .none kv4 dc4 pm4 an4 cd4 ct4), sl4⟩) (c4 : PySem.W.codeIn K cd4 "_token_at" = true) (k4 : PySem.W.keepIn K (.ref f4) = true)
    (a5 : PySem.W.nsIn K mainGlobals "_run_end" = some (some (.ref f5))) (l5 : K.lookup f5 = some ⟨oc5, od5, .func (PySem.W.fnOf "_run_end" "_run_end" (defArgs s_run_end) (defBody s_run_end) (defScope s_run_end) .none kv5 dc5 pm5 an5 cd5 ct5), sl5⟩) (c5 : PySem.W.codeIn K cd5 "_run_end" = true) (k5 : PySem.W.keepIn K (.ref f5) = true)
    (a6 : PySem.W.nsIn K mainGlobals "_line_end" = some (some (.ref f6))) (l6 : K.lookup f6 = some ⟨oc6, od6, .func (PySem.W.fnOf "_line_end" "_line_end" (defArgs s_line_end) (defBody s_line_end) (defScope s_line_end) .none kv6 dc6 pm6 an6 cd6 ct6), sl6⟩) (c6 : PySem.W.codeIn K cd6 "_line_end" = true) (k6 : PySem.W.keepIn K (.ref f6) = true)
    (a7 : PySem.W.nsIn K mainGlobals "_law_pool" = some (some (.ref f7))) (l7 : K.lookup f7 = some ⟨oc7, od7, .func (PySem.W.fnOf "_law_pool" "_law_pool" (defArgs s_law_pool) (defBody s_law_pool) (defScope s_law_pool) .none kv7 dc7 pm7 an7 cd7 ct7), sl7⟩) (c7 : PySem.W.codeIn K cd7 "_law_pool" = true) (k7 : PySem.W.keepIn K (.ref f7) = true)
    (a8 : PySem.W.nsIn K mainGlobals "_law_spread" = some (some (.ref f8))) (l8 : K.lookup f8 = some ⟨oc8, od8, .func (PySem.W.fnOf "_law_spread" "_law_spread" (defArgs s_law_spread) (defBody s_law_spread) (defScope s_law_spread) .none kv8 dc8 pm8 an8 cd8 ct8), sl8⟩) (c8 : PySem.W.codeIn K cd8 "_law_spread" = true) (k8 : PySem.W.keepIn K (.ref f8) = true)
    (a9 : PySem.W.nsIn K mainGlobals "_law_draw" = some (some (.ref f9))) (l9 : K.lookup f9 = some ⟨oc9, od9, .func (PySem.W.fnOf "_law_draw" "_law_draw" (defArgs s_law_draw) (defBody s_law_draw) (defScope s_law_draw) .none kv9 dc9 pm9 an9 cd9 ct9), sl9⟩) (c9 : PySem.W.codeIn K cd9 "_law_draw" = true) (k9 : PySem.W.keepIn K (.ref f9) = true)
    (a10 : PySem.W.nsIn K mainGlobals "_law_same" = some (some (.ref f10))) (l10 : K.lookup f10 = some ⟨oc10, od10, .func (PySem.W.fnOf "_law_same" "_law_same" (defArgs s_law_same) (defBody s_law_same) (defScope s_law_same) .none kv10 dc10 pm10 an10 cd10 ct10), sl10⟩) (c10 : PySem.W.codeIn K cd10 "_law_same" = true) (k10 : PySem.W.keepIn K (.ref f10) = true)
    (a11 : PySem.W.nsIn K mainGlobals "_law_word" = some (some (.ref f11))) (l11 : K.lookup f11 = some ⟨oc11, od11, .func (PySem.W.fnOf "_law_word" "_law_word" (defArgs s_law_word) (defBody s_law_word) (defScope s_law_word) .none kv11 dc11 pm11 an11 cd11 ct11), sl11⟩) (c11 : PySem.W.codeIn K cd11 "_law_word" = true) (k11 : PySem.W.keepIn K (.ref f11) = true)
    (a12 : PySem.W.nsIn K mainGlobals "_law_numeral" = some (some (.ref f12))) (l12 : K.lookup f12 = some ⟨oc12, od12, .func (PySem.W.fnOf "_law_numeral" "_law_numeral" (defArgs s_law_numeral) (defBody s_law_numeral) (defScope s_law_numeral) .none kv12 dc12 pm12 an12 cd12 ct12), sl12⟩) (c12 : PySem.W.codeIn K cd12 "_law_numeral" = true) (k12 : PySem.W.keepIn K (.ref f12) = true)
    (a13 : PySem.W.nsIn K mainGlobals "_law_blank" = some (some (.ref f13))) (l13 : K.lookup f13 = some ⟨oc13, od13, .func (PySem.W.fnOf "_law_blank" "_law_blank" (defArgs s_law_blank) (defBody s_law_blank) (defScope s_law_blank) .none kv13 dc13 pm13 an13 cd13 ct13), sl13⟩) (c13 : PySem.W.codeIn K cd13 "_law_blank" = true) (k13 : PySem.W.keepIn K (.ref f13) = true)
    (a14 : PySem.W.nsIn K mainGlobals "_law_laid" = some (some (.ref f14))) (l14 : K.lookup f14 = some ⟨oc14, od14, .func (PySem.W.fnOf "_law_laid" "_law_laid" (defArgs s_law_laid) (defBody s_law_laid) (defScope s_law_laid) .none kv14 dc14 pm14 an14 cd14 ct14), sl14⟩) (c14 : PySem.W.codeIn K cd14 "_law_laid" = true) (k14 : PySem.W.keepIn K (.ref f14) = true)
    (a15 : PySem.W.nsIn K mainGlobals "_law_token" = some (some (.ref f15))) (l15 : K.lookup f15 = some ⟨oc15, od15, .func (PySem.W.fnOf "_law_token" "_law_token" (defArgs s_law_token) (defBody s_law_token) (defScope s_law_token) .none kv15 dc15 pm15 an15 cd15 ct15), sl15⟩) (c15 : PySem.W.codeIn K cd15 "_law_token" = true) (k15 : PySem.W.keepIn K (.ref f15) = true)
    (a16 : PySem.W.nsIn K mainGlobals "law" = some (some (.ref f16))) (l16 : K.lookup f16 = some ⟨oc16, od16, .func (PySem.W.fnOf "law" "law" (defArgs s_law) (defBody s_law) (defScope s_law) .none kv16 dc16 pm16 an16 cd16 ct16), sl16⟩) (c16 : PySem.W.codeIn K cd16 "law" = true) (k16 : PySem.W.keepIn K (.ref f16) = true)
    {ca0 : Addr} {cdd0 : Option Addr} {cn0 : Nat} {csl0 : Array (Option Value)} {ct0_0 ct0_1 ct0_2 ct0_3 ct0_4 ct0_5 ct0_6 ct0_7 ct0_8 ct0_9 ct0_10 : Tok} (g0 : PySem.W.nsIn K mainGlobals "KEYWORDS" = some (some (.ref ca0))) (h0 : K.lookup ca0 = some ⟨.type "tuple", cdd0, .seq #[.str "cell" ct0_0, .str "pin" ct0_1, .str "module" ct0_2, .str "gate" ct0_3, .str "part" ct0_4, .str "reg" ct0_5, .str "edge" ct0_6, .str "out" ct0_7, .str "setup" ct0_8, .str "hold" ct0_9, .str "start" ct0_10] cn0, csl0⟩)
    {ca1 : Addr} {cdd1 : Option Addr} {cn1 : Nat} {csl1 : Array (Option Value)} {ct1_0 ct1_1 ct1_2 ct1_3 ct1_4 ct1_5 ct1_6 ct1_7 ct1_8 ct1_9 ct1_10 ct1_11 ct1_12 ct1_13 : Tok} (g1 : PySem.W.nsIn K mainGlobals "SIGNS" = some (some (.ref ca1))) (h1 : K.lookup ca1 = some ⟨.type "tuple", cdd1, .seq #[.str "(" ct1_0, .str ")" ct1_1, .str "{" ct1_2, .str "}" ct1_3, .str "," ct1_4, .str ";" ct1_5, .str ":" ct1_6, .str "=" ct1_7, .str "->" ct1_8, .str ".." ct1_9, .str "&" ct1_10, .str "|" ct1_11, .str "^" ct1_12, .str "!" ct1_13] cn1, csl1⟩)
    {ct2 : Tok} (g2 : PySem.W.nsIn K mainGlobals "LETTERS" = some (some (.str "abcdefghijklmnopqrstuvwxyz" ct2)))
    {ct3 : Tok} (g3 : PySem.W.nsIn K mainGlobals "DIGITS" = some (some (.str "0123456789" ct3)))
    {ct4 : Tok} (g4 : PySem.W.nsIn K mainGlobals "RUN_CHARACTERS" = some (some (.str "abcdefghijklmnopqrstuvwxyz0123456789_" ct4)))
    {ct5 : Tok} (g5 : PySem.W.nsIn K mainGlobals "MOST_DIGITS" = some (some (.int 9 ct5)))
    (z0 : PySem.W.nsIn K mainGlobals "super" = some none) (z1 : PySem.W.nsIn K mainGlobals "len" = some none) (z2 : PySem.W.nsIn K mainGlobals "all" = some none) (z3 : PySem.W.nsIn K mainGlobals "int" = some none) (z4 : PySem.W.nsIn K mainGlobals "list" = some none) (z5 : PySem.W.nsIn K mainGlobals "range" = some none) (z6 : PySem.W.nsIn K mainGlobals "isinstance" = some none) (z7 : PySem.W.nsIn K mainGlobals "tuple" = some none) (z8 : PySem.W.nsIn K mainGlobals "bool" = some none) (z9 : PySem.W.nsIn K mainGlobals "str" = some none) (z10 : PySem.W.nsIn K mainGlobals "ValueError" = some none) :
    ∃ fd : FuncData, (∀ (s : Shared) (v : Value), BindsTo s fd ⟨[v], []⟩ [("script", v)]) ∧ ∀ base : Heap, K.In base → base.Ns mainGlobals mg → FnOk l.prog w K mg base CX0 5 fa fd ["script"] (spLaw K) := by
  have e := hfa.symm.trans (PySem.W.mg_of X G a16)
  cases e
  have F0 := fun_mk (st := s_tokenize) l0 c0 k0
  have F1 := fun_mk (st := s_is_name) l1 c1 k1
  have F2 := fun_mk (st := s_is_numeral) l2 c2 k2
  have F3 := fun_mk (st := s_is_word) l3 c3 k3
  have F4 := fun_mk (st := s_token_at) l4 c4 k4
  have F5 := fun_mk (st := s_run_end) l5 c5 k5
  have F6 := fun_mk (st := s_line_end) l6 c6 k6
  have F7 := fun_mk (st := s_law_pool) l7 c7 k7
  have F8 := fun_mk (st := s_law_spread) l8 c8 k8
  have F9 := fun_mk (st := s_law_draw) l9 c9 k9
  have F10 := fun_mk (st := s_law_same) l10 c10 k10
  have F11 := fun_mk (st := s_law_word) l11 c11 k11
  have F12 := fun_mk (st := s_law_numeral) l12 c12 k12
  have F13 := fun_mk (st := s_law_blank) l13 c13 k13
  have F14 := fun_mk (st := s_law_laid) l14 c14 k14
  have F15 := fun_mk (st := s_law_token) l15 c15 k15
  have F16 := fun_mk (st := s_law) l16 c16 k16
  have A : All K mg := ⟨⟨f0, _, F0, PySem.W.mg_of X G a0, F0.binds (ps := ["text"]) fun _ _ _ _ _ _ us hl => match us, hl with | [_], _ => rfl⟩,
    ⟨f1, _, F1, PySem.W.mg_of X G a1, F1.binds (ps := ["token"]) fun _ _ _ _ _ _ us hl => match us, hl with | [_], _ => rfl⟩,
    ⟨f2, _, F2, PySem.W.mg_of X G a2, F2.binds (ps := ["token"]) fun _ _ _ _ _ _ us hl => match us, hl with | [_], _ => rfl⟩,
    ⟨f3, _, F3, PySem.W.mg_of X G a3, F3.binds (ps := ["token"]) fun _ _ _ _ _ _ us hl => match us, hl with | [_], _ => rfl⟩,
    ⟨f4, _, F4, PySem.W.mg_of X G a4, F4.binds (ps := ["text", "at"]) fun _ _ _ _ _ _ us hl => match us, hl with | [_, _], _ => rfl⟩,
    ⟨f5, _, F5, PySem.W.mg_of X G a5, F5.binds (ps := ["text", "at"]) fun _ _ _ _ _ _ us hl => match us, hl with | [_, _], _ => rfl⟩,
    ⟨f6, _, F6, PySem.W.mg_of X G a6, F6.binds (ps := ["text", "at"]) fun _ _ _ _ _ _ us hl => match us, hl with | [_, _], _ => rfl⟩,
    ⟨f7, _, F7, PySem.W.mg_of X G a7, F7.binds (ps := ["script"]) fun _ _ _ _ _ _ us hl => match us, hl with | [_], _ => rfl⟩,
    ⟨f8, _, F8, PySem.W.mg_of X G a8, F8.binds (ps := ["cell"]) fun _ _ _ _ _ _ us hl => match us, hl with | [_], _ => rfl⟩,
    ⟨f9, _, F9, PySem.W.mg_of X G a9, F9.binds (ps := ["pool", "many"]) fun _ _ _ _ _ _ us hl => match us, hl with | [_, _], _ => rfl⟩,
    ⟨f10, _, F10, PySem.W.mg_of X G a10, F10.binds (ps := ["actual", "due"]) fun _ _ _ _ _ _ us hl => match us, hl with | [_, _], _ => rfl⟩,
    ⟨f11, _, F11, PySem.W.mg_of X G a11, F11.binds (ps := ["pool"]) fun _ _ _ _ _ _ us hl => match us, hl with | [_], _ => rfl⟩,
    ⟨f12, _, F12, PySem.W.mg_of X G a12, F12.binds (ps := ["pool"]) fun _ _ _ _ _ _ us hl => match us, hl with | [_], _ => rfl⟩,
    ⟨f13, _, F13, PySem.W.mg_of X G a13, F13.binds (ps := ["pool", "needed"]) fun _ _ _ _ _ _ us hl => match us, hl with | [_, _], _ => rfl⟩,
    ⟨f14, _, F14, PySem.W.mg_of X G a14, F14.binds (ps := ["pool", "tokens"]) fun _ _ _ _ _ _ us hl => match us, hl with | [_, _], _ => rfl⟩,
    ⟨f15, _, F15, PySem.W.mg_of X G a15, F15.binds (ps := ["pool"]) fun _ _ _ _ _ _ us hl => match us, hl with | [_], _ => rfl⟩,
    PySem.W.mg_none_of X G z0,
    PySem.W.mg_none_of X G z1,
    PySem.W.mg_none_of X G z2,
    PySem.W.mg_none_of X G z3,
    PySem.W.mg_none_of X G z4,
    PySem.W.mg_none_of X G z5,
    PySem.W.mg_none_of X G z6,
    PySem.W.mg_none_of X G z7,
    PySem.W.mg_none_of X G z8,
    PySem.W.mg_none_of X G z9,
    PySem.W.mg_none_of X G z10,
    ⟨ca0, PySem.W.mg_of X G g0, fun _ => .inr ⟨_, _, _, h0, rfl, rfl, (by show 11 ≤ sizeLine; decide), (.cons ⟨_, rfl⟩ (.cons ⟨_, rfl⟩ (.cons ⟨_, rfl⟩ (.cons ⟨_, rfl⟩ (.cons ⟨_, rfl⟩ (.cons ⟨_, rfl⟩ (.cons ⟨_, rfl⟩ (.cons ⟨_, rfl⟩ (.cons ⟨_, rfl⟩ (.cons ⟨_, rfl⟩ (.cons ⟨_, rfl⟩ .nil)))))))))))⟩⟩,
    ⟨ca1, PySem.W.mg_of X G g1, fun _ => .inr ⟨_, _, _, h1, rfl, rfl, (by show 14 ≤ sizeLine; decide), (.cons ⟨_, rfl⟩ (.cons ⟨_, rfl⟩ (.cons ⟨_, rfl⟩ (.cons ⟨_, rfl⟩ (.cons ⟨_, rfl⟩ (.cons ⟨_, rfl⟩ (.cons ⟨_, rfl⟩ (.cons ⟨_, rfl⟩ (.cons ⟨_, rfl⟩ (.cons ⟨_, rfl⟩ (.cons ⟨_, rfl⟩ (.cons ⟨_, rfl⟩ (.cons ⟨_, rfl⟩ (.cons ⟨_, rfl⟩ .nil))))))))))))))⟩⟩,
    ⟨_, PySem.W.mg_of X G g2⟩,
    ⟨_, PySem.W.mg_of X G g3⟩,
    ⟨_, PySem.W.mg_of X G g4⟩,
    ⟨_, PySem.W.mg_of X G g5⟩⟩
  exact ⟨_, fun s v => .of_eq rfl, fun base _ _ => glue A F16⟩
end G
open PySem PySem.W PyProof.Rows
set_option maxRecDepth 100000 in
set_option maxHeartbeats 0 in
theorem PySem.Challenge.cw_signoff_k01_tokens_in_order_holds : PySem.Challenge.rw_signoff_k01_tokens_in_order.Holds := by
  w_on; o_law; k_head; (case hw => w_witness2)
  k_fill
  refine L2.walk_of (l := PySem.Challenge.rw_signoff_k01_tokens_in_order) (n := 63) (k := 5) (x := "script") (CX := fun _ => L2.CX0) (sp := fun w => G.spLaw _) rfl (by decide) rfl ⟨rfl, by decide, by decide⟩ (fun w h Y => PySem.W.kIn_of Y) ?F (fun _ _ a ns hl _ hS => ⟨a, ns, rfl, hS, hl, fun _ => rfl⟩) (fun _ _ _ _ _ h => h)
  case F =>
    intro w mg fa h KX GN hmg
    refine' G.all_mk KX GN hmg ?a0 ?l0 ?c0 ?k0 ?a1 ?l1 ?c1 ?k1 ?a2 ?l2 ?c2 ?k2 ?a3 ?l3 ?c3 ?k3 ?a4 ?l4 ?c4 ?k4 ?a5 ?l5 ?c5 ?k5 ?a6 ?l6 ?c6 ?k6 ?a7 ?l7 ?c7 ?k7 ?a8 ?l8 ?c8 ?k8 ?a9 ?l9 ?c9 ?k9 ?a10 ?l10 ?c10 ?k10 ?a11 ?l11 ?c11 ?k11 ?a12 ?l12 ?c12 ?k12 ?a13 ?l13 ?c13 ?k13 ?a14 ?l14 ?c14 ?k14 ?a15 ?l15 ?c15 ?k15 ?a16 ?l16 ?c16 ?k16 ?cg0 ?ch0 ?cg1 ?ch1 ?cg2 ?cg3 ?cg4 ?cg5 ?z0 ?z1 ?z2 ?z3 ?z4 ?z5 ?z6 ?z7 ?z8 ?z9 ?z10
    (case a0 => k_is)
    (case l0 => k_is)
    (case c0 => k_is)
    (case k0 => k_is)
    (case a1 => k_is)
    (case l1 => k_is)
    (case c1 => k_is)
    (case k1 => k_is)
    (case a2 => k_is)
    (case l2 => k_is)
    (case c2 => k_is)
    (case k2 => k_is)
    (case a3 => k_is)
    (case l3 => k_is)
    (case c3 => k_is)
    (case k3 => k_is)
    (case a4 => k_is)
    (case l4 => k_is)
    (case c4 => k_is)
    (case k4 => k_is)
    (case a5 => k_is)
    (case l5 => k_is)
    (case c5 => k_is)
    (case k5 => k_is)
    (case a6 => k_is)
    (case l6 => k_is)
    (case c6 => k_is)
    (case k6 => k_is)
    (case a7 => k_is)
    (case l7 => k_is)
    (case c7 => k_is)
    (case k7 => k_is)
    (case a8 => k_is)
    (case l8 => k_is)
    (case c8 => k_is)
    (case k8 => k_is)
    (case a9 => k_is)
    (case l9 => k_is)
    (case c9 => k_is)
    (case k9 => k_is)
    (case a10 => k_is)
    (case l10 => k_is)
    (case c10 => k_is)
    (case k10 => k_is)
    (case a11 => k_is)
    (case l11 => k_is)
    (case c11 => k_is)
    (case k11 => k_is)
    (case a12 => k_is)
    (case l12 => k_is)
    (case c12 => k_is)
    (case k12 => k_is)
    (case a13 => k_is)
    (case l13 => k_is)
    (case c13 => k_is)
    (case k13 => k_is)
    (case a14 => k_is)
    (case l14 => k_is)
    (case c14 => k_is)
    (case k14 => k_is)
    (case a15 => k_is)
    (case l15 => k_is)
    (case c15 => k_is)
    (case k15 => k_is)
    (case a16 => k_is)
    (case l16 => k_is)
    (case c16 => k_is)
    (case k16 => k_is)
    (case cg0 => k_is)
    (case ch0 => k_is)
    (case cg1 => k_is)
    (case ch1 => k_is)
    (case cg2 => k_is)
    (case cg3 => k_is)
    (case cg4 => k_is)
    (case cg5 => k_is)
    (case z0 => k_is)
    (case z1 => k_is)
    (case z2 => k_is)
    (case z3 => k_is)
    (case z4 => k_is)
    (case z5 => k_is)
    (case z6 => k_is)
    (case z7 => k_is)
    (case z8 => k_is)
    (case z9 => k_is)
    (case z10 => k_is)
#print axioms PySem.Challenge.cw_signoff_k01_tokens_in_order_holds
