import PyProof.Rows.All
import Wide.All
import OpenK.AllK
import Wide.FinOn
import HandS.ForMost
import HandS.ForExc
import HandS.IsInst
import HandS.ExcIs
import HandS.Wide
import HandS.Evl
import HandS.DictTup
import HandS.SortRule
import HandS.SortInts
import HandS.Rev
import HandS.Style
import KE.KDictWalk
import PySem.Challenge.RW_rentroll_k07_owed_in_spans
set_option Elab.async false
set_option linter.all false
set_option maxRecDepth 100000
set_option maxHeartbeats 2000000
namespace My
open PySem PySem.Spec PyProof.Rows L2
/-! ### rules of two kinds at once -/
section
variable {X : Cx}
def rPlus : R2 := fun x y H Q => rI0 (fun i j => .int (i + j)) x y H Q ∨ rCat x y H Q
theorem op_plus : OpR X (binaryOp .Add) rPlus := op_add.or op_cat
def rIx2 (K : PySem.W.Frag) : R2 := fun x y H Q => rIxL K x y H Q ∨ rIxT K x y H Q
theorem ix_lt : IxR X (rIx2 X.K) := ix_list.or ix_tup
def rEqA (K : PySem.W.Frag) : R2 := fun x y H Q => rEq x y H Q ∨ rEqD K x y H Q
def rNeA (K : PySem.W.Frag) : R2 := fun x y H Q => rNe x y H Q ∨ rNeD K x y H Q
theorem op_eqA (hu : X.A.units + 64 < cLine) : OpR X (compareOp .Eq) (rEqA X.K) := op_eq.or (op_eqD hu)
theorem op_neA (hu : X.A.units + 64 < cLine) : OpR X (compareOp .NotEq) (rNeA X.K) := op_ne.or (op_neD hu)
def rIsN : R2 := fun x y H Q => y = .non ∧ Q (.bl (decide (x = .non))) H
def rNotN : R2 := fun x y H Q => y = .non ∧ Q (.bl (!decide (x = .non))) H
theorem op_isA : OpR X (compareOp .Is) rIsN := op_isN
theorem op_isnotA : OpR X (compareOp .IsNot) rNotN := op_notN
def iLT (K : PySem.W.Frag) (tl : TE) : TI := fun σ H R => iList K tl σ H R ∨ iTup K tl σ H R
theorem pi_lt {tg l : Expr} {tl : TE} (hl : PE X l tl) : PI X tg l (iLT X.K tl) :=
  ⟨fun pins s σ H R I h => h.elim ((pi_list hl).run pins s σ H R I) ((pi_tup hl).run pins s σ H R I)⟩
def rLen (K : PySem.W.Frag) : List V → Hp → VK → Prop := fun xs H Q => ∃ p ys, xs = [.ref p] ∧ (SqL K H p ys ∨ SqT K H p ys) ∧ Q (.int ys.length) H
theorem call_lenA : CallR X (.builtin "len") (rLen X.K) := call_len_seq
def rListOf (K : PySem.W.Frag) : List V → Hp → VK → Prop := fun xs H Q => ∃ p ys, xs = [.ref p] ∧ (SqL K H p ys ∨ SqT K H p ys) ∧ ∀ l, H l = none → Q (.ref l) (upd H l (.lst ys))
theorem call_listA : CallR X (.type "list") (rListOf X.K) := call_list_of
/-- isinstance(e, c) within an except suite, whatever class the caught error has -/
def rIsX (K : PySem.W.Frag) (cls : Value) (d : Option Addr) (a : Addr) : List V → Hp → VK → Prop := fun xs H Q => ∃ D, cls = .ref D ∧ d = none ∧ ExcC K D ∧ rIsE K D a xs H Q
theorem call_isX {a : Addr} {oe : Obj} {cls : Value} {d : Option Addr} {pn : List (Addr × Obj)} (hz : Zc cls d oe) (hf : ∃ vs, oe.data = .fields vs) :
    CallR (X.suite a ((a, oe) :: pn)) (.builtin "isinstance") (rIsX X.K cls d a) := by
  intro pins s σ H xs us Q I r h
  obtain ⟨D, rfl, rfl, C, q⟩ := h
  exact call_isE (X := X) C hz hf pins s σ H xs us Q I r q
end
theorem at_modI {ns : List Int} (z : Int) {n : Int} (hn : (ns.length : Int) = n) (h0 : 0 < n) : atI (ns.map V.int) (z % n) = some (.int (ns.getD (z % n).toNat 0)) := by
  have h1 : 0 ≤ z % n := Int.emod_nonneg _ (by omega)
  have h2 : z % n < n := Int.emod_lt_of_pos _ h0
  obtain ⟨j, hj⟩ : ∃ j : Nat, z % n = (j : Int) := ⟨(z % n).toNat, by omega⟩
  rw [hj]
  have hl : j < ns.length := by omega
  refine atI_nat ?_
  rw [List.getElem?_map, List.getElem?_eq_getElem hl]
  simp [List.getD, hl]
theorem at_modV {xs : List V} (z : Int) {n : Int} (hn : (xs.length : Int) = n) (h0 : 0 < n) : ∃ v, v ∈ xs ∧ atI xs (z % n) = some v := by
  have h1 : 0 ≤ z % n := Int.emod_nonneg _ (by omega)
  have h2 : z % n < n := Int.emod_lt_of_pos _ h0
  obtain ⟨j, hj⟩ : ∃ j : Nat, z % n = (j : Int) := ⟨(z % n).toNat, by omega⟩
  rw [hj]
  have hl : j < xs.length := by omega
  exact ⟨xs[j], List.getElem_mem hl, atI_nat (List.getElem?_eq_getElem hl)⟩
theorem lk_ne {H : Hp} {a b : Addr} {o u : HO} (h : H a = some o) (hb : H b = none) : upd H b u a = some o := (upd_ne (ne_of_none h hb)).trans h
theorem cmul_l {i j : Int} (h0 : -(2 ^ 64) < i) (h1 : i < 2 ^ 64) : CMul i j := .inl ⟨h0, h1⟩
theorem cmul_r {i j : Int} (h0 : -(2 ^ 64) < j) (h1 : j < 2 ^ 64) : CMul i j := .inr ⟨h0, h1⟩
theorem cpow_ok {i j : Int} (h0 : 0 ≤ j) (h1 : j ≤ 1000000) (h2 : i.natAbs < 2 ^ 64) : CPow i j := ⟨h0, h1, h2⟩
theorem getD_all {l : List Int} {R : Int → Prop} (n : Nat) (h : ∀ x, x ∈ l → R x) (h0 : R 0) : R (l.getD n 0) := by
  rw [List.getD]
  cases e : l[n]? with
  | none => exact h0
  | some x => exact h x (List.mem_of_getElem? e)
theorem mod_ok {i j : Int} (h : 0 < j) : (fun _ j : Int => 0 < j) i j := h
theorem cdiv_ok {i j : Int} (h0 : 0 < j) (h1 : j < 1073741824) : CDiv i j := ⟨h0, h1⟩
theorem same_new {H : Hp} {p : Addr} {o : HO} (hp : H p = none) : Same H (upd H p o) := fun b u e => by rw [upd_ne (ne_of_none e hp)]; exact e
/-- an object that H does not know may change -/
theorem same_mut {H H' : Hp} {p : Addr} {o : HO} (e : Same H H') (hp : H p = none) : Same H (upd H' p o) := fun b u h => by rw [upd_ne (ne_of_none h hp)]; exact e b u h
theorem same_sqT {K : PySem.W.Frag} {H H' : Hp} {a : Addr} {xs : List V} (e : Same H H') (h : SqT K H a xs) : SqT K H' a xs := by
  rcases h with (h | ⟨o, h⟩) | h
  · exact .inl (.inl (e _ _ h))
  · exact .inl (.inr ⟨o, e _ _ h⟩)
  · exact .inr h
/-! ### a comprehension that makes a list of what its element gives, turn by turn -/
theorem range_more {α : Type} (f : Nat → α) (i : Nat) : (List.range (i + 1)).map f = (List.range i).map f ++ [f i] := by rw [List.range_succ, List.map_append]; rfl
section
variable {K : PySem.W.Frag} {σ : L2.St} {H : Hp} {Q : VK} {te : TE} {vs : List Nat} {j : Nat}
def Made (H : Hp) (D : Addr) (f : Nat → V) (i : Nat) (H' : Hp) : Prop := Same H H' ∧ H' D = some (.lst ((List.range i).map f))
theorem made_turn {H H' : Hp} {D : Addr} {f : Nat → V} {i : Nat} {σ2 : L2.St} (hD : H D = none) (m : Made H D f i H') (hi : i < 100000) (hs : ∀ Q' : VK, (∀ H'', Same H' H'' → Q' (f i) H'') → te σ2 H' Q') :
    te σ2 H' fun y H4 => ∃ acc, H4 D = some (.lst acc) ∧ acc.length < sizeLine ∧ Made H D f (i + 1) (upd H4 D (.lst (acc ++ [y]))) := by
  refine hs _ fun H4 s4 => ⟨_, s4 _ _ m.2, ?_, same_mut (m.1.trans s4) hD, ?_⟩
  · rw [List.length_map, List.length_range]; exact Nat.lt_of_lt_of_le hi (by decide)
  · rw [upd_same, range_more]
theorem lc_r2 {ta : TA} {lo hi : Int} (f : Nat → V) (hta : ∀ Q' : List V → Hp → Prop, Q' [.int lo, .int hi] H → ta σ H Q') (b1 : -100000 ≤ lo ∧ lo ≤ 100000) (b2 : -100000 ≤ hi ∧ hi ≤ 100000) (b3 : hi - lo ≤ 100000)
    (hw : ∀ x, wipe ((wipe σ vs).set j (some x)) vs = wipe σ vs)
    (hs : ∀ (i : Nat) H', lo + i < hi → Same H H' → ∀ Q' : VK, (∀ H'', Same H' H'' → Q' (f i) H'') → te ((wipe σ vs).set j (some (.int (lo + i)))) H' Q')
    (hq : ∀ D H', H D = none → Same H H' → H' D = some (.lst ((List.range (hi - lo).toNat).map f)) → Q (.ref D) H') : tLc (iRng2 ta) (gName j) tYes te vs σ H Q := by
  refine hta _ ⟨lo, hi, rfl, by omega, fun D hD => ?_⟩
  refine lc_range (lo := lo) (n := (hi - lo).toNat) (Made H D f) ⟨same_new hD, upd_same⟩ (fun i H' hi' m => ?_) (fun H' m => hq D H' hD m.1 m.2)
  exact ⟨hw _, made_turn hD m (by omega) (hs i H' (by omega) m.1)⟩
theorem lc_r1 {ta : TA} {hi : Int} (f : Nat → V) (hta : ∀ Q' : List V → Hp → Prop, Q' [.int hi] H → ta σ H Q') (b2 : -100000 ≤ hi ∧ hi ≤ 100000)
    (hw : ∀ x, wipe ((wipe σ vs).set j (some x)) vs = wipe σ vs)
    (hs : ∀ (i : Nat) H', (i : Int) < hi → Same H H' → ∀ Q' : VK, (∀ H'', Same H' H'' → Q' (f i) H'') → te ((wipe σ vs).set j (some (.int (0 + i)))) H' Q')
    (hq : ∀ D H', H D = none → Same H H' → H' D = some (.lst ((List.range hi.toNat).map f)) → Q (.ref D) H') : tLc (iRng1 ta) (gName j) tYes te vs σ H Q := by
  refine hta _ ⟨hi, rfl, by omega, by omega, fun D hD => ?_⟩
  refine lc_range (lo := 0) (n := hi.toNat) (Made H D f) ⟨same_new hD, upd_same⟩ (fun i H' hi' m => ?_) (fun H' m => hq D H' hD m.1 m.2)
  exact ⟨hw _, made_turn hD m (by omega) (hs i H' (by omega) m.1)⟩
theorem lc_r1E {ta : TA} {hi : Int} (R : V → Prop) (hta : ∀ Q' : List V → Hp → Prop, Q' [.int hi] H → ta σ H Q') (b2 : -100000 ≤ hi ∧ hi ≤ 100000)
    (hw : ∀ x, wipe ((wipe σ vs).set j (some x)) vs = wipe σ vs)
    (hs : ∀ (i : Nat) H', (i : Int) < hi → Same H H' → ∀ Q' : VK, (∀ v H'', R v → Same H' H'' → Q' v H'') → te ((wipe σ vs).set j (some (.int (0 + i)))) H' Q')
    (hq : ∀ D H' xs, H D = none → Same H H' → H' D = some (.lst xs) → xs.length = hi.toNat → (∀ x, x ∈ xs → R x) → Q (.ref D) H') : tLc (iRng1 ta) (gName j) tYes te vs σ H Q := by
  refine hta _ ⟨hi, rfl, by omega, by omega, fun D hD => ?_⟩
  refine lc_range (lo := 0) (n := hi.toNat) (fun i H' => Same H H' ∧ ∃ xs : List V, H' D = some (.lst xs) ∧ xs.length = i ∧ ∀ x, x ∈ xs → R x) ⟨same_new hD, [], upd_same, rfl, fun x h => by cases h⟩ (fun i H' hi' m => ?_) (fun H' m => ?_)
  · obtain ⟨sm, xs, h1, h2, h3⟩ := m
    refine ⟨hw _, hs i H' (by omega) sm _ fun v H4 hv s4 => ⟨xs, s4 _ _ h1, Nat.lt_of_lt_of_le (show xs.length < 100000 by omega) (by decide), same_mut (sm.trans s4) hD, xs ++ [v], upd_same, by rw [List.length_append, h2]; rfl, fun x hx => ?_⟩⟩
    rcases List.mem_append.mp hx with hx | hx
    · exact h3 x hx
    · rw [List.mem_singleton.mp hx]; exact hv
  · obtain ⟨sm, xs, h1, h2, h3⟩ := m
    exact hq D H' xs hD sm h1 h2 h3
theorem lc_L {tl : TE} {a : Addr} {xs : List V} (f : Nat → V) (htl : ∀ Q' : VK, Q' (.ref a) H → tl σ H Q') (hx : SqL K H a xs) (hz : xs.length ≤ 100000)
    (hw : ∀ x, wipe ((wipe σ vs).set j (some x)) vs = wipe σ vs)
    (hs : ∀ (i : Nat) x H', xs[i]? = some x → Same H H' → ∀ Q' : VK, (∀ H'', Same H' H'' → Q' (f i) H'') → te ((wipe σ vs).set j (some x)) H' Q')
    (hq : ∀ D H', H D = none → Same H H' → H' D = some (.lst ((List.range xs.length).map f)) → Q (.ref D) H') : tLc (iLT K tl) (gName j) tYes te vs σ H Q := by
  refine .inl (htl _ ⟨a, rfl, ⟨xs, hx⟩, fun D hD => ?_⟩)
  refine lc_list (K := K) (a := a) (xs := xs) (Made H D f) ⟨same_new hD, upd_same⟩ (fun i H' _ m => m.1.seq hx) (fun i x H' hi' m => ?_) (fun H' m => hq D H' hD m.1 m.2)
  have hl := (List.getElem?_eq_some_iff.mp hi').1
  exact ⟨hw _, made_turn hD m (by omega) (hs i x H' hi' m.1)⟩
theorem lc_T {tl : TE} {a : Addr} {xs : List V} (f : Nat → V) (htl : ∀ Q' : VK, Q' (.ref a) H → tl σ H Q') (hx : SqT K H a xs) (hz : xs.length ≤ 100000)
    (hw : ∀ x, wipe ((wipe σ vs).set j (some x)) vs = wipe σ vs)
    (hs : ∀ (i : Nat) x H', xs[i]? = some x → Same H H' → ∀ Q' : VK, (∀ H'', Same H' H'' → Q' (f i) H'') → te ((wipe σ vs).set j (some x)) H' Q')
    (hq : ∀ D H', H D = none → Same H H' → H' D = some (.lst ((List.range xs.length).map f)) → Q (.ref D) H') : tLc (iLT K tl) (gName j) tYes te vs σ H Q := by
  refine .inr (htl _ ⟨a, rfl, ⟨xs, hx⟩, fun D hD => ?_⟩)
  refine lc_tup (K := K) (a := a) (xs := xs) (Made H D f) ⟨same_new hD, upd_same⟩ (fun i H' _ m => same_sqT m.1 hx) (fun i x H' hi' m => ?_) (fun H' m => hq D H' hD m.1 m.2)
  have hl := (List.getElem?_eq_some_iff.mp hi').1
  exact ⟨hw _, made_turn hD m (by omega) (hs i x H' hi' m.1)⟩
end
/-! ### readings, step by step: a goal «t ⟨nx, rt, bk, ct⟩ σ H», «te σ H Q» -/
section
variable {σ : L2.St} {H : Hp} {i : Nat} {v x y z : V} {ta tb tc te tv : TE} {b : Bool} {K : PySem.W.Frag} {a C dx : Addr} {fs : List (Str × V)} {f : Str} {t u c : TT} {Q : VK}
  {nx bk ct : L2.St → Hp → Prop} {rt : VK} {s1 s2 : TS} {r r' : R2} {g : TG}
theorem g_seq (h : s1 ⟨s2 ⟨nx, rt, bk, ct⟩, rt, bk, ct⟩ σ H) : tSeq s1 s2 ⟨nx, rt, bk, ct⟩ σ H := h
theorem g_next (h : nx σ H) : tNext ⟨nx, rt, bk, ct⟩ σ H := h
theorem g_brk (h : bk σ H) : tBreak ⟨nx, rt, bk, ct⟩ σ H := h
theorem g_cont (h : ct σ H) : tCont ⟨nx, rt, bk, ct⟩ σ H := h
theorem g_set (h : te σ H (fun x H1 => nx (σ.set i (some x)) H1)) : tAsg te (gName i) ⟨nx, rt, bk, ct⟩ σ H := h
theorem g_asg (h : te σ H (fun x H1 => g x σ H1 nx)) : tAsg te g ⟨nx, rt, bk, ct⟩ σ H := h
theorem g_drop (h : te σ H (fun _ H1 => nx σ H1)) : tDrop te ⟨nx, rt, bk, ct⟩ σ H := h
theorem g_ret (h : te σ H rt) : tRet te ⟨nx, rt, bk, ct⟩ σ H := h
theorem g_retN (h : rt .non H) : tRetN ⟨nx, rt, bk, ct⟩ σ H := h
theorem g_ifS (h : c σ H fun b H1 => if b = true then s1 ⟨nx, rt, bk, ct⟩ σ H1 else s2 ⟨nx, rt, bk, ct⟩ σ H1) : tIfS c s1 s2 ⟨nx, rt, bk, ct⟩ σ H := h
theorem g_aug {ti : TIp} (hx : σ[i]? = some (some x)) (h : te σ H fun y H1 => ti x y H1 fun z H2 => nx (σ.set i (some z)) H2) : tAug i te ti ⟨nx, rt, bk, ct⟩ σ H := ⟨x, hx, h⟩
theorem g_ipI {f : Int → Int → Int} {m n : Int} (q : Q (.int (f m n)) H) : ipI f (.int m) (.int n) H Q := ⟨m, n, rfl, rfl, q⟩
theorem g_fldS (h : tv σ H fun y H1 => ta σ H1 fun x H2 => ∃ a C dx fs, x = .ref a ∧ H2 a = some (.ins C dx fs) ∧ Cls K C ∧ NoAttr K C f ∧ fs.length < 1000 ∧ nx σ (upd H2 a (.ins C dx (putF f y fs)))) : sFld K ta tv f ⟨nx, rt, bk, ct⟩ σ H := h
theorem g_var (h : σ[i]? = some (some v)) (q : Q v H) : tVar i σ H Q := ⟨v, h, q⟩
theorem g_c (q : Q v H) : tC v σ H Q := q
theorem g_op (h : ta σ H fun x H1 => tb σ H1 fun y H2 => r x y H2 Q) : tOp r ta tb σ H Q := h
theorem g_un {r : V → Hp → VK → Prop} (h : ta σ H fun x H1 => r x H1 Q) : tUn r ta σ H Q := h
theorem r_int {g : Int → Int → V} {m n : Int} (q : Q (g m n) H) : rI0 g (.int m) (.int n) H Q := ⟨m, n, rfl, rfl, q⟩
theorem r_intC {C : Int → Int → Prop} {g : Int → Int → V} {m n : Int} (hc : C m n) (q : Q (g m n) H) : rI C g (.int m) (.int n) H Q := ⟨m, n, rfl, rfl, hc, q⟩
theorem r_U {g : Int → V} {m : Int} (q : Q (g m) H) : rU g (.int m) H Q := ⟨m, rfl, q⟩
theorem r_plus {m n : Int} (q : Q (.int (m + n)) H) : rPlus (.int m) (.int n) H Q := .inl ⟨m, n, rfl, rfl, q⟩
theorem r_cat {l b : Addr} {xs zs : List V} (h1 : H l = some (.lst xs)) (h2 : H b = some (.lst zs)) (hz : xs.length + zs.length ≤ sizeLine) (q : ∀ p, H p = none → Q (.ref p) (upd H p (.lst (xs ++ zs)))) : rPlus (.ref l) (.ref b) H Q :=
  .inr ⟨l, b, xs, zs, rfl, rfl, h1, h2, hz, q⟩
theorem r_eqS (hs : scal x y = true) (q : Q (.bl (decide (x = y))) H) : rEqA K x y H Q := .inl ⟨hs, q⟩
theorem r_neS (hs : scal x y = true) (q : Q (.bl (!decide (x = y))) H) : rNeA K x y H Q := .inl ⟨hs, q⟩
theorem r_eqI {m n : Int} (q : Q (.bl (decide (m = n))) H) : rEqA K (.int m) (.int n) H Q := .inl ⟨rfl, by
  have e : decide (V.int m = V.int n) = decide (m = n) := by simp
  rw [e]; exact q⟩
theorem r_neI {m n : Int} (q : Q (.bl (!decide (m = n))) H) : rNeA K (.int m) (.int n) H Q := .inl ⟨rfl, by
  have e : decide (V.int m = V.int n) = decide (m = n) := by simp
  rw [e]; exact q⟩
theorem r_eqD {d e : PyData} (h1 : Dp K H x d) (h2 : Dp K H y e) (s1 : SeqAt.shaped d = true) (s2 : SeqAt.shaped e = true) (q : Q (.bl (PyData.eqv d e)) H) : rEqA K x y H Q := .inr ⟨d, e, h1, h2, s1, s2, q⟩
theorem r_neD {d e : PyData} (h1 : Dp K H x d) (h2 : Dp K H y e) (s1 : SeqAt.shaped d = true) (s2 : SeqAt.shaped e = true) (q : Q (.bl (!PyData.eqv d e)) H) : rNeA K x y H Q := .inr ⟨d, e, h1, h2, s1, s2, q⟩
theorem r_eqDD {d : PyData} (h1 : Dp K H x d) (h2 : Dp K H y d) (s1 : SeqAt.shaped d = true) (c : d.canLay0 = true) (q : Q (.bl true) H) : rEqA K x y H Q := r_eqD h1 h2 s1 s1 (by rw [SeqAt.eqv_refl _ c]; exact q)
theorem r_neDD {d : PyData} (h1 : Dp K H x d) (h2 : Dp K H y d) (s1 : SeqAt.shaped d = true) (c : d.canLay0 = true) (q : Q (.bl false) H) : rNeA K x y H Q := r_neD h1 h2 s1 s1 (by rw [SeqAt.eqv_refl _ c]; exact q)
theorem r_isN (q : Q (.bl (decide (x = .non))) H) : rIsN x .non H Q := ⟨rfl, q⟩
theorem r_notN (q : Q (.bl (!decide (x = .non))) H) : rNotN x .non H Q := ⟨rfl, q⟩
theorem r_ixL {l : Addr} {xs : List V} {n : Int} (h : SqL K H l xs) (ha : atI xs n = some v) (q : Q v H) : rIx2 K (.ref l) (.int n) H Q := .inl ⟨l, xs, n, v, rfl, rfl, h, ha, q⟩
theorem r_ixT {l : Addr} {xs : List V} {n : Int} (h : SqT K H l xs) (ha : atI xs n = some v) (q : Q v H) : rIx2 K (.ref l) (.int n) H Q := .inr ⟨l, xs, n, v, rfl, rfl, h, ha, q⟩
theorem g_test {Q : Bool → Hp → Prop} (h : te σ H fun x H' => ∃ k, x = .bl k ∧ Q k H') : tTest te σ H Q := h
theorem g_B {Q : Bool → Hp → Prop} (h : te σ H fun x H' => ∃ k, x = .bl k ∧ Q k H') : tB te σ H Q := h
theorem g_bl {R : Bool → Prop} (q : R b) : ∃ k, V.bl b = .bl k ∧ R k := ⟨b, rfl, q⟩
theorem g_tcut (M : L2.St → Hp → Prop) (h : s1 ⟨M, rt, bk, ct⟩ σ H) (k : ∀ σ' H', M σ' H' → s2 ⟨nx, rt, bk, ct⟩ σ' H') : Evl.tCut s1 s2 ⟨nx, rt, bk, ct⟩ σ H := ⟨M, h, k⟩
theorem g_and {Q : Bool → Hp → Prop} (h : t σ H fun c H1 => if c = true then u σ H1 Q else Q false H1) : tAnd t u σ H Q := h
theorem g_or {Q : Bool → Hp → Prop} (h : t σ H fun c H1 => if c = true then Q true H1 else u σ H1 Q) : tOr t u σ H Q := h
theorem g_not {Q : Bool → Hp → Prop} (h : t σ H fun c H1 => Q (!c) H1) : tNot t σ H Q := h
theorem g_andV (h : ta σ H fun x H1 => ∃ c, x = .bl c ∧ if c = true then tb σ H1 Q else Q (.bl false) H1) : tAndV ta tb σ H Q := h
theorem g_orV (h : ta σ H fun x H1 => ∃ c, x = .bl c ∧ if c = true then Q (.bl true) H1 else tb σ H1 Q) : tOrV ta tb σ H Q := h
theorem g_notV (h : ta σ H fun x H1 => ∃ c, x = .bl c ∧ Q (.bl (!c)) H1) : tNotV ta σ H Q := h
theorem g_blI {A B : Prop} (h : if b = true then A else B) : ∃ c, V.bl b = .bl c ∧ if c = true then A else B := ⟨b, rfl, h⟩
theorem g_ifE (h : t σ H fun c H1 => if c = true then ta σ H1 Q else tb σ H1 Q) : tIf t ta tb σ H Q := h
theorem g_chain (h : ta σ H fun x H1 => tb σ H1 fun y H2 => r x y H2 fun z H3 => ∃ k, z = .bl k ∧ (if k = true then tc σ H3 fun w' H4 => r' y w' H4 Q else Q (.bl false) H3)) : tChain r r' ta tb tc σ H Q := h
theorem g_nil {Q : List V → Hp → Prop} (q : Q [] H) : tNil σ H Q := q
theorem g_cons {tr : TA} {Q : List V → Hp → Prop} (h : ta σ H fun x H1 => tr σ H1 fun xs H2 => Q (x :: xs) H2) : tCons ta tr σ H Q := h
theorem g_CB {r : List V → Hp → VK → Prop} {tr : TA} (h : tr σ H fun vs H1 => r vs H1 Q) : tCB r tr σ H Q := h
theorem g_call {sp : Sp} {E : L2.St → XK} {tr : TA} (h : tr σ H fun vs H1 => sp vs H1 Q (E σ)) : tCallS sp E tr σ H Q := h
theorem g_tup {tr : TA} (h : tr σ H fun xs H1 => xs.length ≤ sizeLine ∧ ∀ p, H1 p = none → Q (.ref p) (upd H1 p (.tup xs))) : tTup tr σ H Q := h
theorem g_lst {tr : TA} (h : tr σ H fun xs H1 => xs.length ≤ sizeLine ∧ ∀ p, H1 p = none → Q (.ref p) (upd H1 p (.lst xs))) : tLst tr σ H Q := h
theorem g_fld (h : ta σ H fun x H1 => ∃ a C dx fs v, x = .ref a ∧ H1 a = some (.ins C dx fs) ∧ Cls K C ∧ NoAttr K C f ∧ fs.lookup f = some v ∧ Q v H1) : tFld K ta f σ H Q := h
theorem g_bm {T : String} {r : V → List V → Hp → VK → Prop} {tr : TA} (h : ta σ H fun x H1 => tyV K T x H1 ∧ tr σ H1 fun xs H2 => r x xs H2 Q) : tBM K T r ta tr σ H Q := h
theorem g_sl {r : V → Option Int → Option Int → Hp → VK → Prop} {tl th : TO} (h : te σ H fun x H1 => tl σ H1 fun l H2 => th σ H2 fun u H3 => r x l u H3 Q) : tSl r te tl th σ H Q := h
theorem g_part {Q : Option Int → Hp → Prop} (h : te σ H fun x H1 => ∃ i, x = .int i ∧ Q (some i) H1) : tPart te σ H Q := h
theorem g_partI {n : Int} {R : Int → Prop} (q : R n) : ∃ i, V.int n = .int i ∧ R i := ⟨n, rfl, q⟩
theorem g_nopart {Q : Option Int → Hp → Prop} (q : Q none H) : tNoPart σ H Q := q
theorem g_ite {A B : Prop} {c : Prop} [Decidable c] (h1 : c → A) (h2 : ¬ c → B) : if decide c = true then A else B := by
  by_cases h : c
  · rw [if_pos (decide_eq_true h)]; exact h1 h
  · rw [if_neg (by rw [decide_eq_false h]; exact Bool.false_ne_true)]; exact h2 h
theorem g_iteN {A B : Prop} {c : Prop} [Decidable c] (h1 : ¬ c → A) (h2 : c → B) : if (!decide c) = true then A else B := by
  by_cases h : c
  · rw [if_neg (by rw [decide_eq_true h]; exact Bool.false_ne_true)]; exact h2 h
  · rw [if_pos (by rw [decide_eq_false h]; rfl)]; exact h1 h
theorem g_iteB {A B : Prop} {c : Bool} (h1 : c = true → A) (h2 : c = false → B) : if c = true then A else B := by
  cases c with
  | true => exact h1 rfl
  | false => exact h2 rfl
theorem g_iteNB {A B : Prop} {c : Bool} (h1 : c = false → A) (h2 : c = true → B) : if (!c) = true then A else B := by
  cases c with
  | true => exact h2 rfl
  | false => exact h1 rfl
theorem g_cut (v : V) (h : ∀ Q' : VK, Q' v H → te σ H Q') (q : Q v H) : te σ H Q := h Q q
theorem g_cutH (v : V) (R : Hp → Prop) (h : ∀ Q' : VK, (∀ H', R H' → Q' v H') → te σ H Q') (q : ∀ H', R H' → Q v H') : te σ H Q := h Q q
theorem g_cutT {Q : Bool → Hp → Prop} (b : Bool) (h : ∀ Q' : Bool → Hp → Prop, Q' b H → t σ H Q') (q : Q b H) : t σ H Q := h Q q
theorem g_ifB (b : Bool) (h : ∀ Q' : Bool → Hp → Prop, Q' b H → c σ H Q') (h1 : b = true → s1 ⟨nx, rt, bk, ct⟩ σ H) (h2 : b = false → s2 ⟨nx, rt, bk, ct⟩ σ H) : tIfS c s1 s2 ⟨nx, rt, bk, ct⟩ σ H := by
  refine h _ ?_
  cases b with
  | true => exact h1 rfl
  | false => exact h2 rfl
/-- for, by an invariant -/
theorem g_forL {tl : TE} {xs : List V} {j : Nat} (Pv : Nat → L2.St → Hp → Prop) (htl : ∀ Q' : VK, Q' (.ref a) H → tl σ H Q') (hx : SqL K H a xs) (h0 : Pv 0 σ H) (hl : ∀ i σ' H', i ≤ xs.length → Pv i σ' H' → SqL K H' a xs)
    (hs : ∀ i x σ' H', xs[i]? = some x → Pv i σ' H' → s1 ⟨Pv (i + 1), rt, nx, Pv (i + 1)⟩ (σ'.set j (some x)) H') (hd : ∀ σ' H', Pv xs.length σ' H' → nx σ' H') : tFor (iLT K tl) (gName j) s1 ⟨nx, rt, bk, ct⟩ σ H :=
  .inl (htl _ ⟨a, rfl, ⟨xs, hx⟩, for_list Pv h0 hl hs hd⟩)
theorem g_forT {tl : TE} {xs : List V} {j : Nat} (Pv : Nat → L2.St → Hp → Prop) (htl : ∀ Q' : VK, Q' (.ref a) H → tl σ H Q') (hx : SqT K H a xs) (h0 : Pv 0 σ H) (hl : ∀ i σ' H', i ≤ xs.length → Pv i σ' H' → SqT K H' a xs)
    (hs : ∀ i x σ' H', xs[i]? = some x → Pv i σ' H' → s1 ⟨Pv (i + 1), rt, nx, Pv (i + 1)⟩ (σ'.set j (some x)) H') (hd : ∀ σ' H', Pv xs.length σ' H' → nx σ' H') : tFor (iLT K tl) (gName j) s1 ⟨nx, rt, bk, ct⟩ σ H :=
  .inr (htl _ ⟨a, rfl, ⟨xs, hx⟩, for_tup Pv h0 hl hs hd⟩)
theorem g_forR1 {ta : TA} {hi : Int} {j : Nat} (Pv : Nat → L2.St → Hp → Prop) (hta : ∀ Q' : List V → Hp → Prop, Q' [.int hi] H → ta σ H Q') (b : -(2 ^ 62) ≤ hi ∧ hi < 2 ^ 62) (h0 : Pv 0 σ H)
    (hs : ∀ (i : Nat) σ' H', (i : Int) < hi → Pv i σ' H' → s1 ⟨Pv (i + 1), rt, nx, Pv (i + 1)⟩ (σ'.set j (some (.int (0 + i)))) H') (hd : ∀ σ' H', Pv hi.toNat σ' H' → nx σ' H') : tFor (iRng1 ta) (gName j) s1 ⟨nx, rt, bk, ct⟩ σ H :=
  hta _ ⟨hi, rfl, b.1, b.2, for_range (lo := 0) (n := hi.toNat) Pv h0 (fun i σ' H' h p => hs i σ' H' (by omega) p) hd⟩
theorem g_forR2 {ta : TA} {lo hi : Int} {j : Nat} (Pv : Nat → L2.St → Hp → Prop) (hta : ∀ Q' : List V → Hp → Prop, Q' [.int lo, .int hi] H → ta σ H Q') (b0 : -(2 ^ 62) ≤ lo ∧ lo < 2 ^ 62) (b : -(2 ^ 62) ≤ hi ∧ hi < 2 ^ 62) (h0 : Pv 0 σ H)
    (hs : ∀ (i : Nat) σ' H', lo + i < hi → Pv i σ' H' → s1 ⟨Pv (i + 1), rt, nx, Pv (i + 1)⟩ (σ'.set j (some (.int (lo + i)))) H') (hd : ∀ σ' H', Pv (hi - lo).toNat σ' H' → nx σ' H') : tFor (iRng2 ta) (gName j) s1 ⟨nx, rt, bk, ct⟩ σ H :=
  hta _ ⟨lo, hi, rfl, ⟨b0.1, b0.2, b.1, b.2⟩, for_range (lo := lo) (n := (hi - lo).toNat) Pv h0 (fun i σ' H' h p => hs i σ' H' (by omega) p) hd⟩
/-- while, by an invariant with a measure -/
theorem g_while (W : Nat → L2.St → Hp → Prop) (m0 : Nat) (h0 : W m0 σ H)
    (hs : ∀ m σ' H', W m σ' H' → c σ' H' fun b H1 => if b = true then ∃ N : L2.St → Hp → Prop, (∀ σ2 H2, N σ2 H2 → ∃ m', m' < m ∧ W m' σ2 H2) ∧ s1 ⟨N, rt, nx, N⟩ σ' H1 else nx σ' H1) : tWhile c s1 ⟨nx, rt, bk, ct⟩ σ H :=
  ⟨W, ⟨m0, h0⟩, hs⟩
theorem g_ifBH (b : Bool) (R : Hp → Prop) (h : ∀ Q' : Bool → Hp → Prop, (∀ H', R H' → Q' b H') → c σ H Q') (h1 : b = true → ∀ H', R H' → s1 ⟨nx, rt, bk, ct⟩ σ H') (h2 : b = false → ∀ H', R H' → s2 ⟨nx, rt, bk, ct⟩ σ H') : tIfS c s1 s2 ⟨nx, rt, bk, ct⟩ σ H := by
  refine h _ fun H' r => ?_
  cases b with
  | true => exact h1 rfl H' r
  | false => exact h2 rfl H' r
theorem g_T {A B : Prop} (h : A) : if true = true then A else B := h
theorem g_F {A B : Prop} (h : B) : if false = true then A else B := h
theorem g_nT {A B : Prop} (h : B) : if (!true) = true then A else B := h
theorem g_nF {A B : Prop} (h : A) : if (!false) = true then A else B := h
end
/-! ### more loops; targets that are tuples -/
section
variable {σ : L2.St} {H : Hp} {i n : Nat} {v x : V} {xs r : List V} {K : PySem.W.Frag} {a : Addr} {tl : TE} {ta : TA} {g : TG} {t : TGs} {s1 : TS} {nx bk ct : L2.St → Hp → Prop} {rt : VK} {Qn : L2.St → Hp → Prop}
theorem g_gname (h : Qn (σ.set i (some v)) H) : gName i v σ H Qn := h
theorem g_gtup (hx : SqT K H a xs) (hl : xs.length = n) (h : t xs σ H Qn) : gTup K n t (.ref a) σ H Qn := ⟨a, xs, rfl, hx, hl, h⟩
theorem g_gcons {u : TGs} (h : g v σ H fun σ' H' => u r σ' H' Qn) : gCons g u (v :: r) σ H Qn := ⟨v, r, rfl, h⟩
theorem g_gnil (h : Qn σ H) : gNil [] σ H Qn := ⟨rfl, h⟩
/-- over a list or a tuple -/
theorem g_forQ {H0 : Hp} (Pv : Nat → L2.St → Hp → Prop) (htl : ∀ Q' : VK, Q' (.ref a) H → tl σ H Q') (hx : SqL K H0 a xs ∨ SqT K H0 a xs) (h0 : Pv 0 σ H) (hl : ∀ i σ' H', Pv i σ' H' → Same H0 H')
    (hs : ∀ i x σ' H', xs[i]? = some x → Pv i σ' H' → g x σ' H' fun σ2 H2 => s1 ⟨Pv (i + 1), rt, nx, Pv (i + 1)⟩ σ2 H2) (hd : ∀ σ' H', Pv xs.length σ' H' → nx σ' H') : tFor (iLT K tl) g s1 ⟨nx, rt, bk, ct⟩ σ H := by
  rcases hx with hx | hx
  · exact .inl (htl _ ⟨a, rfl, ⟨xs, (hl _ _ _ h0).seq hx⟩, for_list Pv h0 (fun i σ' H' _ p => (hl i σ' H' p).seq hx) hs hd⟩)
  · exact .inr (htl _ ⟨a, rfl, ⟨xs, same_sqT (hl _ _ _ h0) hx⟩, for_tup Pv h0 (fun i σ' H' _ p => same_sqT (hl i σ' H' p) hx) hs hd⟩)
/-- over a list that a call has made: the goal is the call -/
theorem g_iL {R : It → Hp → Prop} (h : tl σ H fun x H1 => ∃ a, x = .ref a ∧ (∃ xs, SqL K H1 a xs) ∧ R (Itl K a) H1) : iList K tl σ H R := h
theorem g_forN (h : iList K tl σ H fun J H1 => ∃ W : Nat → Nat → L2.St → Hp → Prop, (∃ m, W 0 m σ H1) ∧ ∀ i m σ2 H2, W i m σ2 H2 →
    (J.stop i H2 ∧ nx σ2 H2) ∨ (J.go i H2 ∧ ∃ N : L2.St → Hp → Prop, (∀ σ' H', N σ' H' → ∃ m', m' < m ∧ W (i + 1) m' σ' H') ∧ ∀ x H', J.yld i H2 x H' → g x σ2 H' fun σ3 H3 => s1 ⟨N, rt, nx, N⟩ σ3 H3)) : tFor (iLT K tl) g s1 ⟨nx, rt, bk, ct⟩ σ H := .inl h
theorem g_iRev {R : It → Hp → Prop} (h : ta σ H fun vs H1 => ∃ (a : Addr) (xs : List V), vs = [.ref a] ∧ SqL K H1 a xs ∧ R (Itv K a xs.length) H1) : iRev K ta σ H R := h
theorem g_forRv (h : iRev K ta σ H fun J H1 => ∃ W : Nat → Nat → L2.St → Hp → Prop, (∃ m, W 0 m σ H1) ∧ ∀ i m σ2 H2, W i m σ2 H2 →
    (J.stop i H2 ∧ nx σ2 H2) ∨ (J.go i H2 ∧ ∃ N : L2.St → Hp → Prop, (∀ σ' H', N σ' H' → ∃ m', m' < m ∧ W (i + 1) m' σ' H') ∧ ∀ x H', J.yld i H2 x H' → g x σ2 H' fun σ3 H3 => s1 ⟨N, rt, nx, N⟩ σ3 H3)) : tFor (iRev K ta) g s1 ⟨nx, rt, bk, ct⟩ σ H := h
theorem list_of (Pv : Nat → L2.St → Hp → Prop) (h0 : Pv 0 σ H) (hl : ∀ i σ H, Pv i σ H → SqL K H a xs)
    (hs : ∀ i x σ H, xs[i]? = some x → Pv i σ H → g x σ H fun σ2 H2 => s1 ⟨Pv (i + 1), rt, nx, Pv (i + 1)⟩ σ2 H2) (hd : ∀ σ H, Pv xs.length σ H → nx σ H) :
    ∃ W : Nat → Nat → L2.St → Hp → Prop, (∃ m, W 0 m σ H) ∧ ∀ i m σ2 H2, W i m σ2 H2 →
      ((Itl K a).stop i H2 ∧ nx σ2 H2) ∨ ((Itl K a).go i H2 ∧ ∃ N : L2.St → Hp → Prop, (∀ σ' H', N σ' H' → ∃ m', m' < m ∧ W (i + 1) m' σ' H') ∧ ∀ x H', (Itl K a).yld i H2 x H' → g x σ2 H' fun σ3 H3 => s1 ⟨N, rt, nx, N⟩ σ3 H3) :=
  for_list (D := ⟨nx, rt, nx, nx⟩) Pv h0 (fun i σ H _ p => hl i σ H p) hs hd
theorem rev_of (Pv : Nat → L2.St → Hp → Prop) (h0 : Pv 0 σ H) (hl : ∀ i σ H, Pv i σ H → SqL K H a xs)
    (hs : ∀ i x σ H, i < xs.length → xs[xs.length - 1 - i]? = some x → Pv i σ H → g x σ H fun σ2 H2 => s1 ⟨Pv (i + 1), rt, nx, Pv (i + 1)⟩ σ2 H2) (hd : ∀ σ H, Pv xs.length σ H → nx σ H) :
    ∃ W : Nat → Nat → L2.St → Hp → Prop, (∃ m, W 0 m σ H) ∧ ∀ i m σ2 H2, W i m σ2 H2 →
      ((Itv K a xs.length).stop i H2 ∧ nx σ2 H2) ∨ ((Itv K a xs.length).go i H2 ∧ ∃ N : L2.St → Hp → Prop, (∀ σ' H', N σ' H' → ∃ m', m' < m ∧ W (i + 1) m' σ' H') ∧ ∀ x H', (Itv K a xs.length).yld i H2 x H' → g x σ2 H' fun σ3 H3 => s1 ⟨N, rt, nx, N⟩ σ3 H3) :=
  RT.for_Itv (D := ⟨nx, rt, nx, nx⟩) Pv h0 hl hs hd
theorem g_bm0 {T : String} {r : V → List V → Hp → VK → Prop} {te : TE} {Q : VK} (h : te σ H fun x H1 => tyV K T x H1 ∧ r x [] H1 Q) : tBM0 K T r te σ H Q := h
theorem g_dnew {Q : VK} (h : ∀ p, H p = none → Q (.ref p) (upd H p (.dK []))) : tDNewK σ H Q := h
theorem g_dput {td ty tv : TE} (h : tv σ H fun v H1 => td σ H1 fun x H2 => ty σ H2 fun y H3 => ∃ a H4, x = .ref a ∧ DPut H3 a y v H4 ∧ nx σ H4) : sDPut td ty tv ⟨nx, rt, bk, ct⟩ σ H := h
theorem g_revL {te : TE} {Q : VK} (h : te σ H fun x H1 => ∃ a xs, x = .ref a ∧ SqL K H1 a xs ∧ ∀ p, H1 p = none → Q (.ref p) (upd H1 p (.lst xs.reverse))) : tRevL K te σ H Q := h
end
/-! ### a comprehension with a test -/
section
variable {K : PySem.W.Frag} {σ : L2.St} {H : Hp} {Q : VK} {te : TE} {vs : List Nat} {g : TG} {tt : TT} {tl : TE} {a : Addr} {xs : List V}
def MadeF (H : Hp) (D : Addr) (acc : Nat → List V) (i : Nat) (H' : Hp) : Prop := Same H H' ∧ H' D = some (.lst (acc i))
theorem madeF_next {H H' H4 : Hp} {D : Addr} {acc : Nat → List V} {i : Nat} {y : V} (hD : H D = none) (m : MadeF H D acc i H') (s4 : Same H' H4) (hz : (acc i).length < sizeLine) (e : acc (i + 1) = acc i ++ [y]) :
    ∃ l, H4 D = some (.lst l) ∧ l.length < sizeLine ∧ MadeF H D acc (i + 1) (upd H4 D (.lst (l ++ [y]))) :=
  ⟨_, s4 _ _ m.2, hz, same_mut (m.1.trans s4) hD, by rw [upd_same, e]⟩
theorem madeF_skip {H H' H4 : Hp} {D : Addr} {acc : Nat → List V} {i : Nat} (m : MadeF H D acc i H') (s4 : Same H' H4) (e : acc (i + 1) = acc i) : MadeF H D acc (i + 1) H4 := ⟨m.1.trans s4, by rw [e]; exact s4 _ _ m.2⟩
theorem lc_Q (acc : Nat → List V) (htl : ∀ Q' : VK, Q' (.ref a) H → tl σ H Q') (hx : SqL K H a xs ∨ SqT K H a xs) (h0 : acc 0 = [])
    (hs : ∀ D i x H', H D = none → xs[i]? = some x → MadeF H D acc i H' → g x (wipe σ vs) H' fun σ2 H2 => wipe σ2 vs = wipe σ vs ∧ tt σ2 H2 fun b H3 =>
      if b = true then te σ2 H3 fun y H4 => ∃ l, H4 D = some (.lst l) ∧ l.length < sizeLine ∧ MadeF H D acc (i + 1) (upd H4 D (.lst (l ++ [y]))) else MadeF H D acc (i + 1) H3)
    (hq : ∀ D H', H D = none → Same H H' → H' D = some (.lst (acc xs.length)) → Q (.ref D) H') : tLc (iLT K tl) g tt te vs σ H Q := by
  rcases hx with hx | hx
  · refine .inl (htl _ ⟨a, rfl, ⟨xs, hx⟩, fun D hD => ?_⟩)
    exact lc_list (K := K) (a := a) (xs := xs) (MadeF H D acc) ⟨same_new hD, by rw [upd_same, h0]⟩ (fun i H' _ m => m.1.seq hx) (fun i x H' hi' m => hs D i x H' hD hi' m) (fun H' m => hq D H' hD m.1 m.2)
  · refine .inr (htl _ ⟨a, rfl, ⟨xs, hx⟩, fun D hD => ?_⟩)
    exact lc_tup (K := K) (a := a) (xs := xs) (MadeF H D acc) ⟨same_new hD, by rw [upd_same, h0]⟩ (fun i H' _ m => same_sqT m.1 hx) (fun i x H' hi' m => hs D i x H' hD hi' m) (fun H' m => hq D H' hD m.1 m.2)
end
/-! ### sorted(d.items()), d a dict of ints by ints -/
section
variable {X : Cx}
def rItemsK : V → List V → Hp → VK → Prop := fun x xs H Q => ∃ (a : Addr) (kvs : List (Key × V)), x = .ref a ∧ xs = [] ∧ H a = some (.dK kvs) ∧ ∀ p, H p = none → Q (.ref p) (upd H p (L2.DX.itemsO p a))
theorem mt_itemsK : MtR X "dict.items" rItemsK := by
  intro pins s σ H x xs v us Q I rx rxs h
  obtain ⟨a, kvs, rfl, rfl, ha, q⟩ := h
  cases rx
  cases rxs
  obtain ⟨_, hd, vs, _, hdo⟩ := I.hok a _ ha
  obtain ⟨es, ep, ⟨o, ho, hx, hdat⟩, _⟩ := hdo.raw
  refine DT.callItems (es := es) (ep := ep) hd ⟨o, ho, hx, hdat⟩ ?_
  have hf : H s.heap.objs.size = none := I.hok.fresh (Nat.le_refl _)
  exact ⟨.ref s.heap.objs.size, upd H s.heap.objs.size (L2.DX.itemsO s.heap.objs.size a), I.laid (t' := s.toks) (fun b u e => Heap.get?_push_of_some _ e) (Nat.le_refl _) (L2.DX.itemsO_ok (Heap.get?_push_size _ rfl)), rfl, q _ hf⟩
def rSortA (K : PySem.W.Frag) : List V → Hp → VK → Prop := fun xs H Q => rSortedPO K xs H Q ∨ rSortedI K xs H Q
theorem cr_sortA : CallR X (.builtin "sorted") (rSortA X.K) := fun pins s σ H xs us Q I r h => h.elim (cr_sortedPO pins s σ H xs us Q I r) (cr_sortedI pins s σ H xs us Q I r)
def entI (q : Int × Int) : Key × V := (Sum.inl q.1, V.int q.2)
def rSortItK : List V → Hp → VK → Prop := fun vs H Q => ∃ (p a : Addr) (ps : List (Int × Int)), vs = [.ref p] ∧ H p = some (L2.DX.itemsO p a) ∧ H a = some (.dK (ps.map entI)) ∧
  ∀ (H' : Hp) (l : Addr) (ts : List Addr) (qs : List (Int × Int)), Same H H' → H l = none → qs.Perm ps → qs.Pairwise (fun x y => x.1 ≤ y.1) → H' l = some (.lst (ts.map V.ref)) →
    Paired (fun (t : Addr) (q : Int × Int) => H' t = some (.tup [.int q.1, .int q.2])) ts qs → Q (.ref l) H'
theorem paired_maps {α β γ : Type} {F : α → β → Prop} (f : γ → α) (k : γ → β) : ∀ l : List γ, (∀ z ∈ l, F (f z) (k z)) → Paired F (l.map f) (l.map k)
  | [], _ => .nil
  | z :: l, h => .cons (h z (List.mem_cons_self ..)) (paired_maps f k l fun y hy => h y (List.mem_cons_of_mem _ hy))
theorem paired_at {α β : Type} {F : α → β → Prop} : ∀ {xs : List α} {ys : List β}, Paired F xs ys → ∀ {i : Nat} {x : α}, xs[i]? = some x → ∃ y, ys[i]? = some y ∧ F x y
  | _, _, .nil, i, x, h => by simp at h
  | _, _, .cons r _, 0, x, h => by
    have e := Option.some.inj h
    subst e
    exact ⟨_, rfl, r⟩
  | _, _, .cons _ t, i + 1, x, h => paired_at t h
theorem isPair_uniq {h : Heap} {v : Value} {x y x' y' : Int} (p : Srt.IsPair h v x y) (q : Srt.IsPair h v x' y') : x = x' ∧ y = y' := by
  obtain ⟨a, o, t, u, n, e, ho, hc, hd⟩ := p
  obtain ⟨a', o', t', u', n', e', ho', hc', hd'⟩ := q
  subst e
  cases e'
  rw [ho] at ho'
  cases ho'
  rw [hd] at hd'
  injection hd' with e1 e2
  injection e1 with e1
  injection e1 with e3 e4
  injection e4 with e4 e5
  injection e3 with e3
  injection e4 with e4
  exact ⟨e3, e4⟩
theorem cr_sortedItK (hc : X.calm = true) : CallR X (.builtin "sorted") rSortItK := by
  intro pins s σ H xs us Q I r h
  obtain ⟨p, a, ps, rfl, hp, ha, q⟩ := h
  obtain rfl := Vals.ref1 r
  have view : s.heap.IsItemsView p a := (show ObjOk X.prog X.w H s.heap p (L2.DX.itemsO p a) from I.hok p _ hp).1
  obtain ⟨hz, hs0, vs, kv, hdo⟩ := I.hok a _ ha
  obtain ⟨es, ep, ⟨o, ho, hx, hdat⟩, hsz, he⟩ := hdo.raw
  have l1 : (ps.map entI).length = vs.length := Paired.length kv
  have l0 : (ps.map entI).length = ps.length := List.length_map _
  have hh : X.A.handled = none := I.ok.hd hc
  refine DT.sortedI (es := es) (ep := ep) hh view ⟨o, ho, hx, hdat⟩ (by omega) fun h' tk as hk hlt hl hG => ?_
  have lak : as.length = ps.length := by omega
  have nd : as.Nodup := List.Pairwise.imp (fun h => Nat.ne_of_lt h) hG.rise
  have pr : ∀ (j : Nat) (b : Addr), as[j]? = some b → ∃ (e : Int × Int) (t u : Tok), ps[j]? = some e ∧ h'.get? b = some { cls := .type "tuple", data := .seq #[Value.int e.1 t, Value.int e.2 u] } := by
    intro j b hj
    obtain ⟨en, e1, hg⟩ := hG.pairs j b hj
    obtain ⟨hi, e2⟩ := Array.getElem?_eq_some_iff.mp e1
    have hjp : j < ps.length := by omega
    have h3 : (ps.map entI)[j]? = some (entI ps[j]) := by rw [List.getElem?_map, List.getElem?_eq_getElem hjp]; rfl
    obtain ⟨y, h4, h5, h6⟩ := paired_at kv h3
    obtain ⟨h7, h8⟩ := he j hi y.1 y.2 h4
    rw [e2] at h7 h8
    rw [← h5] at h7
    obtain ⟨t, e3⟩ : RelV (V.int ps[j].1) en.key := relV_key (k := Sum.inl ps[j].1) h7
    obtain ⟨u, e4⟩ : RelV (V.int ps[j].2) y.2 := h6
    refine ⟨ps[j], t, u, List.getElem?_eq_getElem hjp, ?_⟩
    rw [hg, e3, h8, e4]
  have hob : (h'.push { cls := .type "list", data := .seq (as.map Value.ref).toArray }).get? h'.objs.size = some (seqObj "list" (as.map Value.ref).toArray 0) := Heap.get?_push_size _ rfl
  have kb : ∀ b o, s.heap.get? b = some o → (h'.push { cls := .type "list", data := .seq (as.map Value.ref).toArray }).get? b = some o := fun b o e => Heap.get?_push_of_some _ (hk b o e)
  have ne0 : ∀ b o, h'.get? b = some o → b ≠ h'.objs.size := fun b o e => Nat.ne_of_lt (Heap.lt_size e)
  generalize hh2 : h'.push { cls := .type "list", data := .seq (as.map Value.ref).toArray } = h2 at hob kb ⊢
  have ka : ∀ b o, h'.get? b = some o → h2.get? b = some o := fun b o e => by rw [← hh2]; exact Heap.get?_push_of_some _ e
  have at_ : ∀ v ∈ as.map Value.ref, ∃ (j : Nat) (b : Addr) (e : Int × Int), v = .ref b ∧ as[j]? = some b ∧ ps[j]? = some e ∧ Srt.IsPair h2 v e.1 e.2 := by
    intro v hv'
    obtain ⟨b, hb, rfl⟩ := List.mem_map.mp hv'
    obtain ⟨j, hj⟩ := List.mem_iff_getElem?.mp hb
    obtain ⟨e, t, u, hpe, hg⟩ := pr j b hj
    exact ⟨j, b, e, rfl, hj, hpe, b, _, t, u, 0, rfl, ka _ _ hg, rfl, rfl⟩
  obtain ⟨k, hk2⟩ : ∃ k : Value → Int × Int, ∀ v ∈ as.map Value.ref, Srt.IsPair h2 v (k v).1 (k v).2 := by
    classical
    refine ⟨fun v => if h : ∃ q : Int × Int, Srt.IsPair h2 v q.1 q.2 then Classical.choose h else (0, 0), fun v hv => ?_⟩
    obtain ⟨j, b, e, _, _, _, hp'⟩ := at_ v hv
    have hex : ∃ q : Int × Int, Srt.IsPair h2 v q.1 q.2 := ⟨e, hp'⟩
    dsimp only
    rw [dif_pos hex]
    exact Classical.choose_spec hex
  have hkj : ∀ (j : Nat) (b : Addr) (e : Int × Int), as[j]? = some b → ps[j]? = some e → k (.ref b) = e := by
    intro j b e hj hje
    have hm : Value.ref b ∈ as.map Value.ref := List.mem_map.mpr ⟨b, List.mem_of_getElem? hj, rfl⟩
    obtain ⟨e', t, u, hpe, hg⟩ := pr j b hj
    rw [hje] at hpe
    cases hpe
    have h1 : Srt.IsPair h2 (.ref b) e.1 e.2 := ⟨b, _, t, u, 0, rfl, ka _ _ hg, rfl, rfl⟩
    obtain ⟨z1, z2⟩ := isPair_uniq (hk2 _ hm) h1
    exact Prod.ext z1 z2
  have hlv : (as.map Value.ref).length ≤ sizeLine := by rw [List.length_map]; omega
  refine wpAny_call_entry PyProof.Rows.slot_list_sort ⟨_, hob, rfl⟩ PyProof.Rows.entry_list_sort
    (SrtO.list_sort_ord (s := { s with heap := h2, toks := tk }) (SrtO.swo_lex k) hob hlv (fun h2' => SrtO.pairs_sortableO (s := { s with heap := h2, toks := tk }) (by omega) hk2 fun o e => ?_) fun out o3 o2 => ⟨.none, rfl, ?_⟩) (PyProof.Rows.args_list_sort _)
  · have e' : some o = some (seqObj "list" (as.map Value.ref).toArray 0) := e.symm.trans hob
    cases e'
    intro c
    exact absurd (Value.type.inj c) (by decide)
  · show EP X pins σ Q (.ref h'.objs.size) { s with heap := sortedHeap h2 h'.objs.size (as.map Value.ref) out.toArray, toks := tk }
    have kF : ∀ b o, b ≠ h'.objs.size → h2.get? b = some o → (sortedHeap h2 h'.objs.size (as.map Value.ref) out.toArray).get? b = some o := fun b o hb e => (PyProof.Rows.sortedHeap_old hb (Heap.lt_size e)).trans e
    have kS : ∀ b o, s.heap.get? b = some o → (sortedHeap h2 h'.objs.size (as.map Value.ref) out.toArray).get? b = some o := fun b o e => kF b o (ne0 _ _ (hk b o e)) (kb b o e)
    obtain ⟨eF, heF⟩ := PyProof.Rows.sortedHeap_at (vs := as.map Value.ref) (out := out.toArray) hob
    have I1 : Inv X pins σ H { s with heap := sortedHeap h2 h'.objs.size (as.map Value.ref) out.toArray, toks := tk } := I.kept (t' := tk) kS
    have hn0 : H h'.objs.size = none := I.hok.fresh (Nat.le_of_lt hlt)
    -- the addresses of what stands in out
    let f : Value → Addr := fun v => match v with | .ref b => b | _ => 0
    have hout : ∀ v ∈ out, ∃ b, v = Value.ref b ∧ b ∈ as := fun v hv => by
      obtain ⟨b, hb, e⟩ := List.mem_map.mp (o2.perm.mem_iff.mp hv)
      exact ⟨b, e.symm, hb⟩
    have eout : out = (out.map f).map Value.ref := by
      rw [List.map_map]
      refine (List.map_congr_left fun v hv => ?_).trans (List.map_id _) |>.symm
      obtain ⟨b, rfl, _⟩ := hout v hv
      rfl
    have hlen : ((out.map f).map V.ref).length ≤ sizeLine := by
      have e := o2.perm.length_eq
      rw [List.length_map] at e
      rw [List.length_map, List.length_map]
      omega
    have rv : Vals ((out.map f).map V.ref) out := by
      have e2 : Vals ((out.map f).map V.ref) ((out.map f).map Value.ref) := vals_maps (fun z : Addr => V.ref z) (fun z => Value.ref z) _ fun _ _ => rfl
      rw [← eout] at e2
      exact e2
    have I2 : Inv X pins σ (upd H h'.objs.size (.lst ((out.map f).map V.ref))) { s with heap := sortedHeap h2 h'.objs.size (as.map Value.ref) out.toArray, toks := tk } :=
      I1.take (h' := sortedHeap h2 h'.objs.size (as.map Value.ref) out.toArray) (t' := tk) (fun b ob _ e => e) (I.fpOk (Nat.le_of_lt hlt) hn0) ⟨hlen, out, eF, rv, heF⟩
    obtain ⟨H2, I3, g, qt⟩ := L2.DX.takeT (P := fun b vs => ∃ (j : Nat) (e : Int × Int), as[j]? = some b ∧ ps[j]? = some e ∧ vs = [.int e.1, .int e.2]) I as _ I2 nd fun b hb => by
      obtain ⟨j, hj⟩ := List.mem_iff_getElem?.mp hb
      obtain ⟨e, t, u, he', hg⟩ := pr j b hj
      have hbl : s.heap.objs.size ≤ b := Nat.le_of_lt (hG.above b hb)
      refine ⟨hbl, ?_, [.int e.1, .int e.2], ⟨j, e, hj, he', rfl⟩, fun H3 => ⟨(by rw [sizeLine_eq]; show 2 ≤ 16777216; omega), [Value.int e.1 t, Value.int e.2 u], .cons ⟨t, rfl⟩ (.cons ⟨u, rfl⟩ .nil), ⟨_, kF _ _ (ne0 _ _ hg) (ka _ _ hg), rfl, 0, rfl⟩⟩⟩
      rw [upd_ne (ne0 _ _ hg)]
      exact I.hok.fresh hbl
    have gr : Same H H2 := fun b o e => g b o (by rw [upd_ne (ne_of_none e hn0)]; exact e)
    have hmap : (as.map Value.ref).map k = ps := by
      refine List.ext_getElem? fun j => ?_
      rw [List.map_map, List.getElem?_map]
      cases hj : as[j]? with
      | none =>
        have : as.length ≤ j := List.getElem?_eq_none_iff.mp hj
        rw [List.getElem?_eq_none (by omega)]
        rfl
      | some b =>
        obtain ⟨e, _, _, he', _⟩ := pr j b hj
        rw [he']
        exact congrArg some (hkj j b e hj he')
    refine ⟨.ref h'.objs.size, H2, I3, rfl, q H2 h'.objs.size (out.map f) (out.map k) gr hn0 ?_ ?_ (g _ _ upd_same) ?_⟩
    · rw [← hmap]
      exact o2.perm.map k
    · rw [List.pairwise_map]
      refine List.Pairwise.imp (fun {x y} h => ?_) o3
      have z := SrtO.lexB_no.mp h
      omega
    · refine paired_maps f k out fun v hv => ?_
      obtain ⟨b, rfl, hb⟩ := hout v hv
      obtain ⟨vs', ⟨j, e, j1, j2, ev⟩, hH⟩ := qt b hb
      rw [hkj j b e j1 j2, ← ev]
      exact hH
end
end My
/-! ### the tactics: go1 one step, go as far as it goes; lk: what stands at an address -/
local macro_rules | `(tactic| walk_at "lk") => `(tactic| first
  | assumption
  | exact L2.upd_same
  | (refine My.lk_ne ?_ (by assumption); walk_at "lk")
  | (refine (show L2.Same _ _ by assumption) _ _ ?_; walk_at "lk"))
local macro_rules | `(tactic| walk_at "sm") => `(tactic| first
  | assumption
  | exact L2.Same.refl _
  | exact My.same_new (by assumption)
  | (refine L2.Same.trans ?_ (My.same_new (by assumption)); walk_at "sm")
  | (refine L2.Same.trans ?_ (show L2.Same _ _ by assumption); walk_at "sm"))
local macro_rules | `(tactic| walk_at "sq") => `(tactic| first
  | assumption
  | (refine L2.SqL.of ?_; walk_at "lk")
  | (refine L2.SqT.of ?_; walk_at "lk"))
local macro_rules | `(tactic| walk_at "go0") => `(tactic| first
  | (with_reducible refine' My.g_var ?h ?q; (case h => with_unfolding_all rfl))
  | with_reducible refine My.g_c ?_
  | with_reducible refine My.g_op ?_
  | with_reducible refine My.g_seq ?_
  | with_reducible refine My.g_set ?_
  | with_reducible refine My.g_cons ?_
  | with_reducible refine My.g_nil ?_
  | with_reducible refine My.g_call ?_
  | with_reducible refine My.r_plus ?_
  | with_reducible refine My.r_int ?_
  | (with_reducible refine' My.r_intC ?c ?q; (case c => walk_at "side"))
  | with_reducible refine My.g_CB ?_
  | with_reducible refine My.g_test ?_
  | with_reducible refine My.g_blI ?_
  | with_reducible refine My.g_bl ?_
  | with_reducible refine My.g_ret ?_
  | with_reducible refine My.g_tup ?_
  | with_reducible refine My.g_next ?_
  | with_reducible refine My.r_eqI ?_
  | with_reducible refine My.g_drop ?_
  | with_reducible refine My.g_bm ?_
  | with_reducible refine My.g_gcons ?_
  | with_reducible refine My.g_gname ?_
  | with_reducible refine My.g_gnil ?_
  | with_reducible refine My.g_asg ?_
  | with_reducible refine My.g_and ?_
  | with_reducible refine My.g_or ?_
  | with_reducible refine My.g_B ?_
  | with_reducible refine My.g_not ?_
  | with_reducible refine My.g_lst ?_
  | with_reducible refine My.r_isN ?_
  | with_reducible refine My.g_T ?_
  | with_reducible refine My.g_F ?_
  | with_reducible refine My.g_brk ?_
  | with_reducible refine My.g_cont ?_
  | with_reducible refine My.g_retN ?_
  | with_reducible refine My.g_un ?_
  | with_reducible refine My.r_U ?_
  | with_reducible refine My.r_neI ?_
  | with_reducible refine My.r_notN ?_
  | with_reducible refine My.g_andV ?_
  | with_reducible refine My.g_orV ?_
  | with_reducible refine My.g_notV ?_
  | with_reducible refine My.g_ifE ?_
  | with_reducible refine My.g_chain ?_
  | with_reducible refine My.g_fld ?_
  | with_reducible refine My.g_fldS ?_
  | with_reducible refine My.g_sl ?_
  | with_reducible refine My.g_part ?_
  | with_reducible refine My.g_nopart ?_
  | with_reducible refine My.g_partI ?_
  | with_reducible refine My.g_ipI ?_
  | with_reducible refine My.g_nT ?_
  | with_reducible refine My.g_nF ?_
  | with_reducible refine My.g_bm0 ?_
  | with_reducible refine My.g_dnew ?_
  | with_reducible refine My.g_dput ?_
  | with_reducible refine My.g_revL ?_
  | (with_reducible refine' My.g_aug ?h ?q; (case h => with_unfolding_all rfl)))
local macro_rules | `(tactic| walk_at "side") => `(tactic| first
  | decide
  | with_reducible exact My.cdiv_ok (by decide) (by decide)
  | with_reducible exact My.cmul_r (by decide) (by decide)
  | with_reducible exact My.cmul_l (by decide) (by decide)
  | ((with_reducible refine My.cdiv_ok ?_ ?_) <;> omega)
  | ((with_reducible refine My.cmul_r ?_ ?_) <;> omega)
  | ((with_reducible refine My.cmul_l ?_ ?_) <;> omega)
  | exact My.cpow_ok (by omega) (by omega) (by decide)
  | (show (0 : Int) < _; omega))
local macro_rules | `(tactic| walk_at "go1") => `(tactic| first | (walk_at "go0") | with_reducible refine My.g_ifS ?_)
local macro_rules | `(tactic| walk_at "gos") => `(tactic| repeat (walk_at "go0"))
local macro_rules | `(tactic| walk_at "sz") => `(tactic| exact Nat.le_of_ble_eq_true rfl)
local macro_rules | `(tactic| walk_at "go") => `(tactic| repeat (walk_at "go1"))

namespace NS
open PySem PySem.Spec PyProof.Rows L2 My
def top (i : Nat) : Stmt := PySem.Challenge.pw_rentroll_k07_owed_in_spans.main.body.getD i (.Pass ⟨0, 0, 0, 0⟩)
abbrev s_is_whole : Stmt := top 9
abbrev s_is_within : Stmt := top 10
abbrev s_check_day : Stmt := top 11
abbrev s_month_days : Stmt := top 12
abbrev s_month_of : Stmt := top 13
abbrev s_day_of : Stmt := top 14
abbrev s_is_leap : Stmt := top 15
abbrev s_length : Stmt := top 16
abbrev s_year_start : Stmt := top 17
abbrev s_in_order : Stmt := top 19
abbrev s_spans : Stmt := top 20
abbrev s_pair_held : Stmt := top 22
abbrev s_held : Stmt := top 23
abbrev s_rent_on : Stmt := top 25
abbrev s_part : Stmt := top 26
abbrev s_owed : Stmt := top 27
abbrev s_parts : Stmt := top 28
abbrev s_parts_through : Stmt := top 29
abbrev s_l_cell_at : Stmt := top 31
abbrev s_l_mix : Stmt := top 32
abbrev s_l_base : Stmt := top 33
abbrev s_l_money : Stmt := top 34
abbrev s_l_number : Stmt := top 35
abbrev s_l_steps : Stmt := top 36
abbrev s_l_gauges : Stmt := top 37
abbrev s_l_months : Stmt := top 38
abbrev s_law : Stmt := top 39
abbrev N_is_whole : List Str := ["thing"]
theorem sc_is_whole : FnScope N_is_whole ["thing"] (defScope s_is_whole) := ⟨rfl, rfl, rfl, by decide +kernel, rfl, by decide +kernel, by decide +kernel⟩
abbrev N_is_within : List Str := ["thing", "low", "high"]
theorem sc_is_within : FnScope N_is_within ["thing", "low", "high"] (defScope s_is_within) := ⟨rfl, rfl, rfl, by decide +kernel, rfl, by decide +kernel, by decide +kernel⟩
abbrev N_check_day : List Str := ["day"]
theorem sc_check_day : FnScope N_check_day ["day"] (defScope s_check_day) := ⟨rfl, rfl, rfl, by decide +kernel, rfl, by decide +kernel, by decide +kernel⟩
abbrev N_month_days : List Str := ["year", "month"]
theorem sc_month_days : FnScope N_month_days ["year", "month"] (defScope s_month_days) := ⟨rfl, rfl, rfl, by decide +kernel, rfl, by decide +kernel, by decide +kernel⟩
abbrev N_month_of : List Str := ["day", "year", "number", "month"]
theorem sc_month_of : FnScope N_month_of ["day"] (defScope s_month_of) := ⟨rfl, rfl, rfl, by decide +kernel, rfl, by decide +kernel, by decide +kernel⟩
abbrev N_day_of : List Str := ["year", "month", "number", "ahead", "earlier", "day"]
theorem sc_day_of : FnScope N_day_of ["year", "month", "number"] (defScope s_day_of) := ⟨rfl, rfl, rfl, by decide +kernel, rfl, by decide +kernel, by decide +kernel⟩
abbrev N_is_leap : List Str := ["year"]
theorem sc_is_leap : FnScope N_is_leap ["year"] (defScope s_is_leap) := ⟨rfl, rfl, rfl, by decide +kernel, rfl, by decide +kernel, by decide +kernel⟩
abbrev N_length : List Str := ["year", "month"]
theorem sc_length : FnScope N_length ["year", "month"] (defScope s_length) := ⟨rfl, rfl, rfl, by decide +kernel, rfl, by decide +kernel, by decide +kernel⟩
abbrev N_year_start : List Str := ["year", "years", "leaps"]
theorem sc_year_start : FnScope N_year_start ["year"] (defScope s_year_start) := ⟨rfl, rfl, rfl, by decide +kernel, rfl, by decide +kernel, by decide +kernel⟩
abbrev N_in_order : List Str := ["terms", "values", "first", "value"]
theorem sc_in_order : FnScope N_in_order ["terms"] (defScope s_in_order) := ⟨rfl, rfl, rfl, by decide +kernel, rfl, by decide +kernel, by decide +kernel⟩
abbrev N_spans : List Str := ["terms", "first", "last", "found", "end", "pair", "begin"]
theorem sc_spans : FnScope N_spans ["terms", "first", "last"] (defScope s_spans) := ⟨rfl, rfl, rfl, by decide +kernel, rfl, by decide +kernel, by decide +kernel⟩
abbrev N_pair_held : List Str := ["terms", "day", "best", "pair"]
theorem sc_pair_held : FnScope N_pair_held ["terms", "day"] (defScope s_pair_held) := ⟨rfl, rfl, rfl, by decide +kernel, rfl, by decide +kernel, by decide +kernel⟩
abbrev N_held : List Str := ["terms", "day", "pair"]
theorem sc_held : FnScope N_held ["terms", "day"] (defScope s_held) := ⟨rfl, rfl, rfl, by decide +kernel, rfl, by decide +kernel, by decide +kernel⟩
abbrev N_rent_on : List Str := ["steps", "gauges", "day", "step"]
theorem sc_rent_on : FnScope N_rent_on ["steps", "gauges", "day"] (defScope s_rent_on) := ⟨rfl, rfl, rfl, by decide +kernel, rfl, by decide +kernel, by decide +kernel⟩
abbrev N_part : List Str := ["rent", "day", "year", "month", "number", "many"]
theorem sc_part : FnScope N_part ["rent", "day"] (defScope s_part) := ⟨rfl, rfl, rfl, by decide +kernel, rfl, by decide +kernel, by decide +kernel⟩
abbrev N_owed : List Str := ["steps", "gauges", "first", "last", "total", "begin", "end", "step", "told_in", "start", "stop", "gauge", "rent"]
theorem sc_owed : FnScope N_owed ["steps", "gauges", "first", "last"] (defScope s_owed) := ⟨rfl, rfl, rfl, by decide +kernel, rfl, by decide +kernel, by decide +kernel⟩
abbrev N_parts : List Str := ["rent", "first", "last", "year", "month", "number", "ahead"]
theorem sc_parts : FnScope N_parts ["rent", "first", "last"] (defScope s_parts) := ⟨rfl, rfl, rfl, by decide +kernel, rfl, by decide +kernel, by decide +kernel⟩
abbrev N_parts_through : List Str := ["rent", "year", "month", "number", "months"]
theorem sc_parts_through : FnScope N_parts_through ["rent", "year", "month", "number"] (defScope s_parts_through) := ⟨rfl, rfl, rfl, by decide +kernel, rfl, by decide +kernel, by decide +kernel⟩
abbrev N_l_cell_at : List Str := ["_law_script", "_law_k"]
theorem sc_l_cell_at : FnScope N_l_cell_at ["_law_script", "_law_k"] (defScope s_l_cell_at) := ⟨rfl, rfl, rfl, by decide +kernel, rfl, by decide +kernel, by decide +kernel⟩
abbrev N_l_mix : List Str := ["_law_number_here", "_law_k", "_law_more"]
theorem sc_l_mix : FnScope N_l_mix ["_law_number_here", "_law_k"] (defScope s_l_mix) := ⟨rfl, rfl, rfl, by decide +kernel, rfl, by decide +kernel, by decide +kernel⟩
abbrev N_l_base : List Str := ["_law_cell", "_law_near"]
theorem sc_l_base : FnScope N_l_base ["_law_cell"] (defScope s_l_base) := ⟨rfl, rfl, rfl, by decide +kernel, rfl, by decide +kernel, by decide +kernel⟩
abbrev N_l_money : List Str := ["_law_cell"]
theorem sc_l_money : FnScope N_l_money ["_law_cell"] (defScope s_l_money) := ⟨rfl, rfl, rfl, by decide +kernel, rfl, by decide +kernel, by decide +kernel⟩
abbrev N_l_number : List Str := ["_law_cell"]
theorem sc_l_number : FnScope N_l_number ["_law_cell"] (defScope s_l_number) := ⟨rfl, rfl, rfl, by decide +kernel, rfl, by decide +kernel, by decide +kernel⟩
abbrev N_l_steps : List Str := ["_law_cell", "_law_base_here", "_law_wide", "_law_steps_here", "_law_k", "_law_more"]
theorem sc_l_steps : FnScope N_l_steps ["_law_cell", "_law_base_here", "_law_wide"] (defScope s_l_steps) := ⟨rfl, rfl, rfl, by decide +kernel, rfl, by decide +kernel, by decide +kernel⟩
abbrev N_l_gauges : List Str := ["_law_cell", "_law_base_here", "_law_wide", "_law_gauges_here", "_law_k", "_law_more"]
theorem sc_l_gauges : FnScope N_l_gauges ["_law_cell", "_law_base_here", "_law_wide"] (defScope s_l_gauges) := ⟨rfl, rfl, rfl, by decide +kernel, rfl, by decide +kernel, by decide +kernel⟩
abbrev N_l_months : List Str := ["_law_cell", "_law_other", "_law_begin", "_law_many", "_law_end", "_law_rent", "_law_first", "_law_last"]
theorem sc_l_months : FnScope N_l_months ["_law_cell", "_law_other"] (defScope s_l_months) := ⟨rfl, rfl, rfl, by decide +kernel, rfl, by decide +kernel, by decide +kernel⟩
abbrev N_law : List Str := ["_law_script", "_law_base_here", "_law_far", "_law_steps_here", "_law_gauges_here", "_law_days", "_law_k", "_law_one", "_law_other", "_law_whole"]
theorem sc_law : FnScope N_law ["_law_script"] (defScope s_law) := ⟨rfl, rfl, rfl, by decide +kernel, rfl, by decide +kernel, by decide +kernel⟩
structure Txt (K : PySem.W.Frag) (mg : Str → Option Value) where
  f_is_whole : Addr
  fd_is_whole : FuncData
  F_is_whole : Fun K "is_whole" "is_whole" s_is_whole f_is_whole fd_is_whole
  b_is_whole : Binds K fd_is_whole ["thing"] []
  g_is_whole : mg "is_whole" = some (.ref f_is_whole)
  f_is_within : Addr
  fd_is_within : FuncData
  F_is_within : Fun K "is_within" "is_within" s_is_within f_is_within fd_is_within
  b_is_within : Binds K fd_is_within ["thing", "low", "high"] []
  g_is_within : mg "is_within" = some (.ref f_is_within)
  f_check_day : Addr
  fd_check_day : FuncData
  F_check_day : Fun K "check_day" "check_day" s_check_day f_check_day fd_check_day
  b_check_day : Binds K fd_check_day ["day"] []
  g_check_day : mg "check_day" = some (.ref f_check_day)
  f_month_days : Addr
  fd_month_days : FuncData
  F_month_days : Fun K "month_days" "month_days" s_month_days f_month_days fd_month_days
  b_month_days : Binds K fd_month_days ["year", "month"] []
  g_month_days : mg "month_days" = some (.ref f_month_days)
  f_month_of : Addr
  fd_month_of : FuncData
  F_month_of : Fun K "month_of" "month_of" s_month_of f_month_of fd_month_of
  b_month_of : Binds K fd_month_of ["day"] []
  g_month_of : mg "month_of" = some (.ref f_month_of)
  f_day_of : Addr
  fd_day_of : FuncData
  F_day_of : Fun K "day_of" "day_of" s_day_of f_day_of fd_day_of
  b_day_of : Binds K fd_day_of ["year", "month", "number"] []
  g_day_of : mg "day_of" = some (.ref f_day_of)
  f_is_leap : Addr
  fd_is_leap : FuncData
  F_is_leap : Fun K "_is_leap" "_is_leap" s_is_leap f_is_leap fd_is_leap
  b_is_leap : Binds K fd_is_leap ["year"] []
  g_is_leap : mg "_is_leap" = some (.ref f_is_leap)
  f_length : Addr
  fd_length : FuncData
  F_length : Fun K "_length" "_length" s_length f_length fd_length
  b_length : Binds K fd_length ["year", "month"] []
  g_length : mg "_length" = some (.ref f_length)
  f_year_start : Addr
  fd_year_start : FuncData
  F_year_start : Fun K "_year_start" "_year_start" s_year_start f_year_start fd_year_start
  b_year_start : Binds K fd_year_start ["year"] []
  g_year_start : mg "_year_start" = some (.ref f_year_start)
  f_in_order : Addr
  fd_in_order : FuncData
  F_in_order : Fun K "in_order" "in_order" s_in_order f_in_order fd_in_order
  b_in_order : Binds K fd_in_order ["terms"] []
  g_in_order : mg "in_order" = some (.ref f_in_order)
  f_spans : Addr
  fd_spans : FuncData
  F_spans : Fun K "spans" "spans" s_spans f_spans fd_spans
  b_spans : Binds K fd_spans ["terms", "first", "last"] []
  g_spans : mg "spans" = some (.ref f_spans)
  f_pair_held : Addr
  fd_pair_held : FuncData
  F_pair_held : Fun K "pair_held" "pair_held" s_pair_held f_pair_held fd_pair_held
  b_pair_held : Binds K fd_pair_held ["terms", "day"] []
  g_pair_held : mg "pair_held" = some (.ref f_pair_held)
  f_held : Addr
  fd_held : FuncData
  F_held : Fun K "held" "held" s_held f_held fd_held
  b_held : Binds K fd_held ["terms", "day"] []
  g_held : mg "held" = some (.ref f_held)
  f_rent_on : Addr
  fd_rent_on : FuncData
  F_rent_on : Fun K "rent_on" "rent_on" s_rent_on f_rent_on fd_rent_on
  b_rent_on : Binds K fd_rent_on ["steps", "gauges", "day"] []
  g_rent_on : mg "rent_on" = some (.ref f_rent_on)
  f_part : Addr
  fd_part : FuncData
  F_part : Fun K "part" "part" s_part f_part fd_part
  b_part : Binds K fd_part ["rent", "day"] []
  g_part : mg "part" = some (.ref f_part)
  f_owed : Addr
  fd_owed : FuncData
  F_owed : Fun K "owed" "owed" s_owed f_owed fd_owed
  b_owed : Binds K fd_owed ["steps", "gauges", "first", "last"] []
  g_owed : mg "owed" = some (.ref f_owed)
  f_parts : Addr
  fd_parts : FuncData
  F_parts : Fun K "_parts" "_parts" s_parts f_parts fd_parts
  b_parts : Binds K fd_parts ["rent", "first", "last"] []
  g_parts : mg "_parts" = some (.ref f_parts)
  f_parts_through : Addr
  fd_parts_through : FuncData
  F_parts_through : Fun K "_parts_through" "_parts_through" s_parts_through f_parts_through fd_parts_through
  b_parts_through : Binds K fd_parts_through ["rent", "year", "month", "number"] []
  g_parts_through : mg "_parts_through" = some (.ref f_parts_through)
  f_l_cell_at : Addr
  fd_l_cell_at : FuncData
  F_l_cell_at : Fun K "_law_cell_at" "_law_cell_at" s_l_cell_at f_l_cell_at fd_l_cell_at
  b_l_cell_at : Binds K fd_l_cell_at ["_law_script", "_law_k"] []
  g_l_cell_at : mg "_law_cell_at" = some (.ref f_l_cell_at)
  f_l_mix : Addr
  fd_l_mix : FuncData
  F_l_mix : Fun K "_law_mix" "_law_mix" s_l_mix f_l_mix fd_l_mix
  b_l_mix : Binds K fd_l_mix ["_law_number_here", "_law_k"] []
  g_l_mix : mg "_law_mix" = some (.ref f_l_mix)
  f_l_base : Addr
  fd_l_base : FuncData
  F_l_base : Fun K "_law_base" "_law_base" s_l_base f_l_base fd_l_base
  b_l_base : Binds K fd_l_base ["_law_cell"] []
  g_l_base : mg "_law_base" = some (.ref f_l_base)
  f_l_money : Addr
  fd_l_money : FuncData
  F_l_money : Fun K "_law_money" "_law_money" s_l_money f_l_money fd_l_money
  b_l_money : Binds K fd_l_money ["_law_cell"] []
  g_l_money : mg "_law_money" = some (.ref f_l_money)
  f_l_number : Addr
  fd_l_number : FuncData
  F_l_number : Fun K "_law_number" "_law_number" s_l_number f_l_number fd_l_number
  b_l_number : Binds K fd_l_number ["_law_cell"] []
  g_l_number : mg "_law_number" = some (.ref f_l_number)
  f_l_steps : Addr
  fd_l_steps : FuncData
  F_l_steps : Fun K "_law_steps" "_law_steps" s_l_steps f_l_steps fd_l_steps
  b_l_steps : Binds K fd_l_steps ["_law_cell", "_law_base_here", "_law_wide"] []
  g_l_steps : mg "_law_steps" = some (.ref f_l_steps)
  f_l_gauges : Addr
  fd_l_gauges : FuncData
  F_l_gauges : Fun K "_law_gauges" "_law_gauges" s_l_gauges f_l_gauges fd_l_gauges
  b_l_gauges : Binds K fd_l_gauges ["_law_cell", "_law_base_here", "_law_wide"] []
  g_l_gauges : mg "_law_gauges" = some (.ref f_l_gauges)
  f_l_months : Addr
  fd_l_months : FuncData
  F_l_months : Fun K "_law_months" "_law_months" s_l_months f_l_months fd_l_months
  b_l_months : Binds K fd_l_months ["_law_cell", "_law_other"] []
  g_l_months : mg "_law_months" = some (.ref f_l_months)
  f_law : Addr
  fd_law : FuncData
  F_law : Fun K "law" "law" s_law f_law fd_law
  b_law : Binds K fd_law ["_law_script"] []
  g_law : mg "law" = some (.ref f_law)
  c_RentError : Addr
  g_RentError : mg "RentError" = some (.ref c_RentError)
  c_BadDay : Addr
  g_BadDay : mg "BadDay" = some (.ref c_BadDay)
  x_BadDay : PySem.W.excIn K c_BadDay [.type "ValueError", .type "Exception", .type "BaseException", .type "object"] "ValueError.__new__" = true
  k_BadDay : PySem.W.keepIn K (.ref c_BadDay) = true
  s_BadDay : PySem.W.subIn K (.ref c_BadDay) (.type "BaseException") = some true
  t_BadDay : PySem.W.typeIn K (.ref c_BadDay) = some (.type "type")
  tk_FIRST_YEAR : Tok
  g_FIRST_YEAR : mg "FIRST_YEAR" = some (.int 2000 tk_FIRST_YEAR)
  tk_LAST_YEAR : Tok
  g_LAST_YEAR : mg "LAST_YEAR" = some (.int 2273 tk_LAST_YEAR)
  tk_LAST_DAY : Tok
  g_LAST_DAY : mg "LAST_DAY" = some (.int 99999 tk_LAST_DAY)
  tk_LONGEST_YEAR : Tok
  g_LONGEST_YEAR : mg "LONGEST_YEAR" = some (.int 366 tk_LONGEST_YEAR)
  a_LENGTHS : Addr
  g_LENGTHS : mg "LENGTHS" = some (.ref a_LENGTHS)
  q_LENGTHS : ∀ H : Hp, SqT K H a_LENGTHS [.int 31, .int 28, .int 31, .int 30, .int 31, .int 30, .int 31, .int 31, .int 30, .int 31, .int 30, .int 31]
  n_isinstance : mg "isinstance" = none
  n_int : mg "int" = none
  n_bool : mg "bool" = none
  n_sum : mg "sum" = none
  n_range : mg "range" = none
  n_sorted : mg "sorted" = none
  n_reversed : mg "reversed" = none
  n_max : mg "max" = none
  n_len : mg "len" = none
  n_min : mg "min" = none

def isI : V → Bool
  | .int _ => true
  | _ => false
def isB : V → Bool
  | .bl _ => true
  | _ => false
def thing (H : Hp) : V → Prop
  | .int _ => True
  | .bl _ => True
  | .str _ => True
  | .non => True
  | .ref a => ∃ xs, H a = some (.tup xs)
  | _ => False
theorem thing_ty {K : PySem.W.Frag} {H : Hp} {x : V} (h : thing H x) : ∃ n : String, TyX K H x (.type n) ∧ kitB n "int" = some (isI x || isB x) ∧ kitB n "bool" = some (isB x) := by
  cases x with
  | int i => exact ⟨"int", .base (.int i), (by decide +kernel : kitB "int" "int" = some true), (by decide +kernel : kitB "int" "bool" = some false)⟩
  | bl i => exact ⟨"bool", .base (.bl i), (by decide +kernel : kitB "bool" "int" = some true), (by decide +kernel : kitB "bool" "bool" = some true)⟩
  | str i => exact ⟨"str", .base (.str i), (by decide +kernel : kitB "str" "int" = some false), (by decide +kernel : kitB "str" "bool" = some false)⟩
  | non => exact ⟨"NoneType", .base .non, by decide +kernel, by decide +kernel⟩
  | ref a => obtain ⟨xs, e⟩ := h; exact ⟨"tuple", .base (.tup e), (by decide +kernel : kitB "tuple" "int" = some false), (by decide +kernel : kitB "tuple" "bool" = some false)⟩
  | _ => exact h.elim
theorem thing_same {H H' : Hp} {x : V} (e : Same H H') (h : thing H x) : thing H' x := by
  cases x with
  | ref a => obtain ⟨xs, q⟩ := h; exact ⟨xs, e _ _ q⟩
  | _ => exact h
theorem isI_not {x : V} (h : isB x = true) : isI x = false := by
  cases x <;> first | rfl | cases h
def within (x : V) (lo hi : Int) : Bool := match x with
  | .int i => decide (lo ≤ i) && decide (i ≤ hi)
  | _ => false
def sp_is_whole : Sp := fun vs H Q _ => ∃ x, vs = [x] ∧ thing H x ∧ Q (.bl (isI x)) H
theorem at0 {x : V} {r : List V} : atI (x :: r) 0 = some x := atI_nat (j := 0) rfl
theorem at1 {x y : V} {r : List V} : atI (x :: y :: r) 1 = some y := atI_nat (j := 1) rfl
theorem at2 {x y z : V} {r : List V} : atI (x :: y :: z :: r) 2 = some z := atI_nat (j := 2) rfl

def sp_is_within : Sp := fun vs H Q _ => ∃ x lo hi, vs = [x, .int lo, .int hi] ∧ thing H x ∧ Q (.bl (within x lo hi)) H
def leap (y : Int) : Bool := if y % 100 = 0 then decide (y % 400 = 0) else decide (y % 4 = 0)
def lens : List Int := [31, 28, 31, 30, 31, 30, 31, 31, 30, 31, 30, 31]
def mlen (y m : Int) : Int := if m = 2 ∧ leap y = true then 29 else lens.getD (m - 1).toNat 0
def sp_is_leap : Sp := fun vs H Q _ => ∃ y, vs = [.int y] ∧ Q (.bl (leap y)) H
def sp_length : Sp := fun vs H Q _ => ∃ y m, vs = [.int y, .int m] ∧ 1 ≤ m ∧ m ≤ 12 ∧ Q (.int (mlen y m)) H
theorem at_lens {m : Int} (h1 : 1 ≤ m) (h2 : m ≤ 12) : atI (lens.map V.int) (m - 1) = some (.int (lens.getD (m - 1).toNat 0)) := by
  obtain rfl | rfl | rfl | rfl | rfl | rfl | rfl | rfl | rfl | rfl | rfl | rfl : m = 1 ∨ m = 2 ∨ m = 3 ∨ m = 4 ∨ m = 5 ∨ m = 6 ∨ m = 7 ∨ m = 8 ∨ m = 9 ∨ m = 10 ∨ m = 11 ∨ m = 12 := by omega
  all_goals rfl
theorem leap_eq (y : Int) : (decide (y % 4 = 0) && (decide (0 < y % 100) || decide (y % 400 = 0))) = leap y := by
  unfold leap
  by_cases h : y % 100 = 0
  · rw [if_pos h]
    by_cases h4 : y % 400 = 0
    · have : y % 4 = 0 := by omega
      simp [h4, this]
    · simp [h4, h]
  · rw [if_neg h]
    have : 0 < y % 100 := by omega
    simp [this]
def isdate (x y : V) : Bool := within x 2000 2273 && within y 1 12
def sp_month_days (C : Addr) : Sp := fun vs H Q E => ∃ x y, vs = [x, y] ∧ thing H x ∧ thing H y ∧
  (∀ i m, x = .int i → y = .int m → isdate x y = true → Q (.int (mlen i m)) H) ∧ (isdate x y = false → E (.ref C) none H)
def ystart (y : Int) : Int := 365 * (y - 2000) + ((y - 2000 + 3) / 4 - (y - 2000 + 99) / 100 + (y - 2000 + 399) / 400)
def ylen (y : Int) : Int := 365 + if leap y = true then 1 else 0
theorem ystart_succ (y : Int) : ystart (y + 1) = ystart y + ylen y := by
  unfold ystart ylen leap
  by_cases h : y % 100 = 0
  · rw [if_pos h]
    by_cases h4 : y % 400 = 0
    · simp only [h4, decide_true, if_pos]; omega
    · simp only [h4, decide_false, Bool.false_eq_true, if_false]; omega
  · rw [if_neg h]
    by_cases h4 : y % 4 = 0
    · simp only [h4, decide_true, if_pos]; omega
    · simp only [h4, decide_false, Bool.false_eq_true, if_false]; omega
theorem ystart_le {a b : Int} (h : a ≤ b) : ystart a ≤ ystart b := by unfold ystart; omega
theorem ystart_nn {a : Int} (h : 2000 ≤ a) : 0 ≤ ystart a := by unfold ystart; omega
theorem ystart_guess {d : Int} (h : 0 ≤ d) : ystart (2000 + d / 366) ≤ d := by unfold ystart; omega
def cum : List Int := [0, 31, 59, 90, 120, 151, 181, 212, 243, 273, 304, 334, 365]
def mstart (y m : Int) : Int := cum.getD (m - 1).toNat 0 + if 2 < m ∧ leap y = true then 1 else 0
theorem month12 {m : Int} (h1 : 1 ≤ m) (h2 : m ≤ 12) : m = 1 ∨ m = 2 ∨ m = 3 ∨ m = 4 ∨ m = 5 ∨ m = 6 ∨ m = 7 ∨ m = 8 ∨ m = 9 ∨ m = 10 ∨ m = 11 ∨ m = 12 := by omega
theorem mstart_succ {y m : Int} (h1 : 1 ≤ m) (h2 : m ≤ 12) : mstart y (m + 1) = mstart y m + mlen y m := by
  unfold mstart mlen
  cases leap y <;> rcases month12 h1 h2 with rfl | rfl | rfl | rfl | rfl | rfl | rfl | rfl | rfl | rfl | rfl | rfl <;> decide
theorem mstart_one (y : Int) : mstart y 1 = 0 := by
  unfold mstart
  cases leap y <;> decide
theorem mstart_end (y : Int) : mstart y 12 + mlen y 12 = ylen y := by
  unfold mstart mlen ylen
  cases leap y <;> decide
theorem mlen_pos {y m : Int} (h1 : 1 ≤ m) (h2 : m ≤ 12) : 28 ≤ mlen y m ∧ mlen y m ≤ 31 := by
  unfold mlen
  cases leap y <;> rcases month12 h1 h2 with rfl | rfl | rfl | rfl | rfl | rfl | rfl | rfl | rfl | rfl | rfl | rfl <;> decide
theorem mstart_le {y m : Int} (h1 : 1 ≤ m) : ∀ n : Nat, m + n ≤ 13 → mstart y m ≤ mstart y (m + n)
  | 0, _ => by rw [show m + ((0 : Nat) : Int) = m by omega]; exact Int.le_refl _
  | n + 1, h => by
    have ih := mstart_le (y := y) h1 n (by omega)
    have e := mstart_succ (y := y) (m := m + n) (by omega) (by omega)
    have p := mlen_pos (y := y) (m := m + n) (by omega) (by omega)
    rw [show m + ((n + 1 : Nat) : Int) = m + n + 1 by omega]
    omega
theorem mstart_mono {y m n : Int} (h1 : 1 ≤ m) (h2 : m ≤ n) (h3 : n ≤ 13) : mstart y m ≤ mstart y n := by
  have h := mstart_le (y := y) h1 (n - m).toNat (by omega)
  rw [show m + (((n - m).toNat : Nat) : Int) = n by omega] at h
  exact h
structure IsDate (d y m k : Int) : Prop where
  y1 : 2000 ≤ y
  m1 : 1 ≤ m
  m2 : m ≤ 12
  k1 : 1 ≤ k
  k2 : k ≤ mlen y m
  eq : d = ystart y + mstart y m + k - 1
theorem IsDate.inYear {d y m k : Int} (h : IsDate d y m k) : ystart y ≤ d ∧ d < ystart (y + 1) := by
  have e := ystart_succ y
  have e2 := mstart_end y
  have e3 := mstart_mono (y := y) h.m1 (show m ≤ m from Int.le_refl _) (by have := h.m2; omega)
  have e4 : mstart y 1 ≤ mstart y m := mstart_mono (by omega) h.m1 (by have := h.m2; omega)
  rw [mstart_one] at e4
  have e5 : mstart y (m + 1) ≤ mstart y 13 := mstart_mono (by have := h.m1; omega) (by have := h.m2; omega) (by omega)
  have e6 := mstart_succ (y := y) h.m1 h.m2
  have e7 : mstart y 13 = mstart y 12 + mlen y 12 := mstart_succ (y := y) (m := 12) (by omega) (by omega)
  have := h.k1
  have := h.k2
  have := h.eq
  omega
theorem IsDate.yle {d y m k : Int} (h : IsDate d y m k) (hd : d ≤ 99999) : y ≤ 2273 := by
  by_cases c : y ≤ 2273
  · exact c
  · have e := ystart_le (show 2274 ≤ y by omega)
    have e2 : ystart 2274 = 100077 := by decide
    have := h.inYear.1
    omega
theorem IsDate.uniq {d y m k y' m' k' : Int} (h : IsDate d y m k) (h' : IsDate d y' m' k') : y = y' ∧ m = m' ∧ k = k' := by
  have a := h.inYear
  have b := h'.inYear
  have ey : y = y' := by
    rcases Int.lt_trichotomy y y' with c | c | c
    · have := ystart_le (show y + 1 ≤ y' by omega); omega
    · exact c
    · have := ystart_le (show y' + 1 ≤ y by omega); omega
  subst ey
  have := h.k1; have := h.k2; have := h.eq; have := h.m1; have := h.m2
  have := h'.k1; have := h'.k2; have := h'.eq; have := h'.m1; have := h'.m2
  have em : m = m' := by
    rcases Int.lt_trichotomy m m' with c | c | c
    · have q1 := mstart_mono (y := y) (m := m + 1) (n := m') (by omega) (by omega) (by omega)
      have q2 := mstart_succ (y := y) (m := m) (by omega) (by omega)
      omega
    · exact c
    · have q1 := mstart_mono (y := y) (m := m' + 1) (n := m) (by omega) (by omega) (by omega)
      have q2 := mstart_succ (y := y) (m := m') (by omega) (by omega)
      omega
  subst em
  exact ⟨rfl, rfl, by omega⟩
theorem mstart_nn {y m : Int} (h1 : 1 ≤ m) (h2 : m ≤ 13) : 0 ≤ mstart y m := by
  have := mstart_mono (y := y) (m := 1) (n := m) (by omega) h1 h2
  rw [mstart_one] at this
  exact this
theorem mstart_sum (y : Int) : ∀ n : Nat, n ≤ 12 → ((List.range n).map fun (i : Nat) => mlen y (1 + (i : Int))).sum = mstart y (1 + (n : Int))
  | 0, _ => (mstart_one y).symm
  | n + 1, h => by
    have ih := mstart_sum y n (by omega)
    rw [range_more, List.sum_append, ih]
    have e := mstart_succ (y := y) (m := 1 + (n : Int)) (by omega) (by omega)
    rw [show (1 + ((n + 1 : Nat) : Int)) = 1 + (n : Int) + 1 by omega, e]
    simp
def sp_check_day (C : Addr) : Sp := fun vs H Q E => ∃ x, vs = [x] ∧ thing H x ∧ (within x 0 99999 = true → Q .non H) ∧ (within x 0 99999 = false → E (.ref C) none H)
def sp_year_start : Sp := fun vs H Q _ => ∃ y, vs = [.int y] ∧ Q (.int (ystart y)) H
def sp_month_of (C : Addr) : Sp := fun vs H Q E => ∃ x, vs = [x] ∧ thing H x ∧
  (∀ i y m k, x = .int i → 0 ≤ i → i ≤ 99999 → IsDate i y m k → ∀ p, H p = none → Q (.ref p) (upd H p (.tup [.int y, .int m, .int k]))) ∧ (within x 0 99999 = false → E (.ref C) none H)
def dayv (x y z : V) : Option Int := match x, y, z with
  | .int yy, .int mm, .int kk => if isdate (.int yy) (.int mm) = true ∧ 1 ≤ kk ∧ kk ≤ mlen yy mm ∧ ystart yy + mstart yy mm + kk - 1 ≤ 99999 then some (ystart yy + mstart yy mm + kk - 1) else none
  | _, _, _ => none
def sp_day_of (C : Addr) : Sp := fun vs H Q E => ∃ x y z, vs = [x, y, z] ∧ thing H x ∧ thing H y ∧ thing H z ∧
  (∀ d, dayv x y z = some d → ∀ H', Same H H' → Q (.int d) H') ∧ (dayv x y z = none → ∀ H', Same H H' → E (.ref C) none H')
theorem within_int {x : V} {lo hi : Int} (h : within x lo hi = true) : ∃ i, x = .int i ∧ lo ≤ i ∧ i ≤ hi := by
  cases x with
  | int i =>
    simp only [within, Bool.and_eq_true, decide_eq_true_eq] at h
    exact ⟨i, rfl, h⟩
  | _ => cases h
theorem isdate_ints {x y : V} (h : isdate x y = true) : ∃ i m, x = .int i ∧ y = .int m ∧ 2000 ≤ i ∧ i ≤ 2273 ∧ 1 ≤ m ∧ m ≤ 12 := by
  simp only [isdate, Bool.and_eq_true] at h
  obtain ⟨i, rfl, h1, h2⟩ := within_int h.1
  obtain ⟨m, rfl, h3, h4⟩ := within_int h.2
  exact ⟨i, m, rfl, rfl, h1, h2, h3, h4⟩
theorem dayv_no {x y z : V} (h : isdate x y = false) : dayv x y z = none := by
  cases x <;> cases y <;> cases z <;> first | rfl | (unfold dayv; exact if_neg fun q => by rw [h] at q; exact Bool.false_ne_true q.1)
theorem dayv_yes {d y m k : Int} (h : IsDate d y m k) (hd : d ≤ 99999) : dayv (.int y) (.int m) (.int k) = some d := by
  have hy := h.yle hd
  have e : isdate (.int y) (.int m) = true := by simp only [isdate, within, Bool.and_eq_true, decide_eq_true_eq]; exact ⟨⟨h.y1, hy⟩, h.m1, h.m2⟩
  have he := h.eq
  exact (if_pos ⟨e, h.k1, h.k2, by omega⟩).trans (congrArg some he.symm)
theorem dayv_noz {i m : Int} {z : V} (h : within z 1 (mlen i m) = false) : dayv (.int i) (.int m) z = none := by
  cases z <;> first | rfl | skip
  rename_i k
  unfold dayv
  refine if_neg fun q => ?_
  have : within (.int k) 1 (mlen i m) = true := by simp only [within, Bool.and_eq_true, decide_eq_true_eq]; exact ⟨q.2.1, q.2.2.1⟩
  rw [h] at this
  exact Bool.false_ne_true this
def cell (ns : List Int) (k : Int) : Int := ns.getD k.toNat 0
def sp_l_cell_at (K : PySem.W.Frag) : Sp := fun vs H Q _ => ∃ (a : Addr) (ns : List Int) (k : Int), vs = [.ref a, .int k] ∧ SqL K H a (ns.map V.int) ∧ 0 ≤ k ∧ Q (.int (cell ns k)) H
def sp_l_whole : Sp := sp_is_whole
def sp_law (K : PySem.W.Frag) : Sp := fun vs H Q _ => ∃ (a : Addr) (ns : List Int), vs = [.ref a] ∧ SqL K H a (ns.map V.int) ∧ ns.length ≤ 63 ∧ ∀ H', Q (.bl true) H'
/-- the objects as are pairs of ints ps, all of them -/
inductive Prs (K : PySem.W.Frag) (H : Hp) : List Addr → List (Int × Int) → Prop
  | nil : Prs K H [] []
  | cons {a : Addr} {p : Int × Int} {as : List Addr} {ps : List (Int × Int)} : SqT K H a [.int p.1, .int p.2] → Prs K H as ps → Prs K H (a :: as) (p :: ps)
theorem Prs.one {K : PySem.W.Frag} {H : Hp} {a : Addr} {x y : Int} (h : SqT K H a [.int x, .int y]) : Prs K H [a] [(x, y)] := .cons h .nil
theorem sqT_ty {K : PySem.W.Frag} {H : Hp} {a : Addr} {xs : List V} (h : SqT K H a xs) : TyX K H (.ref a) (.type "tuple") := by
  rcases h with (h | ⟨o, h⟩) | ⟨o, its, n, h, c, _⟩
  · exact .base (.tup h)
  · exact .fTuple h
  · exact .kTuple h c
theorem Prs.len {K : PySem.W.Frag} {H : Hp} : ∀ {as : List Addr} {ps : List (Int × Int)}, Prs K H as ps → as.length = ps.length
  | _, _, .nil => rfl
  | _, _, .cons _ t => by simp [Prs.len t]
theorem Prs.same {K : PySem.W.Frag} {H H' : Hp} (e : Same H H') : ∀ {as : List Addr} {ps : List (Int × Int)}, Prs K H as ps → Prs K H' as ps
  | _, _, .nil => .nil
  | _, _, .cons h t => .cons (same_sqT e h) (Prs.same e t)
theorem Prs.get {K : PySem.W.Frag} {H : Hp} : ∀ {as : List Addr} {ps : List (Int × Int)} {i : Nat} {p : Int × Int}, Prs K H as ps → ps[i]? = some p → ∃ a, as[i]? = some a ∧ SqT K H a [.int p.1, .int p.2]
  | _, _, 0, _, .cons h _, e => by simp at e; subst e; exact ⟨_, rfl, h⟩
  | _, _, i + 1, _, .cons _ t, e => by obtain ⟨a, h1, h2⟩ := Prs.get (i := i) t (by simpa using e); exact ⟨a, by simpa using h1, h2⟩
  | _, _, _, _, .nil, e => by simp at e
theorem Prs.append {K : PySem.W.Frag} {H : Hp} {bs : List Addr} {qs : List (Int × Int)} (t2 : Prs K H bs qs) : ∀ {as : List Addr} {ps : List (Int × Int)}, Prs K H as ps → Prs K H (as ++ bs) (ps ++ qs)
  | _, _, .nil => t2
  | _, _, .cons h t => .cons h (Prs.append t2 t)
theorem Prs.drop1 {K : PySem.W.Frag} {H : Hp} {as : List Addr} {ps : List (Int × Int)} (h : Prs K H as ps) : Prs K H (as.drop 1) (ps.drop 1) := by
  cases h with
  | nil => exact .nil
  | cons h t => exact t
/-- a list that is changed is no pair -/
theorem sqT_mut {K : PySem.W.Frag} {H : Hp} {a l : Addr} {xs ys : List V} {o : HO} (hl : H l = some (.lst xs)) (h : SqT K H a ys) : SqT K (upd H l o) a ys := by
  rcases h with (h | ⟨o', h⟩) | h
  · exact .inl (.inl (by rw [upd_ne (ne_of h hl (by intro q; cases q))]; exact h))
  · exact .inl (.inr ⟨o', by rw [upd_ne (ne_of h hl (by intro q; cases q))]; exact h⟩)
  · exact .inr h
theorem Prs.mut {K : PySem.W.Frag} {H : Hp} {l : Addr} {xs : List V} {o : HO} (hl : H l = some (.lst xs)) : ∀ {as : List Addr} {ps : List (Int × Int)}, Prs K H as ps → Prs K (upd H l o) as ps
  | _, _, .nil => .nil
  | _, _, .cons h t => .cons (sqT_mut hl h) (Prs.mut hl t)
theorem cut1 (xs : List V) : cutV xs (some 1) none = xs.drop 1 := by
  unfold cutV
  rw [HT.sIx_none, show HT.sIx xs.length 0 (some 1) = min 1 xs.length from HT.sIx_nat xs.length 0 1]
  cases xs with
  | nil => rfl
  | cons x r =>
    have e : min 1 (x :: r).length = 1 := by simp
    rw [e]
    simp
/-- a list or a tuple l of such pairs -/
def RowAt (K : PySem.W.Frag) (H : Hp) (l : Addr) (as : List Addr) (ps : List (Int × Int)) : Prop := (SqL K H l (as.map .ref) ∨ SqT K H l (as.map .ref)) ∧ Prs K H as ps
theorem RowAt.same {K : PySem.W.Frag} {H H' : Hp} {l : Addr} {as : List Addr} {ps : List (Int × Int)} (e : Same H H') (h : RowAt K H l as ps) : RowAt K H' l as ps := ⟨h.1.imp (fun x => e.seq x) (fun x => same_sqT e x), h.2.same e⟩
theorem RowAt.get {K : PySem.W.Frag} {H : Hp} {l : Addr} {as : List Addr} {ps : List (Int × Int)} {i : Nat} (h : RowAt K H l as ps) (hi : i < ps.length) : ∃ a p, as[i]? = some a ∧ ps[i]? = some p ∧ SqT K H a [.int p.1, .int p.2] := by
  have hp : ps[i]? = some ps[i] := List.getElem?_eq_getElem hi
  obtain ⟨a, h1, h2⟩ := h.2.get hp
  exact ⟨a, _, h1, hp, h2⟩
/-- a list l of such pairs -/
def RowL (K : PySem.W.Frag) (H : Hp) (l : Addr) (as : List Addr) (ps : List (Int × Int)) : Prop := SqL K H l (as.map .ref) ∧ Prs K H as ps
theorem RowL.q {K : PySem.W.Frag} {H : Hp} {l : Addr} {as : List Addr} {ps : List (Int × Int)} (h : RowL K H l as ps) : RowAt K H l as ps := ⟨.inl h.1, h.2⟩
theorem RowL.same {K : PySem.W.Frag} {H H' : Hp} {l : Addr} {as : List Addr} {ps : List (Int × Int)} (e : Same H H') (h : RowL K H l as ps) : RowL K H' l as ps := ⟨e.seq h.1, h.2.same e⟩
def dpair (p : Int × Int) : PyData := .tuple [.int p.1, .int p.2]
theorem dpair_at {K : PySem.W.Frag} {H : Hp} {a : Addr} {p : Int × Int} (h : SqT K H a [.int p.1, .int p.2]) : Dp K H (.ref a) (dpair p) := .tup h (.cons (.int _) (.cons (.int _) .nil))
theorem Prs.dp {K : PySem.W.Frag} {H : Hp} : ∀ {as : List Addr} {ps : List (Int × Int)}, Prs K H as ps → DpAll K H (as.map .ref) (ps.map dpair)
  | _, _, .nil => .nil
  | _, _, .cons h t => .cons (dpair_at h) (Prs.dp t)
theorem RowL.dp {K : PySem.W.Frag} {H : Hp} {l : Addr} {as : List Addr} {ps : List (Int × Int)} (h : RowL K H l as ps) : Dp K H (.ref l) (.list (ps.map dpair)) := .lst h.1 h.2.dp
theorem pairs_lay : ∀ ps : List (Int × Int), PyData.canLayAll0 (ps.map dpair) = true
  | [] => rfl
  | p :: ps => by
    show (PyData.canLay0 (dpair p) && PyData.canLayAll0 (ps.map dpair)) = true
    rw [pairs_lay ps]
    rfl
theorem row_lay (ps : List (Int × Int)) : PyData.canLay0 (.list (ps.map dpair)) = true := pairs_lay ps
theorem pairs_depth : ∀ ps : List (Int × Int), PyData.depthAll (ps.map dpair) ≤ 1
  | [] => Nat.zero_le _
  | p :: ps => by
    show max (PyData.depth (dpair p)) (PyData.depthAll (ps.map dpair)) ≤ 1
    have h1 := pairs_depth ps
    have h2 : PyData.depth (dpair p) = 1 := rfl
    omega
theorem row_shaped (ps : List (Int × Int)) : SeqAt.shaped (.list (ps.map dpair)) = true := by
  unfold SeqAt.shaped
  rw [row_lay]
  have h : PyData.depth (.list (ps.map dpair)) = PyData.depthAll (ps.map dpair) + 1 := rfl
  have h1 := pairs_depth ps
  rw [h, decide_eq_true (by omega)]
  rfl
/-- the place of the pair that holds on a day, of the first n -/
def bestStep (ps : List (Int × Int)) (day : Int) (b : Option Nat) (i : Nat) : Option Nat := match b with
  | none => if (ps.getD i (0, 0)).1 ≤ day then some i else none
  | some j => if (ps.getD i (0, 0)).1 ≤ day ∧ (ps.getD j (0, 0)).1 ≤ (ps.getD i (0, 0)).1 then some i else some j
def bestN (ps : List (Int × Int)) (day : Int) : Nat → Option Nat
  | 0 => none
  | n + 1 => bestStep ps day (bestN ps day n) n
def best (ps : List (Int × Int)) (day : Int) : Option Nat := bestN ps day ps.length
theorem bestN_lt {ps : List (Int × Int)} {day : Int} : ∀ {n j : Nat}, bestN ps day n = some j → j < n
  | 0, j, h => by cases h
  | n + 1, j, h => by
    unfold bestN at h
    cases e : bestN ps day n with
    | none =>
      rw [e] at h
      unfold bestStep at h
      dsimp only at h
      split at h
      · cases h; omega
      · cases h
    | some i =>
      rw [e] at h
      unfold bestStep at h
      dsimp only at h
      have := bestN_lt e
      split at h <;> (cases h; omega)
theorem best_lt {ps : List (Int × Int)} {day : Int} {j : Nat} (h : best ps day = some j) : j < ps.length := bestN_lt h
def heldV (ps : List (Int × Int)) (day : Int) : Option Int := (best ps day).map fun j => (ps.getD j (0, 0)).2
/-- the pair, the value, as Python has them -/
def pairV (as : List Addr) : Option Nat → V
  | none => .non
  | some j => .ref (as.getD j 0)
def optV : Option Int → V
  | none => .non
  | some i => .int i
theorem getD_of {α : Type} {l : List α} {i : Nat} {x d : α} (h : l[i]? = some x) : l.getD i d = x := by rw [List.getD, h]; rfl
def sp_pair_held (K : PySem.W.Frag) : Sp := fun vs H Q _ => ∃ l day as ps, vs = [.ref l, .int day] ∧ RowAt K H l as ps ∧ Q (pairV as (best ps day)) H
def sp_held (K : PySem.W.Frag) : Sp := fun vs H Q _ => ∃ l day as ps, vs = [.ref l, .int day] ∧ RowAt K H l as ps ∧ Q (optV (heldV ps day)) H
/-! ### which pair holds, told by the last pairs of each first -/
theorem bestN_some {ps : List (Int × Int)} {day : Int} : ∀ {n j : Nat}, bestN ps day n = some j → (ps.getD j (0, 0)).1 ≤ day ∧ ∀ i, i < n → (ps.getD i (0, 0)).1 ≤ day → (ps.getD i (0, 0)).1 ≤ (ps.getD j (0, 0)).1 ∧ ((ps.getD i (0, 0)).1 = (ps.getD j (0, 0)).1 → i ≤ j)
  | 0, j, h => by cases h
  | n + 1, j, h => by
    unfold bestN at h
    cases e : bestN ps day n with
    | none =>
      rw [e] at h
      unfold bestStep at h
      dsimp only at h
      have hn := @bestN_none ps day n e
      split at h
      · cases h
        rename_i c
        refine ⟨c, fun i hi c2 => ?_⟩
        by_cases q : i = n
        · subst q; exact ⟨Int.le_refl _, fun _ => Nat.le_refl _⟩
        · exact absurd c2 (by have := hn i (by omega); omega)
      · cases h
    | some b =>
      rw [e] at h
      unfold bestStep at h
      dsimp only at h
      obtain ⟨b1, b2⟩ := bestN_some e
      have bl := bestN_lt e
      split at h
      · cases h
        rename_i c
        refine ⟨c.1, fun i hi c2 => ?_⟩
        by_cases q : i = n
        · subst q; exact ⟨Int.le_refl _, fun _ => Nat.le_refl _⟩
        · have z := b2 i (by omega) c2
          exact ⟨by omega, fun _ => by omega⟩
      · cases h
        rename_i c
        refine ⟨b1, fun i hi c2 => ?_⟩
        by_cases q : i = n
        · subst q
          have : ¬ (ps.getD j (0, 0)).1 ≤ (ps.getD i (0, 0)).1 := fun z => c ⟨c2, z⟩
          exact ⟨by omega, fun _ => by omega⟩
        · exact b2 i (by omega) c2
where
  bestN_none {ps : List (Int × Int)} {day : Int} : ∀ {n : Nat}, bestN ps day n = none → ∀ i, i < n → day < (ps.getD i (0, 0)).1
  | 0, _, i, hi => absurd hi (Nat.not_lt_zero i)
  | n + 1, h, i, hi => by
    unfold bestN at h
    cases e : bestN ps day n with
    | none =>
      rw [e] at h
      unfold bestStep at h
      dsimp only at h
      split at h
      · cases h
      · rename_i c
        by_cases q : i = n
        · subst q; omega
        · exact bestN_none e i (by omega)
    | some b =>
      rw [e] at h
      unfold bestStep at h
      dsimp only at h
      split at h <;> cases h
def bestN_none {ps : List (Int × Int)} {day : Int} {n : Nat} (h : bestN ps day n = none) : ∀ i, i < n → day < (ps.getD i (0, 0)).1 := bestN_some.bestN_none h
/-- the pair that holds -/
def pairH (ps : List (Int × Int)) (day : Int) : Option (Int × Int) := (best ps day).map fun j => ps.getD j (0, 0)
theorem heldV_pair (ps : List (Int × Int)) (day : Int) : heldV ps day = (pairH ps day).map (·.2) := by
  unfold heldV pairH
  cases best ps day <;> rfl
/-- the pairs that a dict keeps of a row -/
def dput (q : List (Int × Int)) (p : Int × Int) : List (Int × Int) := if q.any (fun x => decide (x.1 = p.1)) then q.map (fun x => if x.1 = p.1 then p else x) else q ++ [p]
def dlast (ps : List (Int × Int)) : List (Int × Int) := ps.foldl dput []
theorem dlast_snoc (ps : List (Int × Int)) (p : Int × Int) : dlast (ps ++ [p]) = dput (dlast ps) p := by rw [dlast, List.foldl_append]; rfl
theorem mem_dput {q : List (Int × Int)} {p x : Int × Int} : x ∈ dput q p ↔ x = p ∨ (x.1 ≠ p.1 ∧ x ∈ q) := by
  unfold dput
  by_cases h : q.any (fun x => decide (x.1 = p.1)) = true
  · rw [if_pos h, List.mem_map]
    constructor
    · rintro ⟨y, hy, e⟩
      split at e
      · exact .inl e.symm
      · rename_i c
        subst e
        exact .inr ⟨c, hy⟩
    · rintro (rfl | ⟨c, hx⟩)
      · obtain ⟨y, hy, e⟩ := List.any_eq_true.mp h
        exact ⟨y, hy, if_pos (of_decide_eq_true e)⟩
      · exact ⟨x, hx, if_neg c⟩
  · rw [if_neg h, List.mem_append, List.mem_singleton]
    constructor
    · rintro (hx | rfl)
      · refine .inr ⟨fun c => h (List.any_eq_true.mpr ⟨x, hx, decide_eq_true c⟩), hx⟩
      · exact .inl rfl
    · rintro (rfl | ⟨_, hx⟩)
      · exact .inr rfl
      · exact .inl hx
theorem dput_nodup {q : List (Int × Int)} {p : Int × Int} (h : (q.map (·.1)).Nodup) : ((dput q p).map (·.1)).Nodup := by
  unfold dput
  by_cases c : q.any (fun x => decide (x.1 = p.1)) = true
  · rw [if_pos c, List.map_map]
    have e : ((fun x : Int × Int => x.1) ∘ fun x => if x.1 = p.1 then p else x) = fun x => x.1 := by
      funext x
      show (if x.1 = p.1 then p else x).1 = x.1
      split
      · rename_i z; exact z.symm
      · rfl
    rw [e]
    exact h
  · rw [if_neg c, List.map_append]
    refine List.nodup_append.mpr ⟨h, by simp, fun a ha b hb => ?_⟩
    rintro rfl
    obtain ⟨x, hx, e⟩ := List.mem_map.mp ha
    have hb' : a = p.1 := by simpa using hb
    exact c (List.any_eq_true.mpr ⟨x, hx, decide_eq_true (e.trans hb')⟩)
theorem dput_len {q : List (Int × Int)} {p : Int × Int} : (dput q p).length ≤ q.length + 1 := by
  unfold dput
  split
  · rw [List.length_map]; omega
  · rw [List.length_append]; exact Nat.le_refl _
theorem dlast_take {ps : List (Int × Int)} {i : Nat} {p : Int × Int} (h : ps[i]? = some p) : dlast (ps.take (i + 1)) = dput (dlast (ps.take i)) p := by
  rw [List.take_add_one, h]
  exact dlast_snoc _ _
theorem dlast_nodup (ps : List (Int × Int)) : ∀ n, ((dlast (ps.take n)).map (·.1)).Nodup
  | 0 => by simp [dlast]
  | n + 1 => by
    cases h : ps[n]? with
    | none => rw [List.take_add_one, h]; simpa using dlast_nodup ps n
    | some p => rw [dlast_take h]; exact dput_nodup (dlast_nodup ps n)
theorem dlast_len (ps : List (Int × Int)) : ∀ n, (dlast (ps.take n)).length ≤ n
  | 0 => by simp [dlast]
  | n + 1 => by
    cases h : ps[n]? with
    | none => rw [List.take_add_one, h]; have := dlast_len ps n; simpa using (by omega : (dlast (ps.take n)).length ≤ n + 1)
    | some p => rw [dlast_take h]; exact Nat.le_trans dput_len (by have := dlast_len ps n; omega)
theorem mem_dlast {ps : List (Int × Int)} {x : Int × Int} : ∀ n, x ∈ dlast (ps.take n) ↔ ∃ j, j < n ∧ ps[j]? = some x ∧ ∀ i p, j < i → i < n → ps[i]? = some p → p.1 ≠ x.1
  | 0 => by simp [dlast]
  | n + 1 => by
    have ih := mem_dlast (ps := ps) (x := x) n
    cases h : ps[n]? with
    | none =>
      rw [List.take_add_one, h]
      simp only [Option.toList_none, List.append_nil]
      rw [ih]
      have hn : ps.length ≤ n := List.getElem?_eq_none_iff.mp h
      constructor
      · rintro ⟨j, h1, h2, h3⟩
        refine ⟨j, by omega, h2, fun i p a b c => h3 i p a ?_ c⟩
        have := (List.getElem?_eq_some_iff.mp c).1
        omega
      · rintro ⟨j, h1, h2, h3⟩
        have := (List.getElem?_eq_some_iff.mp h2).1
        exact ⟨j, by omega, h2, fun i p a b c => h3 i p a (by omega) c⟩
    | some p =>
      rw [dlast_take h, mem_dput, ih]
      constructor
      · rintro (rfl | ⟨c, j, h1, h2, h3⟩)
        · exact ⟨n, by omega, h, fun i p a b _ => absurd a (by omega)⟩
        · refine ⟨j, by omega, h2, fun i p' a b q => ?_⟩
          by_cases e : i = n
          · subst e
            rw [h] at q
            cases q
            exact fun z => c z.symm
          · exact h3 i p' a (by omega) q
      · rintro ⟨j, h1, h2, h3⟩
        by_cases e : j = n
        · subst e
          rw [h] at h2
          cases h2
          exact .inl rfl
        · exact .inr ⟨fun z => h3 n p (by omega) (by omega) h z.symm, j, by omega, h2, fun i p' a b q => h3 i p' a (by omega) q⟩
theorem dlast_all (ps : List (Int × Int)) : dlast (ps.take ps.length) = dlast ps := by rw [List.take_length]
theorem mem_row {ps : List (Int × Int)} {x : Int × Int} (h : x ∈ dlast ps) : x ∈ ps := by
  rw [← dlast_all, mem_dlast] at h
  obtain ⟨j, _, h2, _⟩ := h
  exact List.mem_of_getElem? h2
theorem pairH_some {ps : List (Int × Int)} {day : Int} {x : Int × Int} (h : pairH ps day = some x) : x ∈ dlast ps ∧ x.1 ≤ day ∧ ∀ y, y ∈ ps → y.1 ≤ day → y.1 ≤ x.1 := by
  unfold pairH at h
  cases e : best ps day with
  | none => rw [e] at h; cases h
  | some j =>
    rw [e] at h
    have h' : ps.getD j (0, 0) = x := Option.some.inj h
    have hl := best_lt e
    obtain ⟨h1, h2⟩ := bestN_some e
    have hx : ps[j]? = some x := by rw [← h', List.getD, List.getElem?_eq_getElem hl]; rfl
    rw [h'] at h1 h2
    refine ⟨?_, h1, fun y hy c => ?_⟩
    · rw [← dlast_all, mem_dlast]
      refine ⟨j, hl, hx, fun i p a b c z => ?_⟩
      have gp : ps.getD i (0, 0) = p := getD_of c
      have q := h2 i b (by rw [gp]; omega)
      rw [gp] at q
      have := q.2 z
      omega
    · obtain ⟨i, hi⟩ := List.mem_iff_getElem?.mp hy
      have gp : ps.getD i (0, 0) = y := getD_of hi
      have q := h2 i (List.getElem?_eq_some_iff.mp hi).1 (by rw [gp]; exact c)
      rw [gp] at q
      exact q.1
theorem pairH_none {ps : List (Int × Int)} {day : Int} (h : pairH ps day = none) : ∀ y, y ∈ ps → day < y.1 := by
  intro y hy
  unfold pairH at h
  cases e : best ps day with
  | some j => rw [e] at h; cases h
  | none =>
    obtain ⟨i, hi⟩ := List.mem_iff_getElem?.mp hy
    have gp : ps.getD i (0, 0) = y := getD_of hi
    have q := bestN_none e i (List.getElem?_eq_some_iff.mp hi).1
    rw [gp] at q
    exact q
/-- of pairs by falling firsts the first one that has begun -/
def holdR : List (Int × Int) → Int → Option (Int × Int)
  | [], _ => none
  | p :: r, d => if p.1 ≤ d then some p else holdR r d
theorem holdR_none {d : Int} : ∀ {R : List (Int × Int)}, (∀ x, x ∈ R → d < x.1) → holdR R d = none
  | [], _ => rfl
  | p :: r, h => by
    rw [holdR, if_neg (by have := h p (List.mem_cons_self ..); omega)]
    exact holdR_none fun x hx => h x (List.mem_cons_of_mem _ hx)
theorem holdR_some {d : Int} {p : Int × Int} : ∀ {R : List (Int × Int)}, R.Pairwise (fun x y => y.1 < x.1) → p ∈ R → p.1 ≤ d → (∀ x, x ∈ R → x.1 ≤ d → x.1 ≤ p.1) → holdR R d = some p
  | [], _, h, _, _ => by cases h
  | x :: r, hs, hm, hd, h => by
    obtain ⟨s1, s2⟩ := List.pairwise_cons.mp hs
    by_cases c : x.1 ≤ d
    · rw [holdR, if_pos c]
      have q := h x (List.mem_cons_self ..) c
      rcases List.mem_cons.mp hm with e | hr
      · rw [e]
      · have := s1 p hr
        omega
    · rw [holdR, if_neg c]
      rcases List.mem_cons.mp hm with e | hr
      · rw [e] at hd; exact absurd hd c
      · exact holdR_some s2 hr hd fun y hy => h y (List.mem_cons_of_mem _ hy)
structure Desc (R ps : List (Int × Int)) : Prop where
  fall : R.Pairwise (fun x y => y.1 < x.1)
  mem : ∀ x, x ∈ R ↔ x ∈ dlast ps
theorem Desc.hold {R ps : List (Int × Int)} (h : Desc R ps) (d : Int) : holdR R d = pairH ps d := by
  cases e : pairH ps d with
  | none => exact holdR_none fun x hx => pairH_none e x (mem_row ((h.mem x).mp hx))
  | some p =>
    obtain ⟨h1, h2, h3⟩ := pairH_some e
    exact holdR_some h.fall ((h.mem p).mpr h1) h2 fun x hx => h3 x (mem_row ((h.mem x).mp hx))
/-! ### sums over days -/
def isum (f : Int → Int) (a : Int) : Nat → Int
  | 0 => 0
  | n + 1 => isum f a n + f (a + n)
def dsum (f : Int → Int) (a b : Int) : Int := isum f a (b + 1 - a).toNat
theorem isum_congr {f g : Int → Int} {a : Int} : ∀ {n : Nat}, (∀ i : Nat, i < n → f (a + i) = g (a + i)) → isum f a n = isum g a n
  | 0, _ => rfl
  | n + 1, h => by rw [isum, isum, isum_congr (n := n) (fun i hi => h i (by omega)), h n (by omega)]
theorem isum_add {f : Int → Int} {a : Int} (m : Nat) : ∀ n : Nat, isum f a (m + n) = isum f a m + isum f (a + m) n
  | 0 => by simp [isum]
  | n + 1 => by
    rw [← Nat.add_assoc, isum, isum, isum_add m n, show a + ((m + n : Nat) : Int) = a + m + n by omega]
    omega
theorem dsum_empty {f : Int → Int} {a b : Int} (h : b < a) : dsum f a b = 0 := by rw [dsum, show (b + 1 - a).toNat = 0 by omega]; rfl
theorem dsum_congr {f g : Int → Int} {a b : Int} (h : ∀ d, a ≤ d → d ≤ b → f d = g d) : dsum f a b = dsum g a b := isum_congr fun i hi => h _ (by omega) (by omega)
theorem dsum_split {f : Int → Int} {a b : Int} (c : Int) (h1 : a ≤ c) (h2 : c ≤ b + 1) : dsum f a b = dsum f a (c - 1) + dsum f c b := by
  have h := isum_add (f := f) (a := a) (c - a).toNat (b + 1 - c).toNat
  rw [show a + ((c - a).toNat : Int) = c by omega, show (c - a).toNat + (b + 1 - c).toNat = (b + 1 - a).toNat by omega] at h
  rw [dsum, h, dsum, dsum, show c - 1 + 1 - a = c - a by omega]
theorem dsum_const {k a b : Int} (h : a ≤ b + 1) : dsum (fun _ => k) a b = k * (b - a + 1) := by
  have key : ∀ n : Nat, isum (fun _ => k) a n = k * n := by
    intro n
    induction n with
    | zero => simp [isum]
    | succ n ih => rw [isum, ih, Int.natCast_succ, Int.mul_add]; omega
  rw [dsum, key, show ((b + 1 - a).toNat : Int) = b - a + 1 by omega]
theorem dsum_zero {a b : Int} : dsum (fun _ => 0) a b = 0 := by
  by_cases h : a ≤ b + 1
  · rw [dsum_const h, Int.zero_mul]
  · exact dsum_empty (by omega)
theorem dsum_succ {f : Int → Int} {a b : Int} (h : a ≤ b + 1) : dsum f a (b + 1) = dsum f a b + f (b + 1) := by
  rw [dsum_split (b + 1) h (by omega), show b + 1 - 1 = b by omega]
  have : dsum f (b + 1) (b + 1) = f (b + 1) := by
    rw [dsum, show (b + 1 + 1 - (b + 1)).toNat = 1 by omega, isum, isum, show b + 1 + ((0 : Nat) : Int) = b + 1 by omega]
    omega
  rw [this]
theorem dsum_one {f : Int → Int} {a : Int} : dsum f a a = f a := by
  rw [dsum, show (a + 1 - a).toNat = 1 by omega, isum, isum, show a + ((0 : Nat) : Int) = a by omega]
  omega
theorem dsum_nonneg {f : Int → Int} {a b : Int} (h : ∀ d, a ≤ d → d ≤ b → 0 ≤ f d) : 0 ≤ dsum f a b := by
  have key : ∀ n : Nat, (∀ i : Nat, i < n → 0 ≤ f (a + i)) → 0 ≤ isum f a n := by
    intro n
    induction n with
    | zero => intro _; exact Int.le_refl _
    | succ n ih => intro h; have h1 := ih (fun i hi => h i (by omega)); have h2 := h n (by omega); rw [isum]; omega
  exact key _ fun i hi => h _ (by omega) (by omega)
/-! ### spans -/
abbrev Span := Int × Int × Int × Int
def mx (a b : Int) : Int := if b > a then b else a
def spanR : List (Int × Int) → Int → Int → List Span
  | [], _, _ => []
  | p :: r, f, e => if mx p.1 f ≤ e then (mx p.1 f, e, p) :: spanR r f (mx p.1 f - 1) else spanR r f e
theorem mx_le {a b : Int} : a ≤ mx a b ∧ b ≤ mx a b ∧ (mx a b = a ∨ mx a b = b) := by
  unfold mx
  split <;> omega
theorem spanR_in {s : Span} : ∀ {R : List (Int × Int)} {f e : Int}, s ∈ spanR R f e → f ≤ s.1 ∧ s.1 ≤ s.2.1 ∧ s.2.1 ≤ e ∧ s.2.2 ∈ R ∧ s.2.2.1 ≤ s.1
  | [], _, _, h => by cases h
  | p :: r, f, e, h => by
    have m := mx_le (a := p.1) (b := f)
    rw [spanR] at h
    split at h
    · rename_i c
      rcases List.mem_cons.mp h with rfl | h
      · exact ⟨by dsimp only; omega, by dsimp only; omega, by dsimp only; omega, List.mem_cons_self .., by dsimp only; omega⟩
      · obtain ⟨h1, h2, h3, h4, h5⟩ := spanR_in h
        exact ⟨h1, h2, by omega, List.mem_cons_of_mem _ h4, h5⟩
    · obtain ⟨h1, h2, h3, h4, h5⟩ := spanR_in h
      exact ⟨h1, h2, h3, List.mem_cons_of_mem _ h4, h5⟩
def sumS (G : Int × Int → Int → Int) (l : List Span) : Int := (l.map fun s => dsum (G s.2.2) s.1 s.2.1).sum
theorem sumS_cons (G : Int × Int → Int → Int) (s : Span) (l : List Span) : sumS G (s :: l) = dsum (G s.2.2) s.1 s.2.1 + sumS G l := by rw [sumS, List.map_cons, List.sum_cons]; rfl
theorem sumS_snoc (G : Int × Int → Int → Int) (s : Span) (l : List Span) : sumS G (l ++ [s]) = sumS G l + dsum (G s.2.2) s.1 s.2.1 := by rw [sumS, List.map_append, List.sum_append]; simp [sumS]
theorem sumS_rev (G : Int × Int → Int → Int) : ∀ l : List Span, sumS G l.reverse = sumS G l
  | [] => rfl
  | s :: l => by rw [List.reverse_cons, sumS_snoc, sumS_rev G l, sumS_cons]; omega
def holdG (G : Int × Int → Int → Int) (o : Option (Int × Int)) (d : Int) : Int := match o with
  | none => 0
  | some p => G p d
theorem span_sum (G : Int × Int → Int → Int) : ∀ (R : List (Int × Int)) (f e : Int), R.Pairwise (fun x y => y.1 < x.1) → sumS G (spanR R f e) = dsum (fun d => holdG G (holdR R d) d) f e
  | [], f, e, _ => by
    rw [spanR, sumS]
    exact dsum_zero.symm
  | p :: r, f, e, hs => by
    obtain ⟨s1, s2⟩ := List.pairwise_cons.mp hs
    have m := mx_le (a := p.1) (b := f)
    rw [spanR]
    split
    · rename_i c
      rw [sumS_cons, span_sum G r _ _ s2, dsum_split (f := fun d => holdG G (holdR (p :: r) d) d) (mx p.1 f) m.2.1 (by omega)]
      have e1 : dsum (fun d => holdG G (holdR (p :: r) d) d) (mx p.1 f) e = dsum (G p) (mx p.1 f) e := dsum_congr fun d h1 h2 => by
        rw [holdR, if_pos (by omega)]
        rfl
      have e2 : dsum (fun d => holdG G (holdR (p :: r) d) d) f (mx p.1 f - 1) = dsum (fun d => holdG G (holdR r d) d) f (mx p.1 f - 1) := dsum_congr fun d h1 h2 => by
        rw [holdR, if_neg (by omega)]
      rw [e1, e2]
      show dsum (G p) (mx p.1 f) e + _ = _
      omega
    · rename_i c
      rw [span_sum G r _ _ s2]
      refine dsum_congr fun d h1 h2 => ?_
      rw [holdR, if_neg (by omega)]
theorem span_sumH (G : Int × Int → Int → Int) {R ps : List (Int × Int)} (h : Desc R ps) (f e : Int) : sumS G (spanR R f e) = dsum (fun d => holdG G (pairH ps d) d) f e := by
  rw [span_sum G R f e h.fall]
  exact dsum_congr fun d _ _ => by rw [h.hold]
theorem sumS_take {G : Int × Int → Int → Int} {L : List Span} {i : Nat} {s : Span} (h : L[i]? = some s) : sumS G (L.take (i + 1)) = sumS G (L.take i) + dsum (G s.2.2) s.1 s.2.1 := by
  rw [List.take_add_one, h]
  exact sumS_snoc G s _
theorem sumS_nil (G : Int × Int → Int → Int) : sumS G [] = 0 := rfl
theorem span_at {R : List (Int × Int)} {f e : Int} {i : Nat} {s : Span} (h : (spanR R f e).reverse[i]? = some s) : s ∈ spanR R f e := List.mem_reverse.mp (List.mem_of_getElem? h)

theorem ylen_feb (y : Int) : ylen y = 337 + mlen y 2 := by
  unfold ylen mlen
  cases leap y <;> decide
def nextT (t : Int × Int × Int) : Int × Int × Int := if t.2.2 < mlen t.1 t.2.1 then (t.1, t.2.1, t.2.2 + 1) else if t.2.1 < 12 then (t.1, t.2.1 + 1, 1) else (t.1 + 1, 1, 1)
theorem IsDate.next {d y m k : Int} (h : IsDate d y m k) : IsDate (d + 1) (nextT (y, m, k)).1 (nextT (y, m, k)).2.1 (nextT (y, m, k)).2.2 := by
  have e := h.eq; have h1 := h.y1; have h2 := h.m1; have h3 := h.m2; have h4 := h.k1; have h5 := h.k2
  unfold nextT
  dsimp only
  by_cases c : k < mlen y m
  · rw [if_pos c]
    exact ⟨h1, h2, h3, by dsimp only; omega, by dsimp only; omega, by dsimp only; omega⟩
  · rw [if_neg c]
    by_cases c2 : m < 12
    · rw [if_pos c2]
      have q := mstart_succ (y := y) h2 h3
      have q2 := mlen_pos (y := y) (m := m + 1) (by omega) (by omega)
      exact ⟨h1, by dsimp only; omega, by dsimp only; omega, by dsimp only; omega, by dsimp only; omega, by dsimp only; omega⟩
    · rw [if_neg c2]
      have em : m = 12 := by omega
      subst em
      have q := ystart_succ y
      have q2 := mstart_end y
      have q3 := mstart_one (y + 1)
      have q4 := mlen_pos (y := y + 1) (m := 1) (by omega) (by omega)
      exact ⟨by dsimp only; omega, by dsimp only; omega, by dsimp only; omega, by dsimp only; omega, by dsimp only; omega, by dsimp only; omega⟩
/-- the date of a day -/
def dat : Nat → Int × Int × Int
  | 0 => (2000, 1, 1)
  | n + 1 => nextT (dat n)
theorem dat_is : ∀ n : Nat, IsDate (n : Int) (dat n).1 (dat n).2.1 (dat n).2.2
  | 0 => ⟨by decide, by decide, by decide, by decide, by decide, by decide⟩
  | n + 1 => by
    have h := (dat_is n).next
    rw [show ((n + 1 : Nat) : Int) = (n : Int) + 1 by omega]
    exact h
def dyr (d : Int) : Int := (dat d.toNat).1
def dmo (d : Int) : Int := (dat d.toNat).2.1
def dnum (d : Int) : Int := (dat d.toNat).2.2
def dlen (d : Int) : Int := mlen (dyr d) (dmo d)
theorem date_is {d : Int} (h0 : 0 ≤ d) : IsDate d (dyr d) (dmo d) (dnum d) := by
  have h := dat_is d.toNat
  rw [show ((d.toNat : Nat) : Int) = d by omega] at h
  exact h
theorem date_at {d y m k : Int} (h0 : 0 ≤ d) (h : IsDate d y m k) : dyr d = y ∧ dmo d = m ∧ dnum d = k := (date_is h0).uniq h
theorem dlen_at {d y m k : Int} (h0 : 0 ≤ d) (h : IsDate d y m k) : dlen d = mlen y m := by
  obtain ⟨e1, e2, _⟩ := date_at h0 h
  rw [dlen, e1, e2]
theorem dlen_pos {d : Int} (h0 : 0 ≤ d) : 28 ≤ dlen d ∧ dlen d ≤ 31 := mlen_pos (date_is h0).m1 (date_is h0).m2
theorem dnum_in {d : Int} (h0 : 0 ≤ d) : 1 ≤ dnum d ∧ dnum d ≤ dlen d := ⟨(date_is h0).k1, (date_is h0).k2⟩
/-- the part of a rent for a day -/
def partd (r d : Int) : Int := r * dnum d / dlen d - r * (dnum d - 1) / dlen d
theorem partd_at {r d y m k : Int} (h0 : 0 ≤ d) (h : IsDate d y m k) : partd r d = r * k / mlen y m - r * (k - 1) / mlen y m := by
  obtain ⟨_, _, e3⟩ := date_at h0 h
  rw [partd, dlen_at h0 h, e3]
theorem partd_in {r d : Int} (hr : 0 ≤ r) (h0 : 0 ≤ d) : 0 ≤ partd r d ∧ partd r d ≤ r := by
  have hl := dlen_pos h0
  unfold partd
  generalize dlen d = n at hl
  generalize dnum d = k
  have e : r * k = r * (k - 1) + r := by rw [Int.mul_sub]; omega
  rw [e]
  generalize r * (k - 1) = a
  have h1 : a / n ≤ (a + r) / n := Int.ediv_le_ediv (by omega) (by omega)
  have h2 : (a + r) / n ≤ (a + r * n) / n := Int.ediv_le_ediv (by omega) (by
    have : r * 1 ≤ r * n := Int.mul_le_mul_of_nonneg_left (by omega) hr
    omega)
  rw [Int.add_mul_ediv_right _ _ (by omega)] at h2
  omega
def tab (b : Int) (n : Nat) : List (Int × Int) := (List.range n).map fun (i : Nat) => (dnum (b + (i : Int)), dlen (b + (i : Int)))
def sp_l_table (K : PySem.W.Frag) : Sp := fun vs H Q _ => ∃ b n, vs = [.int b, .int n] ∧ 0 ≤ b ∧ 0 ≤ n ∧ n ≤ 100000 ∧ ∀ l as H', Same H H' → H l = none → H' l = some (.lst (as.map .ref)) → Prs K H' as (tab b n.toNat) → Q (.ref l) H'
def sp_l_money : Sp := fun vs H Q _ => ∃ c, vs = [.int c] ∧ ∀ r, 0 ≤ r → r ≤ 1000000000 → ∀ H', Same H H' → Q (.int r) H'
def sp_part : Sp := fun vs H Q _ => ∃ r d, vs = [.int r, .int d] ∧ 0 ≤ d ∧ d ≤ 99999 ∧ ∀ H', Same H H' → Q (.int (partd r d)) H'
theorem isdate_yes {d y m k : Int} (h : IsDate d y m k) (hd : d ≤ 99999) : isdate (.int y) (.int m) = true := by
  have hy := h.yle hd
  have h1 := h.y1; have h2 := h.m1; have h3 := h.m2
  simp only [isdate, within, Bool.and_eq_true, decide_eq_true_eq]
  exact ⟨⟨h1, hy⟩, h2, h3⟩
/-- the spans, as they stand in a list -/
inductive Sps (K : PySem.W.Frag) (H : Hp) : List Addr → List Span → Prop
  | nil : Sps K H [] []
  | cons {a p : Addr} {s : Span} {as : List Addr} {ss : List Span} : SqT K H a [.int s.1, .int s.2.1, .ref p] → SqT K H p [.int s.2.2.1, .int s.2.2.2] → Sps K H as ss → Sps K H (a :: as) (s :: ss)
theorem Sps.len {K : PySem.W.Frag} {H : Hp} : ∀ {as : List Addr} {ss : List Span}, Sps K H as ss → as.length = ss.length
  | _, _, .nil => rfl
  | _, _, .cons _ _ t => by simp [Sps.len t]
theorem Sps.same {K : PySem.W.Frag} {H H' : Hp} (e : Same H H') : ∀ {as : List Addr} {ss : List Span}, Sps K H as ss → Sps K H' as ss
  | _, _, .nil => .nil
  | _, _, .cons h1 h2 t => .cons (same_sqT e h1) (same_sqT e h2) (Sps.same e t)
theorem Sps.mut {K : PySem.W.Frag} {H : Hp} {l : Addr} {xs : List V} {o : HO} (hl : H l = some (.lst xs)) : ∀ {as : List Addr} {ss : List Span}, Sps K H as ss → Sps K (upd H l o) as ss
  | _, _, .nil => .nil
  | _, _, .cons h1 h2 t => .cons (sqT_mut hl h1) (sqT_mut hl h2) (Sps.mut hl t)
theorem Sps.append {K : PySem.W.Frag} {H : Hp} {bs : List Addr} {qs : List Span} (t2 : Sps K H bs qs) : ∀ {as : List Addr} {ss : List Span}, Sps K H as ss → Sps K H (as ++ bs) (ss ++ qs)
  | _, _, .nil => t2
  | _, _, .cons h1 h2 t => .cons h1 h2 (Sps.append t2 t)
theorem Sps.get {K : PySem.W.Frag} {H : Hp} : ∀ {as : List Addr} {ss : List Span} {i : Nat} {s : Span}, Sps K H as ss → ss[i]? = some s → ∃ a p, as[i]? = some a ∧ SqT K H a [.int s.1, .int s.2.1, .ref p] ∧ SqT K H p [.int s.2.2.1, .int s.2.2.2]
  | _, _, 0, s, .cons h1 h2 _, e => by simp at e; subst e; exact ⟨_, _, rfl, h1, h2⟩
  | _, _, i + 1, s, .cons _ _ t, e => by obtain ⟨a, p, h1, h2, h3⟩ := Sps.get (i := i) t (by simpa using e); exact ⟨a, p, by simpa using h1, h2, h3⟩
  | _, _, _, _, .nil, e => by simp at e
theorem Sps.rev {K : PySem.W.Frag} {H : Hp} : ∀ {as : List Addr} {ss : List Span}, Sps K H as ss → Sps K H as.reverse ss.reverse
  | _, _, .nil => .nil
  | _, _, .cons h1 h2 t => by rw [List.reverse_cons, List.reverse_cons]; exact Sps.append (.cons h1 h2 .nil) (Sps.rev t)
theorem putK_int (q : List (Int × Int)) (p : Int × Int) : putK (q.map entI) (Sum.inl p.1 : Key) (V.int p.2) = (dput q p).map entI := by
  unfold putK dput
  have e : ((q.map entI).any fun kv => decide (kv.1 = (Sum.inl p.1 : Key))) = q.any fun x => decide (x.1 = p.1) := by
    rw [List.any_map]
    congr 1
    funext x
    show decide ((Sum.inl x.1 : Key) = Sum.inl p.1) = decide (x.1 = p.1)
    simp
  rw [e]
  split
  · rw [List.map_map, List.map_map]
    refine List.map_congr_left fun x _ => ?_
    show (if (Sum.inl x.1 : Key) = Sum.inl p.1 then (Sum.inl x.1, V.int p.2) else (Sum.inl x.1, V.int x.2)) = entI (if x.1 = p.1 then p else x)
    by_cases c : x.1 = p.1
    · rw [if_pos (by rw [c]), if_pos c, c]; rfl
    · rw [if_neg (by simpa using c), if_neg c]; rfl
  · rw [List.map_append]; rfl
def sp_in_order (K : PySem.W.Frag) : Sp := fun vs H Q _ => ∃ l as ps, vs = [.ref l] ∧ RowAt K H l as ps ∧ ps.length ≤ 10000 ∧
  ∀ H' l' ts qs, Same H H' → H l' = none → H' l' = some (.lst (ts.map .ref)) → Prs K H' ts qs → Desc qs.reverse ps → qs.length ≤ ps.length → Q (.ref l') H'
def sp_spans (K : PySem.W.Frag) : Sp := fun vs H Q _ => ∃ l as ps f e, vs = [.ref l, .int f, .int e] ∧ RowAt K H l as ps ∧ ps.length ≤ 10000 ∧
  ∀ H' l' ts R, Same H H' → H l' = none → H' l' = some (.lst (ts.map .ref)) → Desc R ps → Sps K H' ts (spanR R f e).reverse → Q (.ref l') H'
theorem prs_of {K : PySem.W.Frag} {H : Hp} : ∀ {ts : List Addr} {qs : List (Int × Int)}, Paired (fun (t : Addr) (q : Int × Int) => H t = some (.tup [.int q.1, .int q.2])) ts qs → Prs K H ts qs
  | _, _, .nil => .nil
  | _, _, .cons h t => .cons (SqT.of h) (prs_of t)
def sp_l_mix : Sp := fun vs H Q _ => ∃ n k, vs = [.int n, .int k] ∧ ∀ z, 0 ≤ z → z < 999983 → Q (.int z) H
def sp_l_base : Sp := fun vs H Q _ => ∃ c, vs = [.int c] ∧ ∀ b, 0 ≤ b → b ≤ 99600 → ∀ H', Same H H' → Q (.int b) H'
def sp_l_held (K : PySem.W.Frag) : Sp := sp_pair_held K
theorem RowAt.pair {K : PySem.W.Frag} {H : Hp} {l : Addr} {as : List Addr} {ps : List (Int × Int)} {j : Nat} {b p : Int} (h : RowAt K H l as ps) (e : ps[j]? = some (b, p)) : ∃ a, pairV as (some j) = .ref a ∧ SqT K H a [.int b, .int p] := by
  obtain ⟨a, h1, h2⟩ := h.2.get e
  exact ⟨a, by show V.ref (as.getD j 0) = _; rw [getD_of h1], h2⟩
theorem cutTo1 (xs : List V) : cutV xs none (some 1) = xs.take 1 := by
  unfold cutV
  rw [HT.sIx_none, show HT.sIx xs.length xs.length (some 1) = min 1 xs.length from HT.sIx_nat xs.length xs.length 1]
  cases xs with
  | nil => rfl
  | cons x r =>
    have e : min 1 (x :: r).length = 1 := by simp
    rw [e]
    simp
theorem Prs.take1 {K : PySem.W.Frag} {H : Hp} {as : List Addr} {ps : List (Int × Int)} (h : Prs K H as ps) : Prs K H (as.take 1) (ps.take 1) := by
  cases h with
  | nil => exact .nil
  | cons h t => exact .cons h .nil
def dtwo (ps qs : List (Int × Int)) : PyData := .tuple [.list (ps.map dpair), .list (qs.map dpair)]
theorem two_lay (ps qs : List (Int × Int)) : PyData.canLay0 (dtwo ps qs) = true := by
  show (PyData.canLay0 (.list (ps.map dpair)) && (PyData.canLay0 (.list (qs.map dpair)) && true)) = true
  rw [row_lay, row_lay]
  rfl
theorem two_shaped (ps qs : List (Int × Int)) : SeqAt.shaped (dtwo ps qs) = true := by
  unfold SeqAt.shaped
  rw [two_lay]
  have h : PyData.depth (dtwo ps qs) = max (PyData.depthAll (ps.map dpair) + 1) (max (PyData.depthAll (qs.map dpair) + 1) 0) + 1 := rfl
  have h1 := pairs_depth ps
  have h2 := pairs_depth qs
  rw [h, decide_eq_true (by omega)]
  rfl
theorem two_dp {K : PySem.W.Frag} {H : Hp} {t l1 l2 : Addr} {as bs : List Addr} {ps qs : List (Int × Int)} (ht : SqT K H t [.ref l1, .ref l2]) (h1 : RowL K H l1 as ps) (h2 : RowL K H l2 bs qs) : Dp K H (.ref t) (dtwo ps qs) := .tup ht (.cons h1.dp (.cons h2.dp .nil))
def sp_l_number : Sp := fun vs H Q _ => ∃ c, vs = [.int c] ∧ ∀ r, 1 ≤ r → r ≤ 1000000 → ∀ H', Same H H' → Q (.int r) H'
/-- steps: firsts not below 0, rents within their bounds -/
def StepsOk (ps : List (Int × Int)) : Prop := ∀ p, p ∈ ps → 0 ≤ p.1 ∧ 0 ≤ p.2 ∧ p.2 ≤ 1000000000
/-- gauges: numbers within their bounds, one from day 0 on -/
def GaugesOk (ps : List (Int × Int)) : Prop := (∀ p, p ∈ ps → 0 ≤ p.1 ∧ 1 ≤ p.2 ∧ p.2 ≤ 1000000) ∧ ∃ g r, ps = (0, g) :: r
theorem StepsOk.drop {ps : List (Int × Int)} (h : StepsOk ps) : StepsOk (ps.drop 1) := fun p hp => h p (List.mem_of_mem_drop hp)
theorem GaugesOk.take {ps : List (Int × Int)} (h : GaugesOk ps) : GaugesOk (ps.take 1) := by
  obtain ⟨h1, g, r, rfl⟩ := h
  exact ⟨fun p hp => h1 p (List.mem_of_mem_take hp), g, [], rfl⟩
def sp_l_steps (K : PySem.W.Frag) : Sp := fun vs H Q _ => ∃ c b w, vs = [.int c, .int b, .int w] ∧ 0 < w ∧
  ∀ l as ps H', Same H H' → H l = none → H' l = some (.lst (as.map .ref)) → Prs K H' as ps → ps.length ≤ 4 → StepsOk ps → Q (.ref l) H'
def sp_l_gauges (K : PySem.W.Frag) : Sp := fun vs H Q _ => ∃ c b w, vs = [.int c, .int b, .int w] ∧ 0 < w ∧
  ∀ l as ps H', Same H H' → H l = none → H' l = some (.lst (as.map .ref)) → Prs K H' as ps → ps.length ≤ 4 → GaugesOk ps → Q (.ref l) H'
theorem GaugesOk.held {ps : List (Int × Int)} (h : GaugesOk ps) {d : Int} (h0 : 0 ≤ d) : ∃ j b p, best ps d = some j ∧ ps[j]? = some (b, p) ∧ heldV ps d = some p ∧ pairH ps d = some (b, p) ∧ 1 ≤ p ∧ p ≤ 1000000 := by
  cases e : best ps d with
  | none =>
    obtain ⟨g, r, h1⟩ := h.2
    have := pairH_none (ps := ps) (day := d) (by rw [pairH, e]; rfl) (0, g) (by rw [h1]; exact List.mem_cons_self ..)
    dsimp only at this
    omega
  | some j =>
    have hl := best_lt e
    have hx : ps[j]? = some ps[j] := List.getElem?_eq_getElem hl
    have g : ps.getD j (0, 0) = ps[j] := getD_of hx
    have b := h.1 _ (List.mem_of_getElem? hx)
    exact ⟨j, ps[j].1, ps[j].2, rfl, hx, by rw [heldV, e, Option.map_some, g], by rw [pairH, e, Option.map_some, g], b.2⟩
theorem StepsOk.held {ps : List (Int × Int)} (h : StepsOk ps) {d : Int} {j : Nat} (e : best ps d = some j) : ∃ b p, ps[j]? = some (b, p) ∧ pairH ps d = some (b, p) ∧ 0 ≤ b ∧ 0 ≤ p ∧ p ≤ 1000000000 := by
  have hl := best_lt e
  have hx : ps[j]? = some ps[j] := List.getElem?_eq_getElem hl
  have g : ps.getD j (0, 0) = ps[j] := getD_of hx
  have b := h _ (List.mem_of_getElem? hx)
  exact ⟨ps[j].1, ps[j].2, hx, by rw [pairH, e, Option.map_some, g], b⟩
/-- the rent on a day -/
def rentd (st ga : List (Int × Int)) (d : Int) : Int := match pairH st d with
  | none => 0
  | some p => p.2 * (heldV ga d).getD 0 / (heldV ga p.1).getD 1
def sp_l_rent (K : PySem.W.Frag) : Sp := fun vs H Q _ => ∃ l1 as st l2 bs ga d, vs = [.ref l1, .ref l2, .int d] ∧ RowAt K H l1 as st ∧ RowAt K H l2 bs ga ∧ StepsOk st ∧ GaugesOk ga ∧ 0 ≤ d ∧ Q (.int (rentd st ga d)) H
def sp_rent_on (K : PySem.W.Frag) : Sp := sp_l_rent K
def thr (r d : Int) : Int := r * (dyr d * 12 + dmo d) + r * dnum d / dlen d
def ahd (r d : Int) : Int := r * (dyr d * 12 + dmo d) + r * (dnum d - 1) / dlen d
theorem partd_thr (r d : Int) : partd r d = thr r d - ahd r d := by unfold partd thr ahd; omega
theorem partd_zero (d : Int) : partd 0 d = 0 := by simp [partd]
theorem ahd_succ {r d : Int} (h0 : 0 ≤ d) : ahd r (d + 1) = thr r d := by
  have hd := date_is h0
  have hn := hd.next
  obtain ⟨e1, e2, e3⟩ := date_at (show 0 ≤ d + 1 by omega) hn
  have e4 := dlen_at (show 0 ≤ d + 1 by omega) hn
  have hl := dlen_pos h0
  have hl2 := dlen_pos (d := d + 1) (by omega)
  have k2 := hd.k2
  have m2 := hd.m2
  unfold ahd thr
  rw [e1, e2, e3, e4]
  unfold nextT
  dsimp only
  by_cases c : dnum d < mlen (dyr d) (dmo d)
  · rw [if_pos c]
    dsimp only
    rw [show dnum d + 1 - 1 = dnum d by omega]
    rfl
  · rw [if_neg c]
    have ek : dnum d = dlen d := by show dnum d = mlen (dyr d) (dmo d); omega
    have er : r * dnum d / dlen d = r := by rw [ek, Int.mul_ediv_cancel _ (by omega)]
    rw [er]
    by_cases c2 : dmo d < 12
    · rw [if_pos c2]
      dsimp only
      rw [show (1 : Int) - 1 = 0 by omega, Int.mul_zero, Int.zero_ediv, show dyr d * 12 + (dmo d + 1) = (dyr d * 12 + dmo d) + 1 by omega, Int.mul_add]
      omega
    · rw [if_neg c2]
      dsimp only
      rw [show (1 : Int) - 1 = 0 by omega, Int.mul_zero, Int.zero_ediv, show (dyr d + 1) * 12 + 1 = (dyr d * 12 + dmo d) + 1 by omega, Int.mul_add]
      omega
theorem parts_sum {r s : Int} (h0 : 0 ≤ s) : ∀ n : Nat, dsum (partd r) s (s + n) = thr r (s + n) - ahd r s
  | 0 => by rw [show s + ((0 : Nat) : Int) = s by omega, dsum_one, partd_thr]
  | n + 1 => by
    rw [show s + ((n + 1 : Nat) : Int) = s + n + 1 by omega, dsum_succ (by omega), parts_sum h0 n, partd_thr, ahd_succ (by omega)]
    omega
def sp_parts_through : Sp := fun vs H Q _ => ∃ r y m k, vs = [.int r, .int y, .int m, .int k] ∧ 2000 ≤ y ∧ y ≤ 2273 ∧ 1 ≤ m ∧ m ≤ 12 ∧ 0 ≤ k ∧ k ≤ 31 ∧ Q (.int (r * (y * 12 + m) + r * k / mlen y m)) H
def sp_parts : Sp := fun vs H Q _ => ∃ r s t, vs = [.int r, .int s, .int t] ∧ 0 ≤ s ∧ s ≤ t ∧ t ≤ 99999 ∧ ∀ H', Same H H' → Q (.int (dsum (partd r) s t)) H'
def owedV (st ga : List (Int × Int)) (f e : Int) : Int := dsum (fun d => partd (rentd st ga d) d) f e
def sp_owed (K : PySem.W.Frag) : Sp := fun vs H Q _ => ∃ l1 as st l2 bs ga f e, vs = [.ref l1, .ref l2, .int f, .int e] ∧ RowAt K H l1 as st ∧ RowAt K H l2 bs ga ∧ StepsOk st ∧ GaugesOk ga ∧ st.length ≤ 10000 ∧ ga.length ≤ 10000 ∧ 0 ≤ f ∧ e ≤ 99999 ∧
  ∀ H', Same H H' → Q (.int (owedV st ga f e)) H'
def stepG (ga : List (Int × Int)) (p : Int × Int) (d : Int) : Int := partd (p.2 * (heldV ga d).getD 0 / (heldV ga p.1).getD 1) d
theorem owedV_eq (st ga : List (Int × Int)) (f e : Int) : dsum (fun d => holdG (stepG ga) (pairH st d) d) f e = owedV st ga f e := by
  refine dsum_congr fun d _ _ => ?_
  unfold rentd
  cases pairH st d with
  | none => exact (partd_zero d).symm
  | some p => rfl
theorem rentd_nn {st ga : List (Int × Int)} (hs : StepsOk st) (hg : GaugesOk ga) {d : Int} (h0 : 0 ≤ d) : 0 ≤ rentd st ga d := by
  unfold rentd
  cases e : pairH st d with
  | none => exact Int.le_refl _
  | some p =>
    obtain ⟨e1, _, _⟩ := pairH_some e
    have hp := hs _ (mem_row e1)
    obtain ⟨_, _, g, _, _, q1, _, q2, _⟩ := hg.held h0
    obtain ⟨_, _, t, _, _, q3, _, q4, _⟩ := hg.held hp.1
    dsimp only
    rw [q1, q3]
    exact Int.ediv_nonneg (Int.mul_nonneg hp.2.1 (show (0 : Int) ≤ g by omega)) (show (0 : Int) ≤ t by omega)
theorem owedV_nn {st ga : List (Int × Int)} (hs : StepsOk st) (hg : GaugesOk ga) {f e : Int} (h0 : 0 ≤ f) : 0 ≤ owedV st ga f e := dsum_nonneg fun d h1 _ => (partd_in (rentd_nn hs hg (by omega)) (by omega)).1
theorem owedV_split {st ga : List (Int × Int)} {a b c : Int} (h1 : a ≤ b) (h2 : b ≤ c) : owedV st ga a b + owedV st ga (b + 1) c = owedV st ga a c := by
  have h := dsum_split (f := fun d => partd (rentd st ga d) d) (a := a) (b := c) (b + 1) (by omega) (by omega)
  rw [show b + 1 - 1 = b by omega] at h
  exact h.symm
theorem owedV_one (st ga : List (Int × Int)) (d : Int) : owedV st ga d d = partd (rentd st ga d) d := dsum_one
/-- the first day of a month, counted from the year 0 -/
def fm (j : Int) : Int := ystart (j / 12) + mstart (j / 12) (j % 12 + 1)
theorem fm_succ (j : Int) : fm j + 28 ≤ fm (j + 1) := by
  unfold fm
  have pl := mlen_pos (y := j / 12) (m := j % 12 + 1) (by omega) (by omega)
  by_cases c : j % 12 < 11
  · rw [show (j + 1) / 12 = j / 12 by omega, show (j + 1) % 12 + 1 = j % 12 + 1 + 1 by omega, mstart_succ (y := j / 12) (m := j % 12 + 1) (by omega) (by omega)]
    omega
  · rw [show (j + 1) / 12 = j / 12 + 1 by omega, show (j + 1) % 12 + 1 = 1 by omega, mstart_one, ystart_succ]
    have e := mstart_end (j / 12)
    rw [show j % 12 + 1 = 12 by omega] at *
    omega
theorem fm_more (j : Int) : ∀ n : Nat, fm j + 28 * n ≤ fm (j + n)
  | 0 => by rw [show j + ((0 : Nat) : Int) = j by omega]; omega
  | n + 1 => by
    have h := fm_more j n
    have h2 := fm_succ (j + n)
    rw [show j + ((n + 1 : Nat) : Int) = j + n + 1 by omega]
    omega
theorem fm_date {j : Int} (h : 24000 ≤ j) : IsDate (fm j) (j / 12) (j % 12 + 1) 1 := by
  have pl := mlen_pos (y := j / 12) (m := j % 12 + 1) (by omega) (by omega)
  exact ⟨by omega, by omega, by omega, by omega, by omega, by unfold fm; omega⟩
theorem fm_nn {j : Int} (h : 24000 ≤ j) : 0 ≤ fm j := by
  have h1 := ystart_nn (a := j / 12) (by omega)
  have h2 := mstart_nn (y := j / 12) (m := j % 12 + 1) (by omega) (by omega)
  unfold fm
  omega
theorem fm_top {j : Int} (h : 24000 ≤ j) (h2 : j ≤ 27276) : fm j ≤ 99712 := by
  have h3 := fm_more j (27276 - j).toNat
  rw [show j + ((27276 - j).toNat : Int) = 27276 by omega] at h3
  have e : fm 27276 = 99712 := by decide
  omega
theorem ahd_fm {r j : Int} (h : 24000 ≤ j) : ahd r (fm j) = r * (j + 1) := by
  have hd := fm_date h
  obtain ⟨e1, e2, e3⟩ := date_at (fm_nn h) hd
  unfold ahd
  rw [e1, e2, e3, show (1 : Int) - 1 = 0 by omega, Int.mul_zero, Int.zero_ediv, show j / 12 * 12 + (j % 12 + 1) = j + 1 by omega]
  omega
theorem owed_months {r n b e : Int} (hn : 1 ≤ n) (hb : 24000 ≤ b) (he : b < e) : owedV [(fm b, r)] [(0, n)] (fm b) (fm e - 1) = r * (e - b) := by
  have h0 := fm_nn hb
  have hl := fm_more b (e - b).toNat
  rw [show b + ((e - b).toNat : Int) = e by omega] at hl
  have e1 : owedV [(fm b, r)] [(0, n)] (fm b) (fm e - 1) = dsum (partd r) (fm b) (fm e - 1) := by
    refine dsum_congr fun d h1 h2 => ?_
    have p1 : pairH [(fm b, r)] d = some (fm b, r) := by
      unfold pairH best
      show Option.map _ (bestStep _ _ none 0) = _
      unfold bestStep
      dsimp only
      rw [if_pos (show ([(fm b, r)].getD 0 (0, 0)).1 ≤ d from h1)]
      rfl
    have p2 : ∀ x : Int, 0 ≤ x → heldV [(0, n)] x = some n := by
      intro x hx
      unfold heldV best
      show Option.map _ (bestStep _ _ none 0) = _
      unfold bestStep
      dsimp only
      rw [if_pos (show ([((0 : Int), n)].getD 0 (0, 0)).1 ≤ x from hx)]
      rfl
    unfold rentd
    rw [p1]
    dsimp only
    rw [p2 d (by omega), p2 _ h0]
    show partd (r * n / n) d = _
    rw [Int.mul_ediv_cancel _ (by omega)]
  rw [e1]
  have h3 := parts_sum (r := r) h0 (fm e - 1 - fm b).toNat
  rw [show fm b + (((fm e - 1 - fm b).toNat : Nat) : Int) = fm e - 1 by omega] at h3
  have h4 := ahd_succ (r := r) (d := fm e - 1) (by omega)
  rw [show fm e - 1 + 1 = fm e by omega, ahd_fm (by omega)] at h4
  rw [h3, ← h4, ahd_fm hb, ← Int.mul_sub]
  congr 1
  omega
def sp_l_months : Sp := fun vs H Q _ => ∃ c o, vs = [.int c, .int o] ∧ ∀ H', Q (.bl true) H'
section
variable {P : Program} {w : World} {K : PySem.W.Frag} {mg : Str → Option Value} {base : Heap}
theorem ok_is_whole (T : Txt K mg) : FnOk P w K mg base (L2.CX P w) 1 T.f_is_whole T.fd_is_whole ["thing"] (sp_is_whole) := by
  refine T.F_is_whole.okX sc_is_whole (fun vs H Q E h => ?_) (fun cdv A outer s H vs Q E hr h => ?_)
  · first | (obtain ⟨_, rfl, _⟩ := h; rfl) | (obtain ⟨_, _, rfl, _⟩ := h; rfl) | (obtain ⟨_, _, _, rfl, _⟩ := h; rfl) | (obtain ⟨_, _, _, _, rfl, _⟩ := h; rfl) | (obtain ⟨_, _, _, _, _, rfl, _⟩ := h; rfl) | (obtain ⟨_, _, _, _, _, _, rfl, _⟩ := h; rfl) | (obtain ⟨_, _, _, _, _, _, _, rfl, _⟩ := h; rfl) | (obtain ⟨_, _, _, _, _, _, _, _, rfl, _⟩ := h; rfl) | (obtain ⟨_, _, _, _, _, _, _, _, _, rfl, _⟩ := h; rfl) | (obtain ⟨_, _, _, _, _, _, _, _, _, _, rfl, _⟩ := h; rfl) | (obtain ⟨_, _, _, _, _, _, _, _, _, _, _, rfl, _⟩ := h; rfl) | (obtain ⟨_, _, _, _, _, _, _, _, _, _, _, _, rfl, _⟩ := h; rfl) | (obtain ⟨_, _, _, _, _, _, _, _, _, _, _, _, _, rfl, _⟩ := h; rfl) | (obtain ⟨_, _, _, _, _, _, _, _, _, _, _, _, _, _, rfl, _⟩ := h; rfl) | (obtain ⟨_, _, _, _, _, _, _, _, _, _, _, _, _, _, _, rfl, _⟩ := h; rfl)
  · refine ⟨_, (pss_one (ps_ret (pe_and (pe_callB (show CallR _ (.builtin "isinstance") (rIsi K) from call_isi) (by rfl) T.n_isinstance (by decide +kernel) (pa_cons (pv 0) (pa_cons (pe_bltn (v := .ty "int") (by rfl) T.n_int (by decide +kernel) rfl) pa_nil))) (pe_one (pe_not (pe_callB (show CallR _ (.builtin "isinstance") (rIsi K) from call_isi) (by rfl) T.n_isinstance (by decide +kernel) (pa_cons (pv 0) (pa_cons (pe_bltn (v := .ty "bool") (by rfl) T.n_bool (by decide +kernel) rfl) pa_nil)))))))), ?_⟩
    obtain ⟨x, rfl, hx, k⟩ := h
    obtain ⟨n, ht, h1, h2⟩ := thing_ty (K := K) hx
    walk_at "go"
    refine ⟨x, .ty "int", _, _, _, rfl, .ty _, ht, kit_ty h1, ?_⟩
    walk_at "go"
    refine g_iteB (fun c => ?_) (fun c => ?_)
    · walk_at "go"
      refine ⟨x, .ty "bool", _, _, _, rfl, .ty _, ht, kit_ty h2, ?_⟩
      refine ⟨_, rfl, ?_⟩
      cases e : isB x with
      | true => rw [isI_not e] at k; exact k
      | false => rw [e, Bool.or_false] at c; rw [c] at k; exact k
    · rw [(Bool.or_eq_false_iff.mp c).1] at k
      exact k
theorem ok_is_within (T : Txt K mg) : FnOk P w K mg base (L2.CX P w) 2 T.f_is_within T.fd_is_within ["thing", "low", "high"] (sp_is_within) := by
  refine T.F_is_within.okX sc_is_within (fun vs H Q E h => ?_) (fun cdv A outer s H vs Q E hr h => ?_)
  · first | (obtain ⟨_, rfl, _⟩ := h; rfl) | (obtain ⟨_, _, rfl, _⟩ := h; rfl) | (obtain ⟨_, _, _, rfl, _⟩ := h; rfl) | (obtain ⟨_, _, _, _, rfl, _⟩ := h; rfl) | (obtain ⟨_, _, _, _, _, rfl, _⟩ := h; rfl) | (obtain ⟨_, _, _, _, _, _, rfl, _⟩ := h; rfl) | (obtain ⟨_, _, _, _, _, _, _, rfl, _⟩ := h; rfl) | (obtain ⟨_, _, _, _, _, _, _, _, rfl, _⟩ := h; rfl) | (obtain ⟨_, _, _, _, _, _, _, _, _, rfl, _⟩ := h; rfl) | (obtain ⟨_, _, _, _, _, _, _, _, _, _, rfl, _⟩ := h; rfl) | (obtain ⟨_, _, _, _, _, _, _, _, _, _, _, rfl, _⟩ := h; rfl) | (obtain ⟨_, _, _, _, _, _, _, _, _, _, _, _, rfl, _⟩ := h; rfl) | (obtain ⟨_, _, _, _, _, _, _, _, _, _, _, _, _, rfl, _⟩ := h; rfl) | (obtain ⟨_, _, _, _, _, _, _, _, _, _, _, _, _, _, rfl, _⟩ := h; rfl) | (obtain ⟨_, _, _, _, _, _, _, _, _, _, _, _, _, _, _, rfl, _⟩ := h; rfl)
  · refine ⟨_, (pss_one (ps_ret (pe_and (pe_callS (ok_is_whole T) hr (by rfl) T.g_is_whole T.F_is_whole.kp T.b_is_whole (fun σ => passAt (takes_of rfl rfl rfl rfl) σ) (by exact (pa_cons (pv 0) pa_nil))) (pe_one (pe_chain op_le op_le (pv 1) (pv 0) (pv 2)))))), ?_⟩
    obtain ⟨x, lo, hi, rfl, hx, k⟩ := h
    walk_at "go"
    refine ⟨_, rfl, hx, ?_⟩
    walk_at "go"
    cases x with
    | int i =>
      refine g_T ?_
      walk_at "go"
      refine g_ite (fun c => ?_) (fun c => ?_)
      · walk_at "go"
        have e : within (.int i) lo hi = decide (i ≤ hi) := by simp [within, c]
        rw [e] at k
        exact k
      · have e : within (.int i) lo hi = false := by simp [within, c]
        rw [e] at k
        exact k
    | _ => exact g_F k
theorem ok_check_day (T : Txt K mg) : FnOk P w K mg base (L2.CX P w) 3 T.f_check_day T.fd_check_day ["day"] (sp_check_day T.c_BadDay) := by
  refine T.F_check_day.okX sc_check_day (fun vs H Q E h => ?_) (fun cdv A outer s H vs Q E hr h => ?_)
  · first | (obtain ⟨_, rfl, _⟩ := h; rfl) | (obtain ⟨_, _, rfl, _⟩ := h; rfl) | (obtain ⟨_, _, _, rfl, _⟩ := h; rfl) | (obtain ⟨_, _, _, _, rfl, _⟩ := h; rfl) | (obtain ⟨_, _, _, _, _, rfl, _⟩ := h; rfl) | (obtain ⟨_, _, _, _, _, _, rfl, _⟩ := h; rfl) | (obtain ⟨_, _, _, _, _, _, _, rfl, _⟩ := h; rfl) | (obtain ⟨_, _, _, _, _, _, _, _, rfl, _⟩ := h; rfl) | (obtain ⟨_, _, _, _, _, _, _, _, _, rfl, _⟩ := h; rfl) | (obtain ⟨_, _, _, _, _, _, _, _, _, _, rfl, _⟩ := h; rfl) | (obtain ⟨_, _, _, _, _, _, _, _, _, _, _, rfl, _⟩ := h; rfl) | (obtain ⟨_, _, _, _, _, _, _, _, _, _, _, _, rfl, _⟩ := h; rfl) | (obtain ⟨_, _, _, _, _, _, _, _, _, _, _, _, _, rfl, _⟩ := h; rfl) | (obtain ⟨_, _, _, _, _, _, _, _, _, _, _, _, _, _, rfl, _⟩ := h; rfl) | (obtain ⟨_, _, _, _, _, _, _, _, _, _, _, _, _, _, _, rfl, _⟩ := h; rfl)
  · refine ⟨_, (pss_one (ps_if (pt_not (pt_val (pe_callS (ok_is_within T) hr (by rfl) T.g_is_within T.F_is_within.kp T.b_is_within (fun σ => passAt (takes_of rfl rfl rfl rfl) σ) (by exact (pa_cons (pv 0) (pa_cons pe_int (pa_cons (pe_glob (v := .int 99999) (by rfl) T.g_LAST_DAY ⟨_, rfl⟩) pa_nil)))))))
  (pss_one (ps_raise rfl (takes_of rfl rfl rfl rfl) (pmk_own PySem.F.excBase_ValueError T.x_BadDay T.g_BadDay T.k_BadDay (raises_own T.s_BadDay T.t_BadDay) (by exact rfl))))
  pss_nil)), ?_⟩
    obtain ⟨x, rfl, hx, k1, k2⟩ := h
    walk_at "go"
    refine ⟨_, _, _, rfl, hx, ?_⟩
    walk_at "go"
    refine g_iteNB (fun c => ?_) (fun c => ?_)
    · exact k2 c
    · walk_at "go"
      exact k1 c
theorem ok_is_leap (T : Txt K mg) : FnOk P w K mg base (L2.CX P w) 1 T.f_is_leap T.fd_is_leap ["year"] (sp_is_leap) := by
  refine T.F_is_leap.okX sc_is_leap (fun vs H Q E h => ?_) (fun cdv A outer s H vs Q E hr h => ?_)
  · first | (obtain ⟨_, rfl, _⟩ := h; rfl) | (obtain ⟨_, _, rfl, _⟩ := h; rfl) | (obtain ⟨_, _, _, rfl, _⟩ := h; rfl) | (obtain ⟨_, _, _, _, rfl, _⟩ := h; rfl) | (obtain ⟨_, _, _, _, _, rfl, _⟩ := h; rfl) | (obtain ⟨_, _, _, _, _, _, rfl, _⟩ := h; rfl) | (obtain ⟨_, _, _, _, _, _, _, rfl, _⟩ := h; rfl) | (obtain ⟨_, _, _, _, _, _, _, _, rfl, _⟩ := h; rfl) | (obtain ⟨_, _, _, _, _, _, _, _, _, rfl, _⟩ := h; rfl) | (obtain ⟨_, _, _, _, _, _, _, _, _, _, rfl, _⟩ := h; rfl) | (obtain ⟨_, _, _, _, _, _, _, _, _, _, _, rfl, _⟩ := h; rfl) | (obtain ⟨_, _, _, _, _, _, _, _, _, _, _, _, rfl, _⟩ := h; rfl) | (obtain ⟨_, _, _, _, _, _, _, _, _, _, _, _, _, rfl, _⟩ := h; rfl) | (obtain ⟨_, _, _, _, _, _, _, _, _, _, _, _, _, _, rfl, _⟩ := h; rfl) | (obtain ⟨_, _, _, _, _, _, _, _, _, _, _, _, _, _, _, rfl, _⟩ := h; rfl)
  · refine ⟨_, (pss_cons (ps_if (pt_cmpR (show OpR _ (compareOp .Eq) (rEqA K) from op_eqA hr.units) (pe_op op_mod (pv 0) pe_int) pe_int (nomark _))
  (pss_one (ps_ret (pe_cmpR (show OpR _ (compareOp .Eq) (rEqA K) from op_eqA hr.units) (pe_op op_mod (pv 0) pe_int) pe_int (nomark _))))
  pss_nil)
  (pss_one (ps_ret (pe_cmpR (show OpR _ (compareOp .Eq) (rEqA K) from op_eqA hr.units) (pe_op op_mod (pv 0) pe_int) pe_int (nomark _))))), ?_⟩
    obtain ⟨y, rfl, k⟩ := h
    walk_at "go"
    refine g_ite (fun c => ?_) (fun c => ?_)
    · walk_at "go"
      have e : leap y = decide (y % 400 = 0) := by simp [leap, c]
      rw [e] at k
      exact k
    · walk_at "go"
      have e : leap y = decide (y % 4 = 0) := by simp [leap, c]
      rw [e] at k
      exact k
theorem ok_length (T : Txt K mg) : FnOk P w K mg base (L2.CX P w) 2 T.f_length T.fd_length ["year", "month"] (sp_length) := by
  refine T.F_length.okX sc_length (fun vs H Q E h => ?_) (fun cdv A outer s H vs Q E hr h => ?_)
  · first | (obtain ⟨_, rfl, _⟩ := h; rfl) | (obtain ⟨_, _, rfl, _⟩ := h; rfl) | (obtain ⟨_, _, _, rfl, _⟩ := h; rfl) | (obtain ⟨_, _, _, _, rfl, _⟩ := h; rfl) | (obtain ⟨_, _, _, _, _, rfl, _⟩ := h; rfl) | (obtain ⟨_, _, _, _, _, _, rfl, _⟩ := h; rfl) | (obtain ⟨_, _, _, _, _, _, _, rfl, _⟩ := h; rfl) | (obtain ⟨_, _, _, _, _, _, _, _, rfl, _⟩ := h; rfl) | (obtain ⟨_, _, _, _, _, _, _, _, _, rfl, _⟩ := h; rfl) | (obtain ⟨_, _, _, _, _, _, _, _, _, _, rfl, _⟩ := h; rfl) | (obtain ⟨_, _, _, _, _, _, _, _, _, _, _, rfl, _⟩ := h; rfl) | (obtain ⟨_, _, _, _, _, _, _, _, _, _, _, _, rfl, _⟩ := h; rfl) | (obtain ⟨_, _, _, _, _, _, _, _, _, _, _, _, _, rfl, _⟩ := h; rfl) | (obtain ⟨_, _, _, _, _, _, _, _, _, _, _, _, _, _, rfl, _⟩ := h; rfl) | (obtain ⟨_, _, _, _, _, _, _, _, _, _, _, _, _, _, _, rfl, _⟩ := h; rfl)
  · refine ⟨_, (pss_cons (ps_if (PW.pt (pw_and (pt_cmpR (show OpR _ (compareOp .Eq) (rEqA K) from op_eqA hr.units) (pv 1) pe_int (nomark _)) (pw_and1 (pt_val (pe_callS (ok_is_leap T) hr (by rfl) T.g_is_leap T.F_is_leap.kp T.b_is_leap (fun σ => passAt (takes_of rfl rfl rfl rfl) σ) (by exact (pa_cons (pv 0) pa_nil)))))))
  (pss_one (ps_ret pe_int))
  pss_nil)
  (pss_one (ps_ret (pe_ix (show IxR _ (rIx2 K) from ix_lt) (pe_glob (v := .ref T.a_LENGTHS) (by rfl) T.g_LENGTHS rfl) (pe_op op_sub (pv 1) pe_int) (fun _ _ => rfl))))), ?_⟩
    obtain ⟨y, m, rfl, h1, h2, k⟩ := h
    have fin : (m = 2 ∧ leap y = true → Q (.int 29) H) ∧ (¬ (m = 2 ∧ leap y = true) → Q (.int (lens.getD (m - 1).toNat 0)) H) :=
      ⟨fun c => by rw [mlen, if_pos c] at k; exact k, fun c => by rw [mlen, if_neg c] at k; exact k⟩
    walk_at "go"
    have at_ := at_lens h1 h2
    refine g_ite (fun c => ?_) (fun c => ?_)
    · walk_at "go"
      refine ⟨_, rfl, ?_⟩
      walk_at "go"
      refine g_iteB (fun c2 => ?_) (fun c2 => ?_)
      · walk_at "go"
        exact fin.1 ⟨c, c2⟩
      · walk_at "go"
        exact r_ixT (T.q_LENGTHS H) at_ (fin.2 fun z => by rw [c2] at z; exact Bool.false_ne_true z.2)
    · walk_at "go"
      exact r_ixT (T.q_LENGTHS H) at_ (fin.2 fun z => c z.1)
theorem ok_month_days (T : Txt K mg) : FnOk P w K mg base (L2.CX P w) 3 T.f_month_days T.fd_month_days ["year", "month"] (sp_month_days T.c_BadDay) := by
  refine T.F_month_days.okX sc_month_days (fun vs H Q E h => ?_) (fun cdv A outer s H vs Q E hr h => ?_)
  · first | (obtain ⟨_, rfl, _⟩ := h; rfl) | (obtain ⟨_, _, rfl, _⟩ := h; rfl) | (obtain ⟨_, _, _, rfl, _⟩ := h; rfl) | (obtain ⟨_, _, _, _, rfl, _⟩ := h; rfl) | (obtain ⟨_, _, _, _, _, rfl, _⟩ := h; rfl) | (obtain ⟨_, _, _, _, _, _, rfl, _⟩ := h; rfl) | (obtain ⟨_, _, _, _, _, _, _, rfl, _⟩ := h; rfl) | (obtain ⟨_, _, _, _, _, _, _, _, rfl, _⟩ := h; rfl) | (obtain ⟨_, _, _, _, _, _, _, _, _, rfl, _⟩ := h; rfl) | (obtain ⟨_, _, _, _, _, _, _, _, _, _, rfl, _⟩ := h; rfl) | (obtain ⟨_, _, _, _, _, _, _, _, _, _, _, rfl, _⟩ := h; rfl) | (obtain ⟨_, _, _, _, _, _, _, _, _, _, _, _, rfl, _⟩ := h; rfl) | (obtain ⟨_, _, _, _, _, _, _, _, _, _, _, _, _, rfl, _⟩ := h; rfl) | (obtain ⟨_, _, _, _, _, _, _, _, _, _, _, _, _, _, rfl, _⟩ := h; rfl) | (obtain ⟨_, _, _, _, _, _, _, _, _, _, _, _, _, _, _, rfl, _⟩ := h; rfl)
  · refine ⟨_, (pss_cons (ps_if (pt_not (pt_val (pe_callS (ok_is_within T) hr (by rfl) T.g_is_within T.F_is_within.kp T.b_is_within (fun σ => passAt (takes_of rfl rfl rfl rfl) σ) (by exact (pa_cons (pv 0) (pa_cons (pe_glob (v := .int 2000) (by rfl) T.g_FIRST_YEAR ⟨_, rfl⟩) (pa_cons (pe_glob (v := .int 2273) (by rfl) T.g_LAST_YEAR ⟨_, rfl⟩) pa_nil)))))))
  (pss_one (ps_raise rfl (takes_of rfl rfl rfl rfl) (pmk_own PySem.F.excBase_ValueError T.x_BadDay T.g_BadDay T.k_BadDay (raises_own T.s_BadDay T.t_BadDay) (by exact rfl))))
  pss_nil)
  (pss_cons (ps_if (pt_not (pt_val (pe_callS (ok_is_within T) hr (by rfl) T.g_is_within T.F_is_within.kp T.b_is_within (fun σ => passAt (takes_of rfl rfl rfl rfl) σ) (by exact (pa_cons (pv 1) (pa_cons pe_int (pa_cons pe_int pa_nil)))))))
  (pss_one (ps_raise rfl (takes_of rfl rfl rfl rfl) (pmk_own PySem.F.excBase_ValueError T.x_BadDay T.g_BadDay T.k_BadDay (raises_own T.s_BadDay T.t_BadDay) (by exact rfl))))
  pss_nil)
  (pss_one (ps_ret (pe_callS (ok_length T) hr (by rfl) T.g_length T.F_length.kp T.b_length (fun σ => passAt (takes_of rfl rfl rfl rfl) σ) (by exact (pa_cons (pv 0) (pa_cons (pv 1) pa_nil)))))))), ?_⟩
    obtain ⟨x, y, rfl, hx, hy, k1, k2⟩ := h
    walk_at "go"
    refine ⟨_, _, _, rfl, hx, ?_⟩
    walk_at "go"
    refine g_iteNB (fun c => ?_) (fun c => ?_)
    · exact k2 (by simp [isdate, c])
    · walk_at "go"
      refine ⟨_, _, _, rfl, hy, ?_⟩
      walk_at "go"
      refine g_iteNB (fun c2 => ?_) (fun c2 => ?_)
      · exact k2 (by simp [isdate, c2])
      · cases x with
        | int i =>
          cases y with
          | int m =>
            have b := c2
            simp only [within, Bool.and_eq_true, decide_eq_true_eq] at b
            walk_at "go"
            refine ⟨_, _, rfl, b.1, b.2, ?_⟩
            exact k1 i m rfl rfl (by simp [isdate, c, c2])
          | _ => cases c2
        | _ => cases c
theorem ok_year_start (T : Txt K mg) : FnOk P w K mg base (L2.CX P w) 1 T.f_year_start T.fd_year_start ["year"] (sp_year_start) := by
  refine T.F_year_start.okX sc_year_start (fun vs H Q E h => ?_) (fun cdv A outer s H vs Q E hr h => ?_)
  · first | (obtain ⟨_, rfl, _⟩ := h; rfl) | (obtain ⟨_, _, rfl, _⟩ := h; rfl) | (obtain ⟨_, _, _, rfl, _⟩ := h; rfl) | (obtain ⟨_, _, _, _, rfl, _⟩ := h; rfl) | (obtain ⟨_, _, _, _, _, rfl, _⟩ := h; rfl) | (obtain ⟨_, _, _, _, _, _, rfl, _⟩ := h; rfl) | (obtain ⟨_, _, _, _, _, _, _, rfl, _⟩ := h; rfl) | (obtain ⟨_, _, _, _, _, _, _, _, rfl, _⟩ := h; rfl) | (obtain ⟨_, _, _, _, _, _, _, _, _, rfl, _⟩ := h; rfl) | (obtain ⟨_, _, _, _, _, _, _, _, _, _, rfl, _⟩ := h; rfl) | (obtain ⟨_, _, _, _, _, _, _, _, _, _, _, rfl, _⟩ := h; rfl) | (obtain ⟨_, _, _, _, _, _, _, _, _, _, _, _, rfl, _⟩ := h; rfl) | (obtain ⟨_, _, _, _, _, _, _, _, _, _, _, _, _, rfl, _⟩ := h; rfl) | (obtain ⟨_, _, _, _, _, _, _, _, _, _, _, _, _, _, rfl, _⟩ := h; rfl) | (obtain ⟨_, _, _, _, _, _, _, _, _, _, _, _, _, _, _, rfl, _⟩ := h; rfl)
  · refine ⟨_, (pss_cons (ps_set (i := 1) sc_year_start.nd rfl (Or.inl rfl) (pe_op op_sub (pv 0) (pe_glob (v := .int 2000) (by rfl) T.g_FIRST_YEAR ⟨_, rfl⟩)))
  (pss_cons (ps_set (i := 2) sc_year_start.nd rfl (Or.inl rfl) (pe_op op_plus (pe_op op_sub (pe_op op_fdiv (pe_op op_plus (pv 1) pe_int) pe_int) (pe_op op_fdiv (pe_op op_plus (pv 1) pe_int) pe_int)) (pe_op op_fdiv (pe_op op_plus (pv 1) pe_int) pe_int)))
  (pss_one (ps_ret (pe_op op_plus (pe_op op_mul pe_int (pv 1)) (pv 2)))))), ?_⟩
    obtain ⟨y, rfl, k⟩ := h
    walk_at "go"
    exact k
theorem ok_month_of (T : Txt K mg) : FnOk P w K mg base (L2.CX P w) 4 T.f_month_of T.fd_month_of ["day"] (sp_month_of T.c_BadDay) := by
  refine T.F_month_of.okX sc_month_of (fun vs H Q E h => ?_) (fun cdv A outer s H vs Q E hr h => ?_)
  · first | (obtain ⟨_, rfl, _⟩ := h; rfl) | (obtain ⟨_, _, rfl, _⟩ := h; rfl) | (obtain ⟨_, _, _, rfl, _⟩ := h; rfl) | (obtain ⟨_, _, _, _, rfl, _⟩ := h; rfl) | (obtain ⟨_, _, _, _, _, rfl, _⟩ := h; rfl) | (obtain ⟨_, _, _, _, _, _, rfl, _⟩ := h; rfl) | (obtain ⟨_, _, _, _, _, _, _, rfl, _⟩ := h; rfl) | (obtain ⟨_, _, _, _, _, _, _, _, rfl, _⟩ := h; rfl) | (obtain ⟨_, _, _, _, _, _, _, _, _, rfl, _⟩ := h; rfl) | (obtain ⟨_, _, _, _, _, _, _, _, _, _, rfl, _⟩ := h; rfl) | (obtain ⟨_, _, _, _, _, _, _, _, _, _, _, rfl, _⟩ := h; rfl) | (obtain ⟨_, _, _, _, _, _, _, _, _, _, _, _, rfl, _⟩ := h; rfl) | (obtain ⟨_, _, _, _, _, _, _, _, _, _, _, _, _, rfl, _⟩ := h; rfl) | (obtain ⟨_, _, _, _, _, _, _, _, _, _, _, _, _, _, rfl, _⟩ := h; rfl) | (obtain ⟨_, _, _, _, _, _, _, _, _, _, _, _, _, _, _, rfl, _⟩ := h; rfl)
  · refine ⟨_, (pss_cons (ps_expr (pe_callS (ok_check_day T) hr (by rfl) T.g_check_day T.F_check_day.kp T.b_check_day (fun σ => passAt (takes_of rfl rfl rfl rfl) σ) (by exact (pa_cons (pv 0) pa_nil))))
  (pss_cons (ps_set (i := 1) sc_month_of.nd rfl (Or.inl rfl) (pe_op op_plus (pe_glob (v := .int 2000) (by rfl) T.g_FIRST_YEAR ⟨_, rfl⟩) (pe_op op_fdiv (pv 0) (pe_glob (v := .int 366) (by rfl) T.g_LONGEST_YEAR ⟨_, rfl⟩))))
  (pss_cons (ps_while (passes_of rfl) (pt_cmpR op_le (pe_callS (ok_year_start T) (hr.mono (by decide)) (by rfl) T.g_year_start T.F_year_start.kp T.b_year_start (fun σ => passAt (takes_of rfl rfl rfl rfl) σ) (by exact (pa_cons (pe_op op_plus (pv 1) pe_int) pa_nil))) (pv 0) (nomark _))
  (pss_one (ps_aug (i := 1) sc_month_of.nd rfl (Or.inl rfl) pe_int ip_add)))
  (pss_cons (ps_set (i := 2) sc_month_of.nd rfl (Or.inl rfl) (pe_op op_plus (pe_op op_sub (pv 0) (pe_callS (ok_year_start T) (hr.mono (by decide)) (by rfl) T.g_year_start T.F_year_start.kp T.b_year_start (fun σ => passAt (takes_of rfl rfl rfl rfl) σ) (by exact (pa_cons (pv 1) pa_nil)))) pe_int))
  (pss_cons (ps_set (i := 3) sc_month_of.nd rfl (Or.inl rfl) pe_int)
  (pss_cons (ps_while (passes_of rfl) (pt_cmpR op_gt (pv 2) (pe_callS (ok_length T) (hr.mono (by decide)) (by rfl) T.g_length T.F_length.kp T.b_length (fun σ => passAt (takes_of rfl rfl rfl rfl) σ) (by exact (pa_cons (pv 1) (pa_cons (pv 3) pa_nil)))) (nomark _))
  (pss_cons (ps_aug (i := 2) sc_month_of.nd rfl (Or.inl rfl) (pe_callS (ok_length T) (hr.mono (by decide)) (by rfl) T.g_length T.F_length.kp T.b_length (fun σ => passAt (takes_of rfl rfl rfl rfl) σ) (by exact (pa_cons (pv 1) (pa_cons (pv 3) pa_nil)))) ip_sub)
  (pss_one (ps_aug (i := 3) sc_month_of.nd rfl (Or.inl rfl) pe_int ip_add))))
  (pss_one (ps_ret (pe_tup (pa_cons (pv 1) (pa_cons (pv 3) (pa_cons (pv 2) pa_nil)))))))))))), ?_⟩
    obtain ⟨x, rfl, hx, k1, k2⟩ := h
    walk_at "go"
    refine ⟨_, rfl, hx, fun c => ?_, fun c => k2 c⟩
    obtain ⟨i, rfl, h0, h1⟩ := within_int c
    walk_at "go"
    refine g_while (fun n σ' H' => ∃ y, σ' = [some (.int i), some (.int y), none, none] ∧ H = H' ∧ 2000 ≤ y ∧ ystart y ≤ i ∧ n = (3000 - y).toNat) _ ⟨_, rfl, rfl, by omega, ystart_guess h0, rfl⟩ ?_
    rintro n σ' H' ⟨y, rfl, rfl, hy, hs, rfl⟩
    walk_at "go"
    refine ⟨_, rfl, ?_⟩
    walk_at "go"
    refine g_ite (fun c2 => ?_) (fun c2 => ?_)
    · refine ⟨_, fun _ _ h => h, ?_⟩
      walk_at "go"
      have hlt : y + 1 ≤ 2273 := by
        by_cases q : y + 1 ≤ 2273
        · exact q
        · have e := ystart_le (show 2274 ≤ y + 1 by omega)
          have e2 : ystart 2274 = 100077 := by decide
          omega
      exact ⟨_, by omega, y + 1, rfl, rfl, by omega, c2, rfl⟩
    · walk_at "go"
      refine ⟨_, rfl, ?_⟩
      walk_at "go"
      have hn : i < ystart (y + 1) := by omega
      refine g_while (fun n σ' H' => ∃ k m, σ' = [some (.int i), some (.int y), some (.int k), some (.int m)] ∧ H = H' ∧ 1 ≤ m ∧ m ≤ 12 ∧ 1 ≤ k ∧ i = ystart y + mstart y m + k - 1 ∧ n = (13 - m).toNat) _
        ⟨_, _, rfl, rfl, by omega, by omega, by omega, by rw [mstart_one]; omega, rfl⟩ ?_
      rintro n σ' H' ⟨k, m, rfl, rfl, hm1, hm2, hk, he, rfl⟩
      walk_at "go"
      refine ⟨_, _, rfl, hm1, hm2, ?_⟩
      walk_at "go"
      have es := mstart_succ (y := y) hm1 hm2
      refine g_ite (fun c3 => ?_) (fun c3 => ?_)
      · refine ⟨_, fun _ _ h => h, ?_⟩
        have hlt : m < 12 := by
          by_cases q : m < 12
          · exact q
          · have e : m = 12 := by omega
            subst e
            have e1 := mstart_end y
            have e2 := ystart_succ y
            omega
        walk_at "go"
        refine ⟨_, _, rfl, hm1, hm2, ?_⟩
        walk_at "go"
        exact ⟨_, by omega, _, _, rfl, rfl, by omega, by omega, by omega, by rw [es]; omega, rfl⟩
      · walk_at "go"
        refine ⟨by walk_at "sz", fun p hp => ?_⟩
        exact k1 i y m k rfl h0 h1 ⟨hy, hm1, hm2, hk, by omega, he⟩ p hp
theorem ok_day_of (T : Txt K mg) : FnOk P w K mg base (L2.CX P w) 4 T.f_day_of T.fd_day_of ["year", "month", "number"] (sp_day_of T.c_BadDay) := by
  refine T.F_day_of.okX sc_day_of (fun vs H Q E h => ?_) (fun cdv A outer s H vs Q E hr h => ?_)
  · first | (obtain ⟨_, rfl, _⟩ := h; rfl) | (obtain ⟨_, _, rfl, _⟩ := h; rfl) | (obtain ⟨_, _, _, rfl, _⟩ := h; rfl) | (obtain ⟨_, _, _, _, rfl, _⟩ := h; rfl) | (obtain ⟨_, _, _, _, _, rfl, _⟩ := h; rfl) | (obtain ⟨_, _, _, _, _, _, rfl, _⟩ := h; rfl) | (obtain ⟨_, _, _, _, _, _, _, rfl, _⟩ := h; rfl) | (obtain ⟨_, _, _, _, _, _, _, _, rfl, _⟩ := h; rfl) | (obtain ⟨_, _, _, _, _, _, _, _, _, rfl, _⟩ := h; rfl) | (obtain ⟨_, _, _, _, _, _, _, _, _, _, rfl, _⟩ := h; rfl) | (obtain ⟨_, _, _, _, _, _, _, _, _, _, _, rfl, _⟩ := h; rfl) | (obtain ⟨_, _, _, _, _, _, _, _, _, _, _, _, rfl, _⟩ := h; rfl) | (obtain ⟨_, _, _, _, _, _, _, _, _, _, _, _, _, rfl, _⟩ := h; rfl) | (obtain ⟨_, _, _, _, _, _, _, _, _, _, _, _, _, _, rfl, _⟩ := h; rfl) | (obtain ⟨_, _, _, _, _, _, _, _, _, _, _, _, _, _, _, rfl, _⟩ := h; rfl)
  · refine ⟨_, (pss_cons (ps_if (pt_not (pt_val (pe_callS (ok_is_within T) (hr.mono (by decide)) (by rfl) T.g_is_within T.F_is_within.kp T.b_is_within (fun σ => passAt (takes_of rfl rfl rfl rfl) σ) (by exact (pa_cons (pv 2) (pa_cons pe_int (pa_cons (pe_callS (ok_month_days T) hr (by rfl) T.g_month_days T.F_month_days.kp T.b_month_days (fun σ => passAt (takes_of rfl rfl rfl rfl) σ) (by exact (pa_cons (pv 0) (pa_cons (pv 1) pa_nil)))) pa_nil)))))))
  (pss_one (ps_raise rfl (takes_of rfl rfl rfl rfl) (pmk_own PySem.F.excBase_ValueError T.x_BadDay T.g_BadDay T.k_BadDay (raises_own T.s_BadDay T.t_BadDay) (by exact rfl))))
  pss_nil)
  (pss_cons (ps_set (i := 3) sc_day_of.nd rfl (Or.inl rfl) (pe_callB (show CallR _ (.builtin "sum") (rSum K) from cr_sum rfl) (by rfl) T.n_sum (by decide +kernel) (pa_cons (pe_lc (own := [("earlier", 4)]) (g := gName 4) (by rfl) sc_day_of.nd (pi_range2 (by rfl) T.n_range (pa_cons pe_int (pa_cons (pv 1) pa_nil))) (blkOk_by (own := [("earlier", 4)]) (N := ["year", "month", "number", "ahead", "earlier", "day"]) (sc := defScope s_day_of) (by decide +kernel)) (fun _ _ _ _ _ => pg_name (i := 4) sc_day_of.nd rfl (Or.inl rfl)) (fun _ _ _ _ _ => pts_nil) (fun _ _ _ _ _ => (pe_callS (ok_length T) (hr.mono (by decide)) (by rfl) T.g_length T.F_length.kp T.b_length (fun σ => passAt (takes0 (X := _)) σ) (by exact (pa_cons (pv 0) (pa_cons (pv 4) pa_nil)))))) pa_nil)))
  (pss_cons (ps_set (i := 5) sc_day_of.nd rfl (Or.inl rfl) (pe_op op_sub (pe_op op_plus (pe_op op_plus (pe_callS (ok_year_start T) (hr.mono (by decide)) (by rfl) T.g_year_start T.F_year_start.kp T.b_year_start (fun σ => passAt (takes_of rfl rfl rfl rfl) σ) (by exact (pa_cons (pv 0) pa_nil))) (pv 3)) (pv 2)) pe_int))
  (pss_cons (ps_expr (pe_callS (ok_check_day T) hr (by rfl) T.g_check_day T.F_check_day.kp T.b_check_day (fun σ => passAt (takes_of rfl rfl rfl rfl) σ) (by exact (pa_cons (pv 5) pa_nil))))
  (pss_one (ps_ret (pv 5))))))), ?_⟩
    obtain ⟨x, y, z, rfl, hx, hy, hz, k1, k2⟩ := h
    walk_at "go"
    refine ⟨_, _, rfl, hx, hy, fun i m hi hm c => ?_, fun c => k2 (dayv_no c) _ (Same.refl H)⟩
    subst hi
    subst hm
    have c' := c
    simp only [isdate, within, Bool.and_eq_true, decide_eq_true_eq] at c'
    walk_at "go"
    refine ⟨_, _, _, rfl, hz, ?_⟩
    walk_at "go"
    refine g_iteNB (fun c2 => ?_) (fun c2 => ?_)
    · exact k2 (dayv_noz c2) _ (Same.refl H)
    · obtain ⟨kk, rfl, hk1, hk2⟩ := within_int c2
      walk_at "go"
      refine lc_r2 (lo := 1) (hi := m) (fun (i' : Nat) => .int (mlen i (1 + (i' : Int)))) (fun Q' q => ?_) (by omega) (by omega) (by omega) (fun _ => rfl) (fun n H' hn sm Q' q => ?_) (fun D H' hD sm hl => ?_)
      · walk_at "go"
        exact q
      · walk_at "go"
        exact ⟨_, _, rfl, by omega, by omega, q _ (Same.refl _)⟩
      · walk_at "go"
        refine ⟨D, (List.range (m - 1).toNat).map fun (i' : Nat) => mlen i (1 + (i' : Int)), rfl, SqL.of ?_, ?_⟩
        · rw [hl, List.map_map]
          rfl
        · have hsum := mstart_sum i (m - 1).toNat (by omega)
          rw [show (1 + (((m - 1).toNat : Nat) : Int)) = m by omega] at hsum
          rw [hsum]
          walk_at "go"
          refine ⟨_, rfl, ?_⟩
          walk_at "go"
          have y0 := ystart_nn (a := i) (by omega)
          have m0 := mstart_nn (y := i) (m := m) (by omega) (by omega)
          refine ⟨_, rfl, trivial, fun c3 => ?_, fun c3 => ?_⟩
          · simp only [within, Bool.and_eq_true, decide_eq_true_eq] at c3
            walk_at "go"
            exact k1 _ (if_pos ⟨c, hk1, hk2, c3.2⟩) _ sm
          · refine k2 (if_neg fun q => ?_) _ sm
            have e : within (.int (ystart i + mstart i m + kk - 1)) 0 99999 = true := by simp only [within, Bool.and_eq_true, decide_eq_true_eq]; omega
            rw [c3] at e
            cases e
theorem ok_in_order (T : Txt K mg) : FnOk P w K mg base (L2.CX P w) 1 T.f_in_order T.fd_in_order ["terms"] (sp_in_order K) := by
  refine T.F_in_order.okX sc_in_order (fun vs H Q E h => ?_) (fun cdv A outer s H vs Q E hr h => ?_)
  · first | (obtain ⟨_, rfl, _⟩ := h; rfl) | (obtain ⟨_, _, rfl, _⟩ := h; rfl) | (obtain ⟨_, _, _, rfl, _⟩ := h; rfl) | (obtain ⟨_, _, _, _, rfl, _⟩ := h; rfl) | (obtain ⟨_, _, _, _, _, rfl, _⟩ := h; rfl) | (obtain ⟨_, _, _, _, _, _, rfl, _⟩ := h; rfl) | (obtain ⟨_, _, _, _, _, _, _, rfl, _⟩ := h; rfl) | (obtain ⟨_, _, _, _, _, _, _, _, rfl, _⟩ := h; rfl) | (obtain ⟨_, _, _, _, _, _, _, _, _, rfl, _⟩ := h; rfl) | (obtain ⟨_, _, _, _, _, _, _, _, _, _, rfl, _⟩ := h; rfl) | (obtain ⟨_, _, _, _, _, _, _, _, _, _, _, rfl, _⟩ := h; rfl) | (obtain ⟨_, _, _, _, _, _, _, _, _, _, _, _, rfl, _⟩ := h; rfl) | (obtain ⟨_, _, _, _, _, _, _, _, _, _, _, _, _, rfl, _⟩ := h; rfl) | (obtain ⟨_, _, _, _, _, _, _, _, _, _, _, _, _, _, rfl, _⟩ := h; rfl) | (obtain ⟨_, _, _, _, _, _, _, _, _, _, _, _, _, _, _, rfl, _⟩ := h; rfl)
  · refine ⟨_, (pss_cons (ps_set (i := 1) sc_in_order.nd rfl (Or.inl rfl) pe_dnewK)
  (pss_cons (ps_for (passes_of rfl) rfl (show PI _ _ _ (iLT K _) from pi_lt (pv 0)) (pg_tup rfl (pgs_cons (pg_name (i := 2) sc_in_order.nd rfl (Or.inl rfl)) (pgs_cons (pg_name (i := 3) sc_in_order.nd rfl (Or.inl rfl)) pgs_nil)))
  (pss_one (ps_dput (hu_of hr) (pv 1) (pv 2) (pv 3) rfl)))
  (pss_one (ps_ret (pe_callB (cr_sortedItK rfl) (by rfl) T.n_sorted (by decide +kernel) (pa_cons (pe_bm0 PySem.F.plainAttrs_dict PySem.F.slot_dict_items PySem.F.type_dict_items mt_itemsK (pv 1)) pa_nil)))))), ?_⟩
    obtain ⟨l, as, ps, rfl, hR, hn, k⟩ := h
    have hlen := hR.2.len
    walk_at "go"
    intro d hd
    walk_at "go"
    have s0 : Same H (upd H d (.dK [])) := same_new hd
    refine g_forQ (a := l) (xs := as.map V.ref) (fun i σ' H' => ∃ v1 v2, σ' = [some (.ref l), some (.ref d), v1, v2] ∧ Same H H' ∧ (∀ b, b ≠ d → H b = none → H' b = none) ∧ H' d = some (.dK ((dlast (ps.take i)).map entI))) (fun Q' q => by walk_at "go"; exact q) hR.1 ⟨none, none, rfl, s0, fun b hb e => by rw [upd_ne hb]; exact e, upd_same⟩
      (fun i σ' H' ⟨_, _, _, e, _⟩ => e) ?_ ?_
    · rintro i x σ' H' hx ⟨v1, v2, rfl, sm, hf, hd'⟩
      have hi : i < as.length := by
        have q := (List.getElem?_eq_some_iff.mp hx).1
        rw [List.length_map] at q
        exact q
      obtain ⟨a, p, h1, h2, h3⟩ := (hR.same sm).get (i := i) (by omega)
      have ex : x = .ref a := by
        rw [List.getElem?_map, h1] at hx
        exact (Option.some.inj hx).symm
      subst ex
      refine g_gtup h3 rfl ?_
      walk_at "go"
      refine ⟨d, _, rfl, DPut.k (k := Sum.inl p.1) hd' ?_, ?_⟩
      · have := dlast_len ps i
        rw [List.length_map]
        exact Nat.lt_of_le_of_lt this (Nat.lt_of_lt_of_le (show i < 10001 by omega) (by decide))
      · walk_at "go"
        refine ⟨_, _, rfl, same_mut sm hd, fun b hb e => by rw [upd_ne hb]; exact hf b hb e, ?_⟩
        rw [upd_same, putK_int, dlast_take h2]
    · rintro σ' H' ⟨v1, v2, rfl, sm, hf, hd'⟩
      walk_at "go"
      refine ⟨.inr (.inr (.inl ⟨rfl, .inl ⟨_, hd'⟩⟩)), ?_⟩
      refine ⟨d, _, rfl, rfl, hd', fun p hp => ?_⟩
      walk_at "go"
      have npd : d ≠ p := fun e => by rw [e, hp] at hd'; cases hd'
      refine ⟨p, d, _, rfl, upd_same, (upd_ne npd).trans hd', fun H2 l' ts qs s2 hl0 hperm hsort hl' hP => ?_⟩
      have s3 := sm.trans ((same_new hp).trans s2)
      rw [List.length_map, hlen, dlast_all] at hperm
      have hnd : (qs.map (·.1)).Nodup := by
        have e := dlast_nodup ps ps.length
        rw [dlast_all] at e
        exact (hperm.map (·.1)).nodup_iff.mpr e
      refine k H2 l' ts qs s3 ((sm.trans (same_new hp)).free hl0) hl' (prs_of hP) ⟨?_, fun x => by rw [List.mem_reverse]; exact hperm.mem_iff⟩ (by rw [hperm.length_eq, ← dlast_all]; exact dlast_len ps _)
      rw [List.pairwise_reverse]
      have h4 : qs.Pairwise (fun x y => x.1 ≠ y.1) := List.pairwise_map.mp hnd
      exact (hsort.and h4).imp (fun {x y} h => by omega)
theorem ok_spans (T : Txt K mg) : FnOk P w K mg base (L2.CX P w) 2 T.f_spans T.fd_spans ["terms", "first", "last"] (sp_spans K) := by
  refine T.F_spans.okX sc_spans (fun vs H Q E h => ?_) (fun cdv A outer s H vs Q E hr h => ?_)
  · first | (obtain ⟨_, rfl, _⟩ := h; rfl) | (obtain ⟨_, _, rfl, _⟩ := h; rfl) | (obtain ⟨_, _, _, rfl, _⟩ := h; rfl) | (obtain ⟨_, _, _, _, rfl, _⟩ := h; rfl) | (obtain ⟨_, _, _, _, _, rfl, _⟩ := h; rfl) | (obtain ⟨_, _, _, _, _, _, rfl, _⟩ := h; rfl) | (obtain ⟨_, _, _, _, _, _, _, rfl, _⟩ := h; rfl) | (obtain ⟨_, _, _, _, _, _, _, _, rfl, _⟩ := h; rfl) | (obtain ⟨_, _, _, _, _, _, _, _, _, rfl, _⟩ := h; rfl) | (obtain ⟨_, _, _, _, _, _, _, _, _, _, rfl, _⟩ := h; rfl) | (obtain ⟨_, _, _, _, _, _, _, _, _, _, _, rfl, _⟩ := h; rfl) | (obtain ⟨_, _, _, _, _, _, _, _, _, _, _, _, rfl, _⟩ := h; rfl) | (obtain ⟨_, _, _, _, _, _, _, _, _, _, _, _, _, rfl, _⟩ := h; rfl) | (obtain ⟨_, _, _, _, _, _, _, _, _, _, _, _, _, _, rfl, _⟩ := h; rfl) | (obtain ⟨_, _, _, _, _, _, _, _, _, _, _, _, _, _, _, rfl, _⟩ := h; rfl)
  · refine ⟨_, (pss_cons (ps_set (i := 3) sc_spans.nd rfl (Or.inl rfl) (pe_lst pa_nil))
  (pss_cons (ps_set (i := 4) sc_spans.nd rfl (Or.inl rfl) (pv 2))
  (pss_cons (ps_for (passes_of rfl) rfl (pi_reversed (by rfl) T.n_reversed (pa_cons (pe_callS (ok_in_order T) hr (by rfl) T.g_in_order T.F_in_order.kp T.b_in_order (fun σ => passAt (takes_of rfl rfl rfl rfl) σ) (by exact (pa_cons (pv 0) pa_nil))) pa_nil)) (pg_name (i := 5) sc_spans.nd rfl (Or.inl rfl))
  (pss_cons (ps_set (i := 6) sc_spans.nd rfl (Or.inl rfl) (pe_callB (call_max2 rfl) (by rfl) T.n_max (by decide +kernel) (pa_cons (pe_ix (show IxR _ (rIx2 K) from ix_lt) (pv 5) pe_int (fun _ _ => rfl)) (pa_cons (pv 1) pa_nil))))
  (pss_one (ps_if (pt_cmpR op_le (pv 6) (pv 4) (nomark _))
  (pss_cons (ps_expr (pe_bm PySem.F.plainAttrs_list PySem.F.slot_list_append PySem.F.type_list_append mt_append (pv 3) (pa_cons (pe_tup (pa_cons (pv 6) (pa_cons (pv 4) (pa_cons (pv 5) pa_nil)))) pa_nil)))
  (pss_one (ps_set (i := 4) sc_spans.nd rfl (Or.inl rfl) (pe_op op_sub (pv 6) pe_int))))
  pss_nil))))
  (pss_one (ps_ret (pe_revL (pv 3))))))), ?_⟩
    obtain ⟨l, as, ps, f, e, rfl, hR, hn, k⟩ := h
    walk_at "go"
    refine ⟨by walk_at "sz", fun l0 hl0 => ?_⟩
    walk_at "go"
    have s0 : Same H (upd H l0 (.lst [])) := same_new hl0
    refine g_forRv (g_iRev ?_)
    walk_at "go"
    refine ⟨l, as, ps, rfl, hR.same s0, hn, fun H2 l2 ts qs s2 hl20 hl2 hP hD hql => ?_⟩
    walk_at "go"
    refine ⟨l2, ts.map V.ref, rfl, SqL.of hl2, ?_⟩
    have hlen := hP.len
    have hds := hD.fall
    -- behind i pairs: their spans stand in found, the rest goes on with the end as it is
    refine rev_of (fun i σ' H' => ∃ v1 v2 cs ss e', σ' = [some (.ref l), some (.int f), some (.int e), some (.ref l0), some (.int e'), v1, v2] ∧ Same H H' ∧ H' l2 = some (.lst (ts.map V.ref)) ∧ Prs K H' ts qs ∧ H' l0 = some (.lst (cs.map V.ref)) ∧ Sps K H' cs ss ∧ ss.length ≤ i ∧ spanR qs.reverse f e = ss ++ spanR (qs.reverse.drop i) f e')
      ⟨_, _, [], [], e, rfl, s0.trans s2, hl2, hP, s2 _ _ upd_same, .nil, Nat.le_refl _, rfl⟩ (fun i σ' H' ⟨_, _, _, _, _, _, _, q, _⟩ => SqL.of q) ?_ ?_
    · rintro i x σ' H' hi hx ⟨v1, v2, cs, ss, e', rfl, sm, hq, hP', hl', hS, hn', he⟩
      have hi2 : i < ts.length := by rw [List.length_map] at hi; exact hi
      obtain ⟨p, hp⟩ : ∃ p, qs[qs.length - 1 - i]? = some p := ⟨_, List.getElem?_eq_getElem (by omega)⟩
      obtain ⟨a, h1, h2⟩ := hP'.get hp
      have ex : x = .ref a := by
        rw [List.length_map, List.getElem?_map, hlen, h1] at hx
        exact (Option.some.inj hx).symm
      subst ex
      have hrev : qs.reverse[i]? = some p := by
        rw [List.getElem?_reverse (by omega)]
        exact hp
      have hdrop : qs.reverse.drop i = p :: qs.reverse.drop (i + 1) := by
        obtain ⟨hh, e3⟩ := List.getElem?_eq_some_iff.mp hrev
        rw [← e3]
        exact List.drop_eq_getElem_cons hh
      rw [hdrop, spanR] at he
      walk_at "go"
      refine r_ixT h2 at0 ?_
      walk_at "go"
      refine ⟨_, _, rfl, ?_⟩
      walk_at "go"
      have em : (if f > p.1 then f else p.1) = mx p.1 f := rfl
      rw [em]
      refine g_ite (fun c => ?_) (fun c => ?_)
      · rw [if_pos c] at he
        walk_at "go"
        refine ⟨.inl ⟨rfl, _, SqL.of hl'⟩, ?_⟩
        walk_at "go"
        refine ⟨by walk_at "sz", fun t ht => ?_⟩
        walk_at "go"
        have hlc := hS.len
        refine ⟨l0, _, _, rfl, rfl, (same_new ht) _ _ hl', ?_, ?_⟩
        · rw [List.length_map]
          exact Nat.lt_of_lt_of_le (show cs.length < 10001 by omega) (by decide)
        · walk_at "go"
          have ntl : t ≠ l0 := fun e => by rw [e, hl'] at ht; cases ht
          have nl2 : l0 ≠ l2 := fun e => by rw [← e, upd_same] at hl20; cases hl20
          have hl3 := (same_new (o := .tup [.int (mx p.1 f), .int e', .ref a]) ht) _ _ hl'
          refine ⟨_, _, cs ++ [t], ss ++ [(mx p.1 f, e', p)], mx p.1 f - 1, rfl, same_mut (sm.trans (same_new ht)) hl0, (upd_ne nl2.symm).trans ((same_new ht) _ _ hq), (hP'.same (same_new ht)).mut hl3, ?_, ?_, ?_, ?_⟩
          · rw [upd_same, List.map_append]
            rfl
          · exact Sps.append (qs := [(mx p.1 f, e', p)]) (.cons (SqT.of ((upd_ne ntl).trans upd_same)) (sqT_mut hl3 (same_sqT (same_new ht) h2)) .nil) ((hS.same (same_new ht)).mut hl3)
          · rw [List.length_append]
            exact Nat.add_le_add_right hn' 1
          · rw [he, List.append_assoc]
            rfl
      · rw [if_neg c] at he
        walk_at "go"
        exact ⟨_, _, cs, ss, e', rfl, sm, hq, hP', hl', hS, by omega, he⟩
    · rintro σ' H' ⟨v1, v2, cs, ss, e', rfl, sm, hq, hP', hl', hS, hn', he⟩
      walk_at "go"
      refine ⟨l0, _, rfl, SqL.of hl', fun l' hn0 => ?_⟩
      rw [← List.map_reverse]
      have e4 : spanR qs.reverse f e = ss := by
        rw [he, List.drop_eq_nil_of_le (by rw [List.length_reverse, List.length_map]; omega)]
        exact List.append_nil _
      refine k _ l' cs.reverse qs.reverse (sm.trans (same_new hn0)) (sm.free hn0) upd_same hD ?_
      rw [e4]
      exact (hS.same (same_new hn0)).rev
theorem ok_pair_held (T : Txt K mg) : FnOk P w K mg base (L2.CX P w) 1 T.f_pair_held T.fd_pair_held ["terms", "day"] (sp_pair_held K) := by
  refine T.F_pair_held.okX sc_pair_held (fun vs H Q E h => ?_) (fun cdv A outer s H vs Q E hr h => ?_)
  · first | (obtain ⟨_, rfl, _⟩ := h; rfl) | (obtain ⟨_, _, rfl, _⟩ := h; rfl) | (obtain ⟨_, _, _, rfl, _⟩ := h; rfl) | (obtain ⟨_, _, _, _, rfl, _⟩ := h; rfl) | (obtain ⟨_, _, _, _, _, rfl, _⟩ := h; rfl) | (obtain ⟨_, _, _, _, _, _, rfl, _⟩ := h; rfl) | (obtain ⟨_, _, _, _, _, _, _, rfl, _⟩ := h; rfl) | (obtain ⟨_, _, _, _, _, _, _, _, rfl, _⟩ := h; rfl) | (obtain ⟨_, _, _, _, _, _, _, _, _, rfl, _⟩ := h; rfl) | (obtain ⟨_, _, _, _, _, _, _, _, _, _, rfl, _⟩ := h; rfl) | (obtain ⟨_, _, _, _, _, _, _, _, _, _, _, rfl, _⟩ := h; rfl) | (obtain ⟨_, _, _, _, _, _, _, _, _, _, _, _, rfl, _⟩ := h; rfl) | (obtain ⟨_, _, _, _, _, _, _, _, _, _, _, _, _, rfl, _⟩ := h; rfl) | (obtain ⟨_, _, _, _, _, _, _, _, _, _, _, _, _, _, rfl, _⟩ := h; rfl) | (obtain ⟨_, _, _, _, _, _, _, _, _, _, _, _, _, _, _, rfl, _⟩ := h; rfl)
  · refine ⟨_, (pss_cons (ps_set (i := 2) sc_pair_held.nd rfl (Or.inl rfl) pe_non)
  (pss_cons (ps_for (passes_of rfl) rfl (show PI _ _ _ (iLT K _) from pi_lt (pv 0)) (pg_name (i := 3) sc_pair_held.nd rfl (Or.inl rfl))
  (pss_cons (ps_if (pt_cmpR op_gt (pe_ix (show IxR _ (rIx2 K) from ix_lt) (pv 3) pe_int (fun _ _ => rfl)) (pv 1) (nomark _))
  (pss_one ps_continue)
  pss_nil)
  (pss_one (ps_if (PW.pt (pw_or (pt_cmpR op_isA (pv 2) pe_non (nomark _)) (pw_or1 (pt_cmpR op_ge (pe_ix (show IxR _ (rIx2 K) from ix_lt) (pv 3) pe_int (fun _ _ => rfl)) (pe_ix (show IxR _ (rIx2 K) from ix_lt) (pv 2) pe_int (fun _ _ => rfl)) (nomark _)))))
  (pss_one (ps_set (i := 2) sc_pair_held.nd rfl (Or.inl rfl) (pv 3)))
  pss_nil))))
  (pss_one (ps_ret (pv 2))))), ?_⟩
    obtain ⟨l, day, as, ps, rfl, hR, k⟩ := h
    have hlen := hR.2.len
    walk_at "go"
    refine g_forQ (a := l) (xs := as.map V.ref) (fun i σ' H' => H = H' ∧ ∃ v, σ' = [some (.ref l), some (.int day), some (pairV as (bestN ps day i)), v]) (fun Q' q => by walk_at "go"; exact q) hR.1 ⟨rfl, none, rfl⟩
      (fun i σ' H' ⟨e, _⟩ => e ▸ Same.refl H) ?_ ?_
    · rintro i x σ' H' hx ⟨rfl, v, rfl⟩
      have hi : i < as.length := by
        have q := (List.getElem?_eq_some_iff.mp hx).1
        rw [List.length_map] at q
        exact q
      obtain ⟨a, p, h1, h2, h3⟩ := hR.get (i := i) (by omega)
      have ex : x = .ref a := by
        rw [List.getElem?_map, h1] at hx
        exact (Option.some.inj hx).symm
      subst ex
      have eb : bestN ps day (i + 1) = bestStep ps day (bestN ps day i) i := rfl
      have gp : ps.getD i (0, 0) = p := getD_of h2
      have ga : as.getD i 0 = a := getD_of h1
      walk_at "go"
      refine r_ixT h3 at0 ?_
      walk_at "go"
      refine g_ite (fun c => ?_) (fun c => ?_)
      · walk_at "go"
        refine ⟨rfl, some (.ref a), ?_⟩
        have e2 : bestN ps day (i + 1) = bestN ps day i := by
          rw [eb]
          unfold bestStep
          rw [gp]
          cases e : bestN ps day i with
          | none => exact if_neg (by omega)
          | some j => exact if_neg (by omega)
        rw [e2]
        rfl
      · walk_at "gos"
        cases e : bestN ps day i with
        | none =>
          have e2 : bestN ps day (i + 1) = some i := by
            rw [eb, e]
            unfold bestStep
            dsimp only
            rw [gp]
            exact if_pos (by omega)
          refine g_ifB true (fun Q' q => ?_) (fun _ => ?_) (fun z => by cases z)
          · walk_at "go"
            refine g_ite (fun _ => ?_) (fun z => absurd rfl z)
            exact q
          · walk_at "go"
            refine ⟨rfl, some (.ref a), ?_⟩
            rw [e2]
            show _ = [_, _, some (V.ref (as.getD i 0)), _]
            rw [ga]
            rfl
        | some j =>
          have hj := bestN_lt e
          obtain ⟨b, pb, j1, j2, j3⟩ := hR.get (i := j) (by omega)
          have gpb : ps.getD j (0, 0) = pb := getD_of j2
          have gab : as.getD j 0 = b := getD_of j1
          have ev : pairV as (some j) = .ref b := by
            show V.ref (as.getD j 0) = _
            rw [gab]
          rw [ev]
          refine g_ifB (decide (pb.1 ≤ p.1)) (fun Q' q => ?_) (fun c2 => ?_) (fun c2 => ?_)
          · walk_at "go"
            refine g_ite (fun z => by cases z) (fun _ => ?_)
            walk_at "go"
            refine r_ixT h3 at0 ?_
            walk_at "go"
            refine r_ixT j3 at0 ?_
            walk_at "go"
            exact q
          · walk_at "go"
            have c3 : pb.1 ≤ p.1 := of_decide_eq_true c2
            refine ⟨rfl, some (.ref a), ?_⟩
            have e2 : bestN ps day (i + 1) = some i := by
              rw [eb, e]
              unfold bestStep
              dsimp only
              rw [gp, gpb]
              exact if_pos ⟨by omega, c3⟩
            rw [e2]
            show _ = [_, _, some (V.ref (as.getD i 0)), _]
            rw [ga]
            rfl
          · walk_at "go"
            have c3 : ¬ pb.1 ≤ p.1 := of_decide_eq_false c2
            refine ⟨rfl, some (.ref a), ?_⟩
            have e2 : bestN ps day (i + 1) = some j := by
              rw [eb, e]
              unfold bestStep
              dsimp only
              rw [gp, gpb]
              exact if_neg fun z => c3 z.2
            rw [e2, ev]
            rfl
    · rintro σ' H' ⟨rfl, v, rfl⟩
      walk_at "go"
      rw [List.length_map, hlen]
      exact k
theorem ok_held (T : Txt K mg) : FnOk P w K mg base (L2.CX P w) 2 T.f_held T.fd_held ["terms", "day"] (sp_held K) := by
  refine T.F_held.okX sc_held (fun vs H Q E h => ?_) (fun cdv A outer s H vs Q E hr h => ?_)
  · first | (obtain ⟨_, rfl, _⟩ := h; rfl) | (obtain ⟨_, _, rfl, _⟩ := h; rfl) | (obtain ⟨_, _, _, rfl, _⟩ := h; rfl) | (obtain ⟨_, _, _, _, rfl, _⟩ := h; rfl) | (obtain ⟨_, _, _, _, _, rfl, _⟩ := h; rfl) | (obtain ⟨_, _, _, _, _, _, rfl, _⟩ := h; rfl) | (obtain ⟨_, _, _, _, _, _, _, rfl, _⟩ := h; rfl) | (obtain ⟨_, _, _, _, _, _, _, _, rfl, _⟩ := h; rfl) | (obtain ⟨_, _, _, _, _, _, _, _, _, rfl, _⟩ := h; rfl) | (obtain ⟨_, _, _, _, _, _, _, _, _, _, rfl, _⟩ := h; rfl) | (obtain ⟨_, _, _, _, _, _, _, _, _, _, _, rfl, _⟩ := h; rfl) | (obtain ⟨_, _, _, _, _, _, _, _, _, _, _, _, rfl, _⟩ := h; rfl) | (obtain ⟨_, _, _, _, _, _, _, _, _, _, _, _, _, rfl, _⟩ := h; rfl) | (obtain ⟨_, _, _, _, _, _, _, _, _, _, _, _, _, _, rfl, _⟩ := h; rfl) | (obtain ⟨_, _, _, _, _, _, _, _, _, _, _, _, _, _, _, rfl, _⟩ := h; rfl)
  · refine ⟨_, (pss_cons (ps_set (i := 2) sc_held.nd rfl (Or.inl rfl) (pe_callS (ok_pair_held T) hr (by rfl) T.g_pair_held T.F_pair_held.kp T.b_pair_held (fun σ => passAt (takes_of rfl rfl rfl rfl) σ) (by exact (pa_cons (pv 0) (pa_cons (pv 1) pa_nil)))))
  (pss_cons (ps_if (pt_cmpR op_isA (pv 2) pe_non (nomark _))
  (pss_one (ps_ret pe_non))
  pss_nil)
  (pss_one (ps_ret (pe_ix (show IxR _ (rIx2 K) from ix_lt) (pv 2) pe_int (fun _ _ => rfl)))))), ?_⟩
    obtain ⟨l, day, as, ps, rfl, hR, k⟩ := h
    walk_at "go"
    refine ⟨l, day, as, ps, rfl, hR, ?_⟩
    unfold heldV at k
    cases e : best ps day with
    | none =>
      rw [e] at k
      walk_at "go"
      refine g_ite (fun _ => ?_) (fun z => absurd rfl z)
      walk_at "go"
      exact k
    | some j =>
      rw [e] at k
      obtain ⟨b, pb, j1, j2, j3⟩ := hR.get (best_lt e)
      have gpb : ps.getD j (0, 0) = pb := getD_of j2
      have gab : as.getD j 0 = b := getD_of j1
      have ev : pairV as (some j) = .ref b := by
        show V.ref (as.getD j 0) = _
        rw [gab]
      rw [ev]
      walk_at "go"
      refine g_ite (fun z => by cases z) (fun _ => ?_)
      walk_at "go"
      refine r_ixT j3 at1 ?_
      rw [← gpb]
      exact k
theorem ok_rent_on (T : Txt K mg) : FnOk P w K mg base (L2.CX P w) 3 T.f_rent_on T.fd_rent_on ["steps", "gauges", "day"] (sp_rent_on K) := by
  refine T.F_rent_on.okX sc_rent_on (fun vs H Q E h => ?_) (fun cdv A outer s H vs Q E hr h => ?_)
  · first | (obtain ⟨_, rfl, _⟩ := h; rfl) | (obtain ⟨_, _, rfl, _⟩ := h; rfl) | (obtain ⟨_, _, _, rfl, _⟩ := h; rfl) | (obtain ⟨_, _, _, _, rfl, _⟩ := h; rfl) | (obtain ⟨_, _, _, _, _, rfl, _⟩ := h; rfl) | (obtain ⟨_, _, _, _, _, _, rfl, _⟩ := h; rfl) | (obtain ⟨_, _, _, _, _, _, _, rfl, _⟩ := h; rfl) | (obtain ⟨_, _, _, _, _, _, _, _, rfl, _⟩ := h; rfl) | (obtain ⟨_, _, _, _, _, _, _, _, _, rfl, _⟩ := h; rfl) | (obtain ⟨_, _, _, _, _, _, _, _, _, _, rfl, _⟩ := h; rfl) | (obtain ⟨_, _, _, _, _, _, _, _, _, _, _, rfl, _⟩ := h; rfl) | (obtain ⟨_, _, _, _, _, _, _, _, _, _, _, _, rfl, _⟩ := h; rfl) | (obtain ⟨_, _, _, _, _, _, _, _, _, _, _, _, _, rfl, _⟩ := h; rfl) | (obtain ⟨_, _, _, _, _, _, _, _, _, _, _, _, _, _, rfl, _⟩ := h; rfl) | (obtain ⟨_, _, _, _, _, _, _, _, _, _, _, _, _, _, _, rfl, _⟩ := h; rfl)
  · refine ⟨_, (pss_cons (ps_set (i := 3) sc_rent_on.nd rfl (Or.inl rfl) (pe_callS (ok_pair_held T) (hr.mono (by decide)) (by rfl) T.g_pair_held T.F_pair_held.kp T.b_pair_held (fun σ => passAt (takes_of rfl rfl rfl rfl) σ) (by exact (pa_cons (pv 0) (pa_cons (pv 2) pa_nil)))))
  (pss_cons (ps_if (pt_cmpR op_isA (pv 3) pe_non (nomark _))
  (pss_one (ps_ret pe_int))
  pss_nil)
  (pss_one (ps_ret (pe_op op_fdiv (pe_op op_mul (pe_ix (show IxR _ (rIx2 K) from ix_lt) (pv 3) pe_int (fun _ _ => rfl)) (pe_callS (ok_held T) hr (by rfl) T.g_held T.F_held.kp T.b_held (fun σ => passAt (takes_of rfl rfl rfl rfl) σ) (by exact (pa_cons (pv 1) (pa_cons (pv 2) pa_nil))))) (pe_callS (ok_held T) hr (by rfl) T.g_held T.F_held.kp T.b_held (fun σ => passAt (takes_of rfl rfl rfl rfl) σ) (by exact (pa_cons (pv 1) (pa_cons (pe_ix (show IxR _ (rIx2 K) from ix_lt) (pv 3) pe_int (fun _ _ => rfl)) pa_nil))))))))), ?_⟩
    obtain ⟨l1, as, st, l2, bs, ga, d, rfl, h1, h2, hs, hg, hd, k⟩ := h
    walk_at "go"
    refine ⟨l1, d, as, st, rfl, h1, ?_⟩
    unfold rentd at k
    walk_at "go"
    cases e : best st d with
    | none =>
      rw [show pairH st d = none by rw [pairH, e]; rfl] at k
      refine g_ite (fun _ => ?_) (fun z => absurd rfl z)
      walk_at "go"
      exact k
    | some j =>
      obtain ⟨b, p, e1, e2, b0, p0, p1⟩ := hs.held e
      rw [e2] at k
      obtain ⟨a1, ev, hq⟩ := h1.pair e1
      rw [ev]
      refine g_ite (fun z => by cases z) (fun _ => ?_)
      obtain ⟨j2, b2, g2, f1, f2, f3, f4, f5, f6⟩ := hg.held hd
      obtain ⟨j3, b3, g3, m1, m2, m3, m4, m5, m6⟩ := hg.held b0
      dsimp only at k
      rw [f3, m3] at k
      walk_at "go"
      refine r_ixT hq at1 ?_
      walk_at "go"
      refine ⟨l2, d, bs, ga, rfl, h2, ?_⟩
      rw [f3]
      walk_at "go"
      show rI CMul _ (.int p) (.int g2) H _
      walk_at "go"
      refine r_ixT hq at0 ?_
      walk_at "go"
      refine ⟨l2, b, bs, ga, rfl, h2, ?_⟩
      rw [m3]
      show rI CDiv _ (.int (p * g2)) (.int g3) H _
      walk_at "go"
      exact k
theorem ok_part (T : Txt K mg) : FnOk P w K mg base (L2.CX P w) 5 T.f_part T.fd_part ["rent", "day"] (sp_part) := by
  refine T.F_part.okX sc_part (fun vs H Q E h => ?_) (fun cdv A outer s H vs Q E hr h => ?_)
  · first | (obtain ⟨_, rfl, _⟩ := h; rfl) | (obtain ⟨_, _, rfl, _⟩ := h; rfl) | (obtain ⟨_, _, _, rfl, _⟩ := h; rfl) | (obtain ⟨_, _, _, _, rfl, _⟩ := h; rfl) | (obtain ⟨_, _, _, _, _, rfl, _⟩ := h; rfl) | (obtain ⟨_, _, _, _, _, _, rfl, _⟩ := h; rfl) | (obtain ⟨_, _, _, _, _, _, _, rfl, _⟩ := h; rfl) | (obtain ⟨_, _, _, _, _, _, _, _, rfl, _⟩ := h; rfl) | (obtain ⟨_, _, _, _, _, _, _, _, _, rfl, _⟩ := h; rfl) | (obtain ⟨_, _, _, _, _, _, _, _, _, _, rfl, _⟩ := h; rfl) | (obtain ⟨_, _, _, _, _, _, _, _, _, _, _, rfl, _⟩ := h; rfl) | (obtain ⟨_, _, _, _, _, _, _, _, _, _, _, _, rfl, _⟩ := h; rfl) | (obtain ⟨_, _, _, _, _, _, _, _, _, _, _, _, _, rfl, _⟩ := h; rfl) | (obtain ⟨_, _, _, _, _, _, _, _, _, _, _, _, _, _, rfl, _⟩ := h; rfl) | (obtain ⟨_, _, _, _, _, _, _, _, _, _, _, _, _, _, _, rfl, _⟩ := h; rfl)
  · refine ⟨_, (pss_cons (ps_asg (pe_callS (ok_month_of T) hr (by rfl) T.g_month_of T.F_month_of.kp T.b_month_of (fun σ => passAt (takes_of rfl rfl rfl rfl) σ) (by exact (pa_cons (pv 1) pa_nil))) (pg_tup rfl (pgs_cons (pg_name (i := 2) sc_part.nd rfl (Or.inl rfl)) (pgs_cons (pg_name (i := 3) sc_part.nd rfl (Or.inl rfl)) (pgs_cons (pg_name (i := 4) sc_part.nd rfl (Or.inl rfl)) pgs_nil)))))
  (pss_cons (ps_set (i := 5) sc_part.nd rfl (Or.inl rfl) (pe_callS (ok_month_days T) (hr.mono (by decide)) (by rfl) T.g_month_days T.F_month_days.kp T.b_month_days (fun σ => passAt (takes_of rfl rfl rfl rfl) σ) (by exact (pa_cons (pv 2) (pa_cons (pv 3) pa_nil)))))
  (pss_one (ps_ret (pe_op op_sub (pe_op op_fdiv (pe_op op_mul (pv 0) (pv 4)) (pv 5)) (pe_op op_fdiv (pe_op op_mul (pv 0) (pe_op op_sub (pv 4) pe_int)) (pv 5))))))), ?_⟩
    obtain ⟨r, d, rfl, h0, h1, k⟩ := h
    walk_at "go"
    refine ⟨_, rfl, trivial, fun i y m kk hi _ _ hI p hp => ?_, fun c => absurd c (by simp [within, h0, h1])⟩
    cases hi
    have e := partd_at (r := r) h0 hI
    have pf := mlen_pos (y := y) hI.m1 hI.m2
    have k1 := hI.k1
    have k2 := hI.k2
    walk_at "go"
    refine g_gtup (SqT.of upd_same) rfl ?_
    walk_at "go"
    refine ⟨_, _, rfl, trivial, trivial, fun i m hi hm _ => ?_, fun c => absurd (isdate_yes hI h1) (by rw [c]; decide)⟩
    cases hi
    cases hm
    walk_at "go"
    have k' := k _ (same_new (o := .tup [.int y, .int m, .int kk]) hp)
    rw [e] at k'
    exact k'
theorem ok_parts_through (T : Txt K mg) : FnOk P w K mg base (L2.CX P w) 4 T.f_parts_through T.fd_parts_through ["rent", "year", "month", "number"] (sp_parts_through) := by
  refine T.F_parts_through.okX sc_parts_through (fun vs H Q E h => ?_) (fun cdv A outer s H vs Q E hr h => ?_)
  · first | (obtain ⟨_, rfl, _⟩ := h; rfl) | (obtain ⟨_, _, rfl, _⟩ := h; rfl) | (obtain ⟨_, _, _, rfl, _⟩ := h; rfl) | (obtain ⟨_, _, _, _, rfl, _⟩ := h; rfl) | (obtain ⟨_, _, _, _, _, rfl, _⟩ := h; rfl) | (obtain ⟨_, _, _, _, _, _, rfl, _⟩ := h; rfl) | (obtain ⟨_, _, _, _, _, _, _, rfl, _⟩ := h; rfl) | (obtain ⟨_, _, _, _, _, _, _, _, rfl, _⟩ := h; rfl) | (obtain ⟨_, _, _, _, _, _, _, _, _, rfl, _⟩ := h; rfl) | (obtain ⟨_, _, _, _, _, _, _, _, _, _, rfl, _⟩ := h; rfl) | (obtain ⟨_, _, _, _, _, _, _, _, _, _, _, rfl, _⟩ := h; rfl) | (obtain ⟨_, _, _, _, _, _, _, _, _, _, _, _, rfl, _⟩ := h; rfl) | (obtain ⟨_, _, _, _, _, _, _, _, _, _, _, _, _, rfl, _⟩ := h; rfl) | (obtain ⟨_, _, _, _, _, _, _, _, _, _, _, _, _, _, rfl, _⟩ := h; rfl) | (obtain ⟨_, _, _, _, _, _, _, _, _, _, _, _, _, _, _, rfl, _⟩ := h; rfl)
  · refine ⟨_, (pss_cons (ps_set (i := 4) sc_parts_through.nd rfl (Or.inl rfl) (pe_op op_plus (pe_op op_mul (pv 1) pe_int) (pv 2)))
  (pss_one (ps_ret (pe_op op_plus (pe_op op_mul (pv 0) (pv 4)) (pe_op op_fdiv (pe_op op_mul (pv 0) (pv 3)) (pe_callS (ok_month_days T) hr (by rfl) T.g_month_days T.F_month_days.kp T.b_month_days (fun σ => passAt (takes_of rfl rfl rfl rfl) σ) (by exact (pa_cons (pv 1) (pa_cons (pv 2) pa_nil))))))))), ?_⟩
    obtain ⟨r, y, m, kk, rfl, hy1, hy2, hm1, hm2, hk1, hk2, k⟩ := h
    have pf := mlen_pos (y := y) hm1 hm2
    walk_at "go"
    refine ⟨_, _, rfl, trivial, trivial, fun i m hi hm _ => ?_, fun c => absurd (show isdate (.int y) (.int m) = true by simp [isdate, within, hy1, hy2, hm1, hm2]) (by rw [c]; decide)⟩
    cases hi
    cases hm
    walk_at "go"
    exact k
theorem ok_parts (T : Txt K mg) : FnOk P w K mg base (L2.CX P w) 5 T.f_parts T.fd_parts ["rent", "first", "last"] (sp_parts) := by
  refine T.F_parts.okX sc_parts (fun vs H Q E h => ?_) (fun cdv A outer s H vs Q E hr h => ?_)
  · first | (obtain ⟨_, rfl, _⟩ := h; rfl) | (obtain ⟨_, _, rfl, _⟩ := h; rfl) | (obtain ⟨_, _, _, rfl, _⟩ := h; rfl) | (obtain ⟨_, _, _, _, rfl, _⟩ := h; rfl) | (obtain ⟨_, _, _, _, _, rfl, _⟩ := h; rfl) | (obtain ⟨_, _, _, _, _, _, rfl, _⟩ := h; rfl) | (obtain ⟨_, _, _, _, _, _, _, rfl, _⟩ := h; rfl) | (obtain ⟨_, _, _, _, _, _, _, _, rfl, _⟩ := h; rfl) | (obtain ⟨_, _, _, _, _, _, _, _, _, rfl, _⟩ := h; rfl) | (obtain ⟨_, _, _, _, _, _, _, _, _, _, rfl, _⟩ := h; rfl) | (obtain ⟨_, _, _, _, _, _, _, _, _, _, _, rfl, _⟩ := h; rfl) | (obtain ⟨_, _, _, _, _, _, _, _, _, _, _, _, rfl, _⟩ := h; rfl) | (obtain ⟨_, _, _, _, _, _, _, _, _, _, _, _, _, rfl, _⟩ := h; rfl) | (obtain ⟨_, _, _, _, _, _, _, _, _, _, _, _, _, _, rfl, _⟩ := h; rfl) | (obtain ⟨_, _, _, _, _, _, _, _, _, _, _, _, _, _, _, rfl, _⟩ := h; rfl)
  · refine ⟨_, (pss_cons (ps_asg (pe_callS (ok_month_of T) hr (by rfl) T.g_month_of T.F_month_of.kp T.b_month_of (fun σ => passAt (takes_of rfl rfl rfl rfl) σ) (by exact (pa_cons (pv 1) pa_nil))) (pg_tup rfl (pgs_cons (pg_name (i := 3) sc_parts.nd rfl (Or.inl rfl)) (pgs_cons (pg_name (i := 4) sc_parts.nd rfl (Or.inl rfl)) (pgs_cons (pg_name (i := 5) sc_parts.nd rfl (Or.inl rfl)) pgs_nil)))))
  (pss_cons (ps_set (i := 6) sc_parts.nd rfl (Or.inl rfl) (pe_callS (ok_parts_through T) hr (by rfl) T.g_parts_through T.F_parts_through.kp T.b_parts_through (fun σ => passAt (takes_of rfl rfl rfl rfl) σ) (by exact (pa_cons (pv 0) (pa_cons (pv 3) (pa_cons (pv 4) (pa_cons (pe_op op_sub (pv 5) pe_int) pa_nil)))))))
  (pss_cons (ps_asg (pe_callS (ok_month_of T) hr (by rfl) T.g_month_of T.F_month_of.kp T.b_month_of (fun σ => passAt (takes_of rfl rfl rfl rfl) σ) (by exact (pa_cons (pv 2) pa_nil))) (pg_tup rfl (pgs_cons (pg_name (i := 3) sc_parts.nd rfl (Or.inl rfl)) (pgs_cons (pg_name (i := 4) sc_parts.nd rfl (Or.inl rfl)) (pgs_cons (pg_name (i := 5) sc_parts.nd rfl (Or.inl rfl)) pgs_nil)))))
  (pss_one (ps_ret (pe_op op_sub (pe_callS (ok_parts_through T) hr (by rfl) T.g_parts_through T.F_parts_through.kp T.b_parts_through (fun σ => passAt (takes_of rfl rfl rfl rfl) σ) (by exact (pa_cons (pv 0) (pa_cons (pv 3) (pa_cons (pv 4) (pa_cons (pv 5) pa_nil)))))) (pv 6))))))), ?_⟩
    obtain ⟨r, s', t, rfl, h0, h1, h2, k⟩ := h
    walk_at "go"
    refine ⟨_, rfl, trivial, fun i y m kk hi _ _ hI p hp => ?_, fun c => absurd c (by simp [within, h0, show s' ≤ 99999 by omega])⟩
    cases hi
    have k1 := hI.k1
    have k2 := hI.k2
    have pf := mlen_pos (y := y) hI.m1 hI.m2
    have hy := hI.yle (by omega)
    obtain ⟨e1, e2, e3⟩ := date_at h0 hI
    walk_at "go"
    refine g_gtup (SqT.of upd_same) rfl ?_
    walk_at "go"
    refine ⟨_, _, _, _, rfl, hI.y1, hy, hI.m1, hI.m2, by omega, by omega, ?_⟩
    walk_at "go"
    refine ⟨_, rfl, trivial, fun i y' m' kk' hi _ _ hJ p' hp' => ?_, fun c => absurd c (by simp [within, h2, show 0 ≤ t by omega])⟩
    cases hi
    have k1' := hJ.k1
    have k2' := hJ.k2
    have pf' := mlen_pos (y := y') hJ.m1 hJ.m2
    have hy' := hJ.yle h2
    obtain ⟨f1, f2, f3⟩ := date_at (show 0 ≤ t by omega) hJ
    walk_at "go"
    refine g_gtup (SqT.of upd_same) rfl ?_
    walk_at "go"
    refine ⟨_, _, _, _, rfl, hJ.y1, hy', hJ.m1, hJ.m2, by omega, by omega, ?_⟩
    walk_at "go"
    have ee := parts_sum (r := r) h0 (t - s').toNat
    rw [show s' + (((t - s').toNat : Nat) : Int) = t by omega, thr, ahd, dlen, dlen, e1, e2, e3, f1, f2, f3] at ee
    have k' := k _ ((same_new (o := .tup [.int y, .int m, .int kk]) hp).trans (same_new (o := .tup [.int y', .int m', .int kk']) hp'))
    rw [ee] at k'
    exact k'
theorem ok_owed (T : Txt K mg) : FnOk P w K mg base (L2.CX P w) 6 T.f_owed T.fd_owed ["steps", "gauges", "first", "last"] (sp_owed K) := by
  refine T.F_owed.okX sc_owed (fun vs H Q E h => ?_) (fun cdv A outer s H vs Q E hr h => ?_)
  · first | (obtain ⟨_, rfl, _⟩ := h; rfl) | (obtain ⟨_, _, rfl, _⟩ := h; rfl) | (obtain ⟨_, _, _, rfl, _⟩ := h; rfl) | (obtain ⟨_, _, _, _, rfl, _⟩ := h; rfl) | (obtain ⟨_, _, _, _, _, rfl, _⟩ := h; rfl) | (obtain ⟨_, _, _, _, _, _, rfl, _⟩ := h; rfl) | (obtain ⟨_, _, _, _, _, _, _, rfl, _⟩ := h; rfl) | (obtain ⟨_, _, _, _, _, _, _, _, rfl, _⟩ := h; rfl) | (obtain ⟨_, _, _, _, _, _, _, _, _, rfl, _⟩ := h; rfl) | (obtain ⟨_, _, _, _, _, _, _, _, _, _, rfl, _⟩ := h; rfl) | (obtain ⟨_, _, _, _, _, _, _, _, _, _, _, rfl, _⟩ := h; rfl) | (obtain ⟨_, _, _, _, _, _, _, _, _, _, _, _, rfl, _⟩ := h; rfl) | (obtain ⟨_, _, _, _, _, _, _, _, _, _, _, _, _, rfl, _⟩ := h; rfl) | (obtain ⟨_, _, _, _, _, _, _, _, _, _, _, _, _, _, rfl, _⟩ := h; rfl) | (obtain ⟨_, _, _, _, _, _, _, _, _, _, _, _, _, _, _, rfl, _⟩ := h; rfl)
  · refine ⟨_, (pss_cons (ps_set (i := 4) sc_owed.nd rfl (Or.inl rfl) pe_int)
  (pss_cons (ps_for (passes_of rfl) rfl (show PI _ _ _ (iLT K _) from pi_lt (pe_callS (ok_spans T) (hr.mono (by decide)) (by rfl) T.g_spans T.F_spans.kp T.b_spans (fun σ => passAt (takes_of rfl rfl rfl rfl) σ) (by exact (pa_cons (pv 0) (pa_cons (pv 2) (pa_cons (pv 3) pa_nil)))))) (pg_tup rfl (pgs_cons (pg_name (i := 5) sc_owed.nd rfl (Or.inl rfl)) (pgs_cons (pg_name (i := 6) sc_owed.nd rfl (Or.inl rfl)) (pgs_cons (pg_name (i := 7) sc_owed.nd rfl (Or.inl rfl)) pgs_nil))))
  (pss_cons (ps_set (i := 8) sc_owed.nd rfl (Or.inl rfl) (pe_callS (ok_held T) (hr.mono (by decide)) (by rfl) T.g_held T.F_held.kp T.b_held (fun σ => passAt (takes_of rfl rfl rfl rfl) σ) (by exact (pa_cons (pv 1) (pa_cons (pe_ix (show IxR _ (rIx2 K) from ix_lt) (pv 7) pe_int (fun _ _ => rfl)) pa_nil)))))
  (pss_one (ps_for (passes_of rfl) rfl (show PI _ _ _ (iLT K _) from pi_lt (pe_callS (ok_spans T) (hr.mono (by decide)) (by rfl) T.g_spans T.F_spans.kp T.b_spans (fun σ => passAt (takes_of rfl rfl rfl rfl) σ) (by exact (pa_cons (pv 1) (pa_cons (pv 5) (pa_cons (pv 6) pa_nil)))))) (pg_tup rfl (pgs_cons (pg_name (i := 9) sc_owed.nd rfl (Or.inl rfl)) (pgs_cons (pg_name (i := 10) sc_owed.nd rfl (Or.inl rfl)) (pgs_cons (pg_name (i := 11) sc_owed.nd rfl (Or.inl rfl)) pgs_nil))))
  (pss_cons (ps_set (i := 12) sc_owed.nd rfl (Or.inl rfl) (pe_op op_fdiv (pe_op op_mul (pe_ix (show IxR _ (rIx2 K) from ix_lt) (pv 7) pe_int (fun _ _ => rfl)) (pe_ix (show IxR _ (rIx2 K) from ix_lt) (pv 11) pe_int (fun _ _ => rfl))) (pv 8)))
  (pss_one (ps_aug (i := 4) sc_owed.nd rfl (Or.inl rfl) (pe_callS (ok_parts T) hr (by rfl) T.g_parts T.F_parts.kp T.b_parts (fun σ => passAt (takes_of rfl rfl rfl rfl) σ) (by exact (pa_cons (pv 12) (pa_cons (pv 9) (pa_cons (pv 10) pa_nil))))) ip_add)))))))
  (pss_one (ps_ret (pv 4))))), ?_⟩
    obtain ⟨l1, as, st, l2, bs, ga, f, e, rfl, h1, h2, hs, hg, n1, n2, hf, he, k⟩ := h
    walk_at "go"
    refine g_forN (g_iL ?_)
    walk_at "go"
    refine ⟨l1, as, st, f, e, rfl, h1, n1, fun H1 l3 ts R s1 hl30 hl3 hD hS => ?_⟩
    walk_at "go"
    refine ⟨l3, rfl, ⟨_, SqL.of hl3⟩, ?_⟩
    have hlen := hS.len
    refine list_of (xs := ts.map V.ref) (fun i σ' H' => ∃ v1 v2 v3 v4 v5 v6 v7 v8, σ' = [some (.ref l1), some (.ref l2), some (.int f), some (.int e), some (.int (sumS (stepG ga) ((spanR R f e).reverse.take i))), v1, v2, v3, v4, v5, v6, v7, v8] ∧ Same H1 H')
      ⟨_, _, _, _, _, _, _, _, rfl, Same.refl _⟩ (fun i σ' H' ⟨_, _, _, _, _, _, _, _, _, sm⟩ => SqL.of (sm _ _ hl3)) ?_ ?_
    · rintro i x σ' H' hx ⟨v1, v2, v3, v4, v5, v6, v7, v8, rfl, sm⟩
      have hi : i < ts.length := by
        have q := (List.getElem?_eq_some_iff.mp hx).1
        rw [List.length_map] at q
        exact q
      obtain ⟨sp, hsp⟩ : ∃ sp, (spanR R f e).reverse[i]? = some sp := ⟨_, List.getElem?_eq_getElem (by omega)⟩
      obtain ⟨a, p, q1, q2, q3⟩ := (hS.same sm).get hsp
      have ex : x = .ref a := by
        rw [List.getElem?_map, q1] at hx
        exact (Option.some.inj hx).symm
      subst ex
      obtain ⟨b1, b2, b3, b4, b5⟩ := spanR_in (span_at hsp)
      have hst := hs _ (mem_row ((hD.mem _).mp b4))
      obtain ⟨j, x0, t, m1, m2, m3, m4, m5, m6⟩ := hg.held hst.1
      refine g_gtup q2 rfl ?_
      walk_at "go"
      refine r_ixT q3 at0 ?_
      walk_at "go"
      refine ⟨l2, _, bs, ga, rfl, h2.same (s1.trans sm), ?_⟩
      rw [m3]
      show tFor _ _ _ _ _ _
      refine g_forN (g_iL ?_)
      walk_at "go"
      refine ⟨l2, bs, ga, _, _, rfl, h2.same (s1.trans sm), n2, fun H2 l4 ts2 R2 s2 hl40 hl4 hD2 hS2 => ?_⟩
      walk_at "go"
      refine ⟨l4, rfl, ⟨_, SqL.of hl4⟩, ?_⟩
      have hlen2 := hS2.len
      refine list_of (xs := ts2.map V.ref) (fun i2 σ' H' => ∃ v1 v2 v3 v4, σ' = [some (.ref l1), some (.ref l2), some (.int f), some (.int e), some (.int (sumS (stepG ga) ((spanR R f e).reverse.take i) + sumS (fun q d => partd (sp.2.2.2 * q.2 / t) d) ((spanR R2 sp.1 sp.2.1).reverse.take i2))), some (.int sp.1), some (.int sp.2.1), some (.ref p), some (.int t), v1, v2, v3, v4] ∧ Same H2 H')
        ⟨_, _, _, _, by rw [List.take_zero, sumS_nil, Int.add_zero]; rfl, Same.refl _⟩ (fun i σ' H' ⟨_, _, _, _, _, sm⟩ => SqL.of (sm _ _ hl4)) ?_ ?_
      · rintro i2 x σ' H3 hx ⟨v1, v2, v3, v4, rfl, sm3⟩
        have hi2 : i2 < ts2.length := by
          have q := (List.getElem?_eq_some_iff.mp hx).1
          rw [List.length_map] at q
          exact q
        obtain ⟨sq, hsq⟩ : ∃ sq, (spanR R2 sp.1 sp.2.1).reverse[i2]? = some sq := ⟨_, List.getElem?_eq_getElem (by omega)⟩
        obtain ⟨a2, p2, r1, r2, r3⟩ := (hS2.same sm3).get hsq
        have ex : x = .ref a2 := by
          rw [List.getElem?_map, r1] at hx
          exact (Option.some.inj hx).symm
        subst ex
        obtain ⟨c1, c2, c3, c4, c5⟩ := spanR_in (span_at hsq)
        have hga := hg.1 _ (mem_row ((hD2.mem _).mp c4))
        refine g_gtup r2 rfl ?_
        walk_at "go"
        refine r_ixT (same_sqT (s2.trans sm3) q3) at1 ?_
        walk_at "go"
        refine r_ixT r3 at1 ?_
        walk_at "go"
        refine ⟨_, _, _, rfl, by omega, c2, by omega, fun H4 s4 => ?_⟩
        walk_at "go"
        refine ⟨some (.int sq.1), some (.int sq.2.1), some (.ref p2), some (.int (sp.2.2.2 * sq.2.2.2 / t)), ?_, sm3.trans s4⟩
        rw [sumS_take hsq, ← Int.add_assoc]
        rfl
      · rintro σ' H3 ⟨v1, v2, v3, v4, rfl, sm3⟩
        have es : sumS (fun q d => partd (sp.2.2.2 * q.2 / t) d) ((spanR R2 sp.1 sp.2.1).reverse.take (ts2.map V.ref).length) = dsum (stepG ga sp.2.2) sp.1 sp.2.1 := by
          rw [List.length_map, hlen2, List.take_length, sumS_rev, span_sumH _ hD2]
          refine dsum_congr fun d d1 d2 => ?_
          obtain ⟨_, x1, g1, _, _, z3, z4, _, _⟩ := hg.held (d := d) (by omega)
          rw [z4, stepG, z3, m3]
          rfl
        rw [es, ← sumS_take hsp]
        exact ⟨_, _, _, _, _, _, _, _, rfl, (sm.trans s2).trans sm3⟩
    · rintro σ' H' ⟨v1, v2, v3, v4, v5, v6, v7, v8, rfl, sm⟩
      walk_at "go"
      have k' := k _ (s1.trans sm)
      rw [List.length_map, hlen, List.take_length, sumS_rev, span_sumH _ hD, owedV_eq]
      exact k'
theorem ok_l_cell_at (T : Txt K mg) : FnOk P w K mg base (L2.CX P w) 1 T.f_l_cell_at T.fd_l_cell_at ["_law_script", "_law_k"] (sp_l_cell_at K) := by
  refine T.F_l_cell_at.okX sc_l_cell_at (fun vs H Q E h => ?_) (fun cdv A outer s H vs Q E hr h => ?_)
  · first | (obtain ⟨_, rfl, _⟩ := h; rfl) | (obtain ⟨_, _, rfl, _⟩ := h; rfl) | (obtain ⟨_, _, _, rfl, _⟩ := h; rfl) | (obtain ⟨_, _, _, _, rfl, _⟩ := h; rfl) | (obtain ⟨_, _, _, _, _, rfl, _⟩ := h; rfl) | (obtain ⟨_, _, _, _, _, _, rfl, _⟩ := h; rfl) | (obtain ⟨_, _, _, _, _, _, _, rfl, _⟩ := h; rfl) | (obtain ⟨_, _, _, _, _, _, _, _, rfl, _⟩ := h; rfl) | (obtain ⟨_, _, _, _, _, _, _, _, _, rfl, _⟩ := h; rfl) | (obtain ⟨_, _, _, _, _, _, _, _, _, _, rfl, _⟩ := h; rfl) | (obtain ⟨_, _, _, _, _, _, _, _, _, _, _, rfl, _⟩ := h; rfl) | (obtain ⟨_, _, _, _, _, _, _, _, _, _, _, _, rfl, _⟩ := h; rfl) | (obtain ⟨_, _, _, _, _, _, _, _, _, _, _, _, _, rfl, _⟩ := h; rfl) | (obtain ⟨_, _, _, _, _, _, _, _, _, _, _, _, _, _, rfl, _⟩ := h; rfl) | (obtain ⟨_, _, _, _, _, _, _, _, _, _, _, _, _, _, _, rfl, _⟩ := h; rfl)
  · refine ⟨_, (pss_cons (ps_if (pt_cmpR op_lt (pv 1) (pe_callB (show CallR _ (.builtin "len") (rLen K) from call_lenA) (by rfl) T.n_len (by decide +kernel) (pa_cons (pv 0) pa_nil)) (nomark _))
  (pss_one (ps_ret (pe_ix (show IxR _ (rIx2 K) from ix_lt) (pv 0) (pv 1) (fun _ _ => rfl))))
  pss_nil)
  (pss_one (ps_ret pe_int))), ?_⟩
    obtain ⟨a, ns, k, rfl, hS, hk, q⟩ := h
    obtain ⟨j, rfl⟩ : ∃ j : Nat, k = (j : Int) := ⟨k.toNat, by omega⟩
    walk_at "go"
    refine ⟨a, _, rfl, .inl hS, ?_⟩
    walk_at "go"
    rw [List.length_map]
    refine g_ite (fun c => ?_) (fun c => ?_)
    · walk_at "go"
      have hj : j < ns.length := by omega
      have e : cell ns (j : Int) = ns[j] := by simp [cell, hj]
      rw [e] at q
      exact r_ixL hS (atI_nat (by rw [List.getElem?_map, List.getElem?_eq_getElem hj]; rfl)) q
    · walk_at "go"
      have e : cell ns (j : Int) = 0 := by
        have hj : ns.length ≤ j := by omega
        simp [cell, List.getD, List.getElem?_eq_none hj]
      rw [e] at q
      exact q
theorem ok_l_mix (T : Txt K mg) : FnOk P w K mg base (L2.CX P w) 1 T.f_l_mix T.fd_l_mix ["_law_number_here", "_law_k"] (sp_l_mix) := by
  refine T.F_l_mix.okX sc_l_mix (fun vs H Q E h => ?_) (fun cdv A outer s H vs Q E hr h => ?_)
  · first | (obtain ⟨_, rfl, _⟩ := h; rfl) | (obtain ⟨_, _, rfl, _⟩ := h; rfl) | (obtain ⟨_, _, _, rfl, _⟩ := h; rfl) | (obtain ⟨_, _, _, _, rfl, _⟩ := h; rfl) | (obtain ⟨_, _, _, _, _, rfl, _⟩ := h; rfl) | (obtain ⟨_, _, _, _, _, _, rfl, _⟩ := h; rfl) | (obtain ⟨_, _, _, _, _, _, _, rfl, _⟩ := h; rfl) | (obtain ⟨_, _, _, _, _, _, _, _, rfl, _⟩ := h; rfl) | (obtain ⟨_, _, _, _, _, _, _, _, _, rfl, _⟩ := h; rfl) | (obtain ⟨_, _, _, _, _, _, _, _, _, _, rfl, _⟩ := h; rfl) | (obtain ⟨_, _, _, _, _, _, _, _, _, _, _, rfl, _⟩ := h; rfl) | (obtain ⟨_, _, _, _, _, _, _, _, _, _, _, _, rfl, _⟩ := h; rfl) | (obtain ⟨_, _, _, _, _, _, _, _, _, _, _, _, _, rfl, _⟩ := h; rfl) | (obtain ⟨_, _, _, _, _, _, _, _, _, _, _, _, _, _, rfl, _⟩ := h; rfl) | (obtain ⟨_, _, _, _, _, _, _, _, _, _, _, _, _, _, _, rfl, _⟩ := h; rfl)
  · refine ⟨_, (pss_cons (ps_set (i := 2) sc_l_mix.nd rfl (Or.inl rfl) (pe_op op_mod (pe_op op_plus (pe_op op_plus (pe_op op_mul (pv 0) pe_int) (pe_op op_mul (pv 1) pe_int)) pe_int) pe_int))
  (pss_one (ps_ret (pe_op op_mod (pe_op op_plus (pe_op op_plus (pe_op op_mul (pv 2) (pv 2)) (pe_op op_mul pe_int (pv 2))) (pv 1)) pe_int)))), ?_⟩
    obtain ⟨n, m, rfl, k⟩ := h
    walk_at "go"
    exact k _ (by omega) (by omega)
theorem ok_l_base (T : Txt K mg) : FnOk P w K mg base (L2.CX P w) 1 T.f_l_base T.fd_l_base ["_law_cell"] (sp_l_base) := by
  refine T.F_l_base.okX sc_l_base (fun vs H Q E h => ?_) (fun cdv A outer s H vs Q E hr h => ?_)
  · first | (obtain ⟨_, rfl, _⟩ := h; rfl) | (obtain ⟨_, _, rfl, _⟩ := h; rfl) | (obtain ⟨_, _, _, rfl, _⟩ := h; rfl) | (obtain ⟨_, _, _, _, rfl, _⟩ := h; rfl) | (obtain ⟨_, _, _, _, _, rfl, _⟩ := h; rfl) | (obtain ⟨_, _, _, _, _, _, rfl, _⟩ := h; rfl) | (obtain ⟨_, _, _, _, _, _, _, rfl, _⟩ := h; rfl) | (obtain ⟨_, _, _, _, _, _, _, _, rfl, _⟩ := h; rfl) | (obtain ⟨_, _, _, _, _, _, _, _, _, rfl, _⟩ := h; rfl) | (obtain ⟨_, _, _, _, _, _, _, _, _, _, rfl, _⟩ := h; rfl) | (obtain ⟨_, _, _, _, _, _, _, _, _, _, _, rfl, _⟩ := h; rfl) | (obtain ⟨_, _, _, _, _, _, _, _, _, _, _, _, rfl, _⟩ := h; rfl) | (obtain ⟨_, _, _, _, _, _, _, _, _, _, _, _, _, rfl, _⟩ := h; rfl) | (obtain ⟨_, _, _, _, _, _, _, _, _, _, _, _, _, _, rfl, _⟩ := h; rfl) | (obtain ⟨_, _, _, _, _, _, _, _, _, _, _, _, _, _, _, rfl, _⟩ := h; rfl)
  · refine ⟨_, (pss_cons (ps_set (i := 1) sc_l_base.nd rfl (Or.inl rfl) (pe_lst (pa_cons pe_int (pa_cons pe_int (pa_cons pe_int (pa_cons pe_int (pa_cons pe_int (pa_cons pe_int (pa_cons pe_int (pa_cons pe_int (pa_cons pe_int pa_nil)))))))))))
  (pss_cons (ps_if (pt_cmpR (show OpR _ (compareOp .Eq) (rEqA K) from op_eqA hr.units) (pe_op op_mod (pv 0) pe_int) pe_int (nomark _))
  (pss_one (ps_ret (pe_ix (show IxR _ (rIx2 K) from ix_lt) (pv 1) (pe_op op_mod (pe_op op_fdiv (pv 0) pe_int) pe_int) (fun _ _ => rfl))))
  pss_nil)
  (pss_one (ps_ret (pe_op op_mod (pe_op op_fdiv (pv 0) pe_int) pe_int))))), ?_⟩
    obtain ⟨c, rfl, k⟩ := h
    walk_at "go"
    refine ⟨by walk_at "sz", fun p hp => ?_⟩
    walk_at "go"
    refine g_ite (fun c1 => ?_) (fun c1 => ?_)
    · walk_at "go"
      refine r_ixL (SqL.of upd_same) (at_modI (ns := [0, 20, 50, 360, 1140, 36500, 36560, 73040, 99600]) _ rfl (by decide)) ?_
      have b := getD_all (R := fun d => 0 ≤ d ∧ d ≤ 99600) (l := [0, 20, 50, 360, 1140, 36500, 36560, 73040, 99600]) (c / 3 % 9).toNat (by decide) (by decide)
      exact k _ b.1 b.2 _ (by walk_at "sm")
    · walk_at "go"
      exact k _ (by omega) (by omega) _ (by walk_at "sm")
theorem ok_l_money (T : Txt K mg) : FnOk P w K mg base (L2.CX P w) 1 T.f_l_money T.fd_l_money ["_law_cell"] (sp_l_money) := by
  refine T.F_l_money.okX sc_l_money (fun vs H Q E h => ?_) (fun cdv A outer s H vs Q E hr h => ?_)
  · first | (obtain ⟨_, rfl, _⟩ := h; rfl) | (obtain ⟨_, _, rfl, _⟩ := h; rfl) | (obtain ⟨_, _, _, rfl, _⟩ := h; rfl) | (obtain ⟨_, _, _, _, rfl, _⟩ := h; rfl) | (obtain ⟨_, _, _, _, _, rfl, _⟩ := h; rfl) | (obtain ⟨_, _, _, _, _, _, rfl, _⟩ := h; rfl) | (obtain ⟨_, _, _, _, _, _, _, rfl, _⟩ := h; rfl) | (obtain ⟨_, _, _, _, _, _, _, _, rfl, _⟩ := h; rfl) | (obtain ⟨_, _, _, _, _, _, _, _, _, rfl, _⟩ := h; rfl) | (obtain ⟨_, _, _, _, _, _, _, _, _, _, rfl, _⟩ := h; rfl) | (obtain ⟨_, _, _, _, _, _, _, _, _, _, _, rfl, _⟩ := h; rfl) | (obtain ⟨_, _, _, _, _, _, _, _, _, _, _, _, rfl, _⟩ := h; rfl) | (obtain ⟨_, _, _, _, _, _, _, _, _, _, _, _, _, rfl, _⟩ := h; rfl) | (obtain ⟨_, _, _, _, _, _, _, _, _, _, _, _, _, _, rfl, _⟩ := h; rfl) | (obtain ⟨_, _, _, _, _, _, _, _, _, _, _, _, _, _, _, rfl, _⟩ := h; rfl)
  · refine ⟨_, (pss_cons (ps_if (pt_cmpR (show OpR _ (compareOp .Eq) (rEqA K) from op_eqA hr.units) (pe_op op_mod (pv 0) pe_int) pe_int (nomark _))
  (pss_one (ps_ret (pe_ix (show IxR _ (rIx2 K) from ix_lt) (pe_lst (pa_cons pe_int (pa_cons pe_int (pa_cons (pe_op op_pow pe_int pe_int) (pa_cons (pe_op op_sub (pe_op op_pow pe_int pe_int) pe_int) (pa_cons pe_int (pa_cons pe_int pa_nil))))))) (pe_op op_mod (pe_op op_fdiv (pv 0) pe_int) pe_int) (fun _ _ => rfl))))
  pss_nil)
  (pss_cons (ps_if (pt_cmpR (show OpR _ (compareOp .Eq) (rEqA K) from op_eqA hr.units) (pe_op op_mod (pv 0) pe_int) pe_int (nomark _))
  (pss_one (ps_ret (pe_op op_mod (pe_op op_mul (pe_op op_fdiv (pv 0) pe_int) pe_int) (pe_op op_plus (pe_op op_pow pe_int pe_int) pe_int))))
  pss_nil)
  (pss_one (ps_ret (pe_op op_mod (pe_op op_fdiv (pv 0) pe_int) pe_int))))), ?_⟩
    obtain ⟨c, rfl, k⟩ := h
    walk_at "go"
    refine g_ite (fun c1 => ?_) (fun c1 => ?_)
    · walk_at "go"
      refine ⟨by walk_at "sz", fun p hp => ?_⟩
      walk_at "go"
      refine r_ixL (SqL.of upd_same) (at_modI (ns := [0, 1, 10 ^ (9 : Int).toNat, 10 ^ (9 : Int).toNat - 1, 29, 31]) _ rfl (by decide)) ?_
      have b := getD_all (R := fun d => 0 ≤ d ∧ d ≤ 1000000000) (l := [0, 1, 10 ^ (9 : Int).toNat, 10 ^ (9 : Int).toNat - 1, 29, 31]) (c / 4 % 6).toNat (by decide) (by decide)
      exact k _ b.1 b.2 _ (by walk_at "sm")
    · walk_at "go"
      refine g_ite (fun c2 => ?_) (fun c2 => ?_)
      · walk_at "go"
        exact k _ (by rw [show (10 : Int) ^ (9 : Int).toNat + 1 = 1000000001 by decide]; omega) (by rw [show (10 : Int) ^ (9 : Int).toNat + 1 = 1000000001 by decide]; omega) _ (by walk_at "sm")
      · walk_at "go"
        exact k _ (by omega) (by omega) _ (by walk_at "sm")
theorem ok_l_number (T : Txt K mg) : FnOk P w K mg base (L2.CX P w) 1 T.f_l_number T.fd_l_number ["_law_cell"] (sp_l_number) := by
  refine T.F_l_number.okX sc_l_number (fun vs H Q E h => ?_) (fun cdv A outer s H vs Q E hr h => ?_)
  · first | (obtain ⟨_, rfl, _⟩ := h; rfl) | (obtain ⟨_, _, rfl, _⟩ := h; rfl) | (obtain ⟨_, _, _, rfl, _⟩ := h; rfl) | (obtain ⟨_, _, _, _, rfl, _⟩ := h; rfl) | (obtain ⟨_, _, _, _, _, rfl, _⟩ := h; rfl) | (obtain ⟨_, _, _, _, _, _, rfl, _⟩ := h; rfl) | (obtain ⟨_, _, _, _, _, _, _, rfl, _⟩ := h; rfl) | (obtain ⟨_, _, _, _, _, _, _, _, rfl, _⟩ := h; rfl) | (obtain ⟨_, _, _, _, _, _, _, _, _, rfl, _⟩ := h; rfl) | (obtain ⟨_, _, _, _, _, _, _, _, _, _, rfl, _⟩ := h; rfl) | (obtain ⟨_, _, _, _, _, _, _, _, _, _, _, rfl, _⟩ := h; rfl) | (obtain ⟨_, _, _, _, _, _, _, _, _, _, _, _, rfl, _⟩ := h; rfl) | (obtain ⟨_, _, _, _, _, _, _, _, _, _, _, _, _, rfl, _⟩ := h; rfl) | (obtain ⟨_, _, _, _, _, _, _, _, _, _, _, _, _, _, rfl, _⟩ := h; rfl) | (obtain ⟨_, _, _, _, _, _, _, _, _, _, _, _, _, _, _, rfl, _⟩ := h; rfl)
  · refine ⟨_, (pss_cons (ps_if (pt_cmpR (show OpR _ (compareOp .Eq) (rEqA K) from op_eqA hr.units) (pe_op op_mod (pv 0) pe_int) pe_int (nomark _))
  (pss_one (ps_ret (pe_ix (show IxR _ (rIx2 K) from ix_lt) (pe_lst (pa_cons pe_int (pa_cons (pe_op op_pow pe_int pe_int) (pa_cons pe_int (pa_cons pe_int pa_nil))))) (pe_op op_mod (pe_op op_fdiv (pv 0) pe_int) pe_int) (fun _ _ => rfl))))
  pss_nil)
  (pss_cons (ps_if (pt_cmpR (show OpR _ (compareOp .Eq) (rEqA K) from op_eqA hr.units) (pe_op op_mod (pv 0) pe_int) pe_int (nomark _))
  (pss_one (ps_ret (pe_op op_plus pe_int (pe_op op_mod (pe_op op_mul (pe_op op_fdiv (pv 0) pe_int) pe_int) (pe_op op_pow pe_int pe_int)))))
  pss_nil)
  (pss_one (ps_ret (pe_op op_plus pe_int (pe_op op_mod (pe_op op_fdiv (pv 0) pe_int) pe_int)))))), ?_⟩
    obtain ⟨c, rfl, k⟩ := h
    walk_at "go"
    refine g_ite (fun c1 => ?_) (fun c1 => ?_)
    · walk_at "go"
      refine ⟨by walk_at "sz", fun p hp => ?_⟩
      walk_at "go"
      refine r_ixL (SqL.of upd_same) (at_modI (ns := [1, 10 ^ (6 : Int).toNat, 100, 101]) _ rfl (by decide)) ?_
      have h0 : 0 ≤ c / 4 % 4 ∧ c / 4 % 4 < 4 := by omega
      have b : 1 ≤ ([1, 10 ^ (6 : Int).toNat, 100, 101] : List Int).getD (c / 4 % 4).toNat 0 ∧ ([1, 10 ^ (6 : Int).toNat, 100, 101] : List Int).getD (c / 4 % 4).toNat 0 ≤ 1000000 := by
        generalize c / 4 % 4 = z at h0
        obtain rfl | rfl | rfl | rfl : z = 0 ∨ z = 1 ∨ z = 2 ∨ z = 3 := by omega
        all_goals decide
      exact k _ b.1 b.2 _ (by walk_at "sm")
    · walk_at "go"
      refine g_ite (fun c2 => ?_) (fun c2 => ?_)
      · walk_at "go"
        exact k _ (by rw [show (10 : Int) ^ (6 : Int).toNat = 1000000 by decide]; omega) (by rw [show (10 : Int) ^ (6 : Int).toNat = 1000000 by decide]; omega) _ (by walk_at "sm")
      · walk_at "go"
        exact k _ (by omega) (by omega) _ (by walk_at "sm")
theorem ok_l_steps (T : Txt K mg) : FnOk P w K mg base (L2.CX P w) 2 T.f_l_steps T.fd_l_steps ["_law_cell", "_law_base_here", "_law_wide"] (sp_l_steps K) := by
  refine T.F_l_steps.okX sc_l_steps (fun vs H Q E h => ?_) (fun cdv A outer s H vs Q E hr h => ?_)
  · first | (obtain ⟨_, rfl, _⟩ := h; rfl) | (obtain ⟨_, _, rfl, _⟩ := h; rfl) | (obtain ⟨_, _, _, rfl, _⟩ := h; rfl) | (obtain ⟨_, _, _, _, rfl, _⟩ := h; rfl) | (obtain ⟨_, _, _, _, _, rfl, _⟩ := h; rfl) | (obtain ⟨_, _, _, _, _, _, rfl, _⟩ := h; rfl) | (obtain ⟨_, _, _, _, _, _, _, rfl, _⟩ := h; rfl) | (obtain ⟨_, _, _, _, _, _, _, _, rfl, _⟩ := h; rfl) | (obtain ⟨_, _, _, _, _, _, _, _, _, rfl, _⟩ := h; rfl) | (obtain ⟨_, _, _, _, _, _, _, _, _, _, rfl, _⟩ := h; rfl) | (obtain ⟨_, _, _, _, _, _, _, _, _, _, _, rfl, _⟩ := h; rfl) | (obtain ⟨_, _, _, _, _, _, _, _, _, _, _, _, rfl, _⟩ := h; rfl) | (obtain ⟨_, _, _, _, _, _, _, _, _, _, _, _, _, rfl, _⟩ := h; rfl) | (obtain ⟨_, _, _, _, _, _, _, _, _, _, _, _, _, _, rfl, _⟩ := h; rfl) | (obtain ⟨_, _, _, _, _, _, _, _, _, _, _, _, _, _, _, rfl, _⟩ := h; rfl)
  · refine ⟨_, (pss_cons (ps_set (i := 3) sc_l_steps.nd rfl (Or.inl rfl) (pe_lst pa_nil))
  (pss_cons (ps_for (passes_of rfl) rfl (pi_range1 (by rfl) T.n_range (pa_cons (pe_op op_mod (pv 0) pe_int) pa_nil)) (pg_name (i := 4) sc_l_steps.nd rfl (Or.inl rfl))
  (pss_cons (ps_set (i := 5) sc_l_steps.nd rfl (Or.inl rfl) (pe_callS (ok_l_mix T) hr (by rfl) T.g_l_mix T.F_l_mix.kp T.b_l_mix (fun σ => passAt (takes_of rfl rfl rfl rfl) σ) (by exact (pa_cons (pv 0) (pa_cons (pv 4) pa_nil)))))
  (pss_one (ps_expr (pe_bm PySem.F.plainAttrs_list PySem.F.slot_list_append PySem.F.type_list_append mt_append (pv 3) (pa_cons (pe_tup (pa_cons (pe_callB (call_max2 rfl) (by rfl) T.n_max (by decide +kernel) (pa_cons pe_int (pa_cons (pe_op op_plus (pe_op op_sub (pv 1) pe_int) (pe_op op_mod (pv 5) (pv 2))) pa_nil))) (pa_cons (pe_callS (ok_l_money T) hr (by rfl) T.g_l_money T.F_l_money.kp T.b_l_money (fun σ => passAt (takes_of rfl rfl rfl rfl) σ) (by exact (pa_cons (pe_callS (ok_l_mix T) hr (by rfl) T.g_l_mix T.F_l_mix.kp T.b_l_mix (fun σ => passAt (takes_of rfl rfl rfl rfl) σ) (by exact (pa_cons (pv 5) (pa_cons pe_int pa_nil)))) pa_nil))) pa_nil))) pa_nil))))))
  (pss_one (ps_ret (pv 3))))), ?_⟩
    obtain ⟨c, b, w', rfl, hw, k⟩ := h
    walk_at "go"
    refine ⟨by walk_at "sz", fun l hl => ?_⟩
    walk_at "go"
    refine g_forR1 (hi := c % 5) (fun i σ' H' => ∃ v1 v2 as ps, σ' = [some (.int c), some (.int b), some (.int w'), some (.ref l), v1, v2] ∧ Same H H' ∧ H' l = some (.lst (as.map .ref)) ∧ Prs K H' as ps ∧ ps.length = i ∧ StepsOk ps) (fun Q' q => by walk_at "go"; exact q) (by omega)
      ⟨_, _, [], [], rfl, same_new hl, upd_same, .nil, rfl, fun p h => by cases h⟩ ?_ ?_
    · rintro i σ' H' hi ⟨v1, v2, as, ps, rfl, sm, hl', hP, hn, hok⟩
      walk_at "go"
      refine ⟨_, _, rfl, fun z hz0 hz1 => ?_⟩
      walk_at "go"
      refine ⟨.inl ⟨rfl, _, SqL.of hl'⟩, ?_⟩
      walk_at "go"
      refine ⟨_, _, rfl, ?_⟩
      walk_at "go"
      refine ⟨_, _, rfl, fun z2 _ _ => ?_⟩
      walk_at "go"
      refine ⟨_, rfl, fun r hr0 hr1 H1 s1 => ?_⟩
      walk_at "go"
      refine ⟨by walk_at "sz", fun p hp => ?_⟩
      walk_at "go"
      have hlen := hP.len
      have hl1 := s1 _ _ hl'
      refine ⟨l, _, _, rfl, rfl, (same_new hp) _ _ hl1, ?_, ?_⟩
      · rw [List.length_map]
        exact Nat.lt_of_lt_of_le (show as.length < 100 by omega) (by decide)
      · walk_at "go"
        have npl : p ≠ l := fun e => by rw [e, hl1] at hp; cases hp
        refine' ⟨_, _, as ++ [p], ps ++ [(?x, ?y)], rfl, same_mut ((sm.trans s1).trans (same_new hp)) hl, ?g1, ?g2, ?g3, ?g4⟩
        case g2 => exact Prs.append (Prs.one (SqT.of ((upd_ne npl).trans upd_same))) (((hP.same s1).same (same_new hp)).mut ((same_new hp) _ _ hl1))
        case g1 =>
          rw [upd_same, List.map_append]
          rfl
        case g3 =>
          rw [List.length_append, hn]
          rfl
        case g4 =>
          intro q hq
          rcases List.mem_append.mp hq with hq | hq
          · exact hok q hq
          · rw [List.mem_singleton.mp hq]
            refine ⟨?_, hr0, hr1⟩
            dsimp only
            split <;> omega
    · rintro σ' H' ⟨v1, v2, as, ps, rfl, sm, hl', hP, hn, hok⟩
      walk_at "go"
      exact k l as ps H' sm hl hl' hP (by omega) hok
theorem ok_l_gauges (T : Txt K mg) : FnOk P w K mg base (L2.CX P w) 2 T.f_l_gauges T.fd_l_gauges ["_law_cell", "_law_base_here", "_law_wide"] (sp_l_gauges K) := by
  refine T.F_l_gauges.okX sc_l_gauges (fun vs H Q E h => ?_) (fun cdv A outer s H vs Q E hr h => ?_)
  · first | (obtain ⟨_, rfl, _⟩ := h; rfl) | (obtain ⟨_, _, rfl, _⟩ := h; rfl) | (obtain ⟨_, _, _, rfl, _⟩ := h; rfl) | (obtain ⟨_, _, _, _, rfl, _⟩ := h; rfl) | (obtain ⟨_, _, _, _, _, rfl, _⟩ := h; rfl) | (obtain ⟨_, _, _, _, _, _, rfl, _⟩ := h; rfl) | (obtain ⟨_, _, _, _, _, _, _, rfl, _⟩ := h; rfl) | (obtain ⟨_, _, _, _, _, _, _, _, rfl, _⟩ := h; rfl) | (obtain ⟨_, _, _, _, _, _, _, _, _, rfl, _⟩ := h; rfl) | (obtain ⟨_, _, _, _, _, _, _, _, _, _, rfl, _⟩ := h; rfl) | (obtain ⟨_, _, _, _, _, _, _, _, _, _, _, rfl, _⟩ := h; rfl) | (obtain ⟨_, _, _, _, _, _, _, _, _, _, _, _, rfl, _⟩ := h; rfl) | (obtain ⟨_, _, _, _, _, _, _, _, _, _, _, _, _, rfl, _⟩ := h; rfl) | (obtain ⟨_, _, _, _, _, _, _, _, _, _, _, _, _, _, rfl, _⟩ := h; rfl) | (obtain ⟨_, _, _, _, _, _, _, _, _, _, _, _, _, _, _, rfl, _⟩ := h; rfl)
  · refine ⟨_, (pss_cons (ps_set (i := 3) sc_l_gauges.nd rfl (Or.inl rfl) (pe_lst (pa_cons (pe_tup (pa_cons pe_int (pa_cons (pe_callS (ok_l_number T) hr (by rfl) T.g_l_number T.F_l_number.kp T.b_l_number (fun σ => passAt (takes_of rfl rfl rfl rfl) σ) (by exact (pa_cons (pe_callS (ok_l_mix T) hr (by rfl) T.g_l_mix T.F_l_mix.kp T.b_l_mix (fun σ => passAt (takes_of rfl rfl rfl rfl) σ) (by exact (pa_cons (pv 0) (pa_cons pe_int pa_nil)))) pa_nil))) pa_nil))) pa_nil)))
  (pss_cons (ps_for (passes_of rfl) rfl (pi_range1 (by rfl) T.n_range (pa_cons (pe_op op_mod (pv 0) pe_int) pa_nil)) (pg_name (i := 4) sc_l_gauges.nd rfl (Or.inl rfl))
  (pss_cons (ps_set (i := 5) sc_l_gauges.nd rfl (Or.inl rfl) (pe_callS (ok_l_mix T) hr (by rfl) T.g_l_mix T.F_l_mix.kp T.b_l_mix (fun σ => passAt (takes_of rfl rfl rfl rfl) σ) (by exact (pa_cons (pv 0) (pa_cons (pe_op op_plus pe_int (pv 4)) pa_nil)))))
  (pss_one (ps_expr (pe_bm PySem.F.plainAttrs_list PySem.F.slot_list_append PySem.F.type_list_append mt_append (pv 3) (pa_cons (pe_tup (pa_cons (pe_callB (call_max2 rfl) (by rfl) T.n_max (by decide +kernel) (pa_cons pe_int (pa_cons (pe_op op_plus (pe_op op_sub (pv 1) pe_int) (pe_op op_mod (pv 5) (pv 2))) pa_nil))) (pa_cons (pe_callS (ok_l_number T) hr (by rfl) T.g_l_number T.F_l_number.kp T.b_l_number (fun σ => passAt (takes_of rfl rfl rfl rfl) σ) (by exact (pa_cons (pe_callS (ok_l_mix T) hr (by rfl) T.g_l_mix T.F_l_mix.kp T.b_l_mix (fun σ => passAt (takes_of rfl rfl rfl rfl) σ) (by exact (pa_cons (pv 5) (pa_cons pe_int pa_nil)))) pa_nil))) pa_nil))) pa_nil))))))
  (pss_one (ps_ret (pv 3))))), ?_⟩
    obtain ⟨c, b, w', rfl, hw, k⟩ := h
    walk_at "go"
    refine ⟨_, _, rfl, fun z0 _ _ => ?_⟩
    walk_at "go"
    refine ⟨_, rfl, fun g0 hg0 hg1 H0 s0 => ?_⟩
    walk_at "go"
    refine ⟨by walk_at "sz", fun p0 hp0 => ?_⟩
    walk_at "go"
    refine ⟨by walk_at "sz", fun l hl => ?_⟩
    walk_at "go"
    have nl0 : p0 ≠ l := fun e => by rw [← e, upd_same] at hl; cases hl
    have hl0 : H l = none := (s0.trans (same_new hp0)).free hl
    refine g_forR1 (hi := c % 4) (fun i σ' H' => ∃ v1 v2 as ps, σ' = [some (.int c), some (.int b), some (.int w'), some (.ref l), v1, v2] ∧ Same H H' ∧ H' l = some (.lst (as.map .ref)) ∧ Prs K H' as ps ∧ ps.length = i + 1 ∧ GaugesOk ps) (fun Q' q => by walk_at "go"; exact q) (by omega)
      ⟨_, _, [p0], [(0, g0)], rfl, (s0.trans (same_new hp0)).trans (same_new hl), upd_same, Prs.one (SqT.of ((upd_ne nl0).trans upd_same)), rfl, ⟨fun p hp => ?_, g0, [], rfl⟩⟩ ?_ ?_
    · rw [List.mem_singleton.mp hp]
      exact ⟨Int.le_refl _, hg0, hg1⟩
    · rintro i σ' H' hi ⟨v1, v2, as, ps, rfl, sm, hl', hP, hn, hok⟩
      walk_at "go"
      refine ⟨_, _, rfl, fun z hz0 hz1 => ?_⟩
      walk_at "go"
      refine ⟨.inl ⟨rfl, _, SqL.of hl'⟩, ?_⟩
      walk_at "go"
      refine ⟨_, _, rfl, ?_⟩
      walk_at "go"
      refine ⟨_, _, rfl, fun z2 _ _ => ?_⟩
      walk_at "go"
      refine ⟨_, rfl, fun r hr0 hr1 H1 s1 => ?_⟩
      walk_at "go"
      refine ⟨by walk_at "sz", fun p hp => ?_⟩
      walk_at "go"
      have hlen := hP.len
      have hl1 := s1 _ _ hl'
      refine ⟨l, _, _, rfl, rfl, (same_new hp) _ _ hl1, ?_, ?_⟩
      · rw [List.length_map]
        exact Nat.lt_of_lt_of_le (show as.length < 100 by omega) (by decide)
      · walk_at "go"
        have npl : p ≠ l := fun e => by rw [e, hl1] at hp; cases hp
        refine' ⟨_, _, as ++ [p], ps ++ [(?x, ?y)], rfl, same_mut ((sm.trans s1).trans (same_new hp)) hl0, ?g1, ?g2, ?g3, ?g4⟩
        case g2 => exact Prs.append (Prs.one (SqT.of ((upd_ne npl).trans upd_same))) (((hP.same s1).same (same_new hp)).mut ((same_new hp) _ _ hl1))
        case g1 =>
          rw [upd_same, List.map_append]
          rfl
        case g3 =>
          rw [List.length_append, hn]
          rfl
        case g4 =>
          refine ⟨fun q hq => ?_, ?_⟩
          · rcases List.mem_append.mp hq with hq | hq
            · exact hok.1 q hq
            · rw [List.mem_singleton.mp hq]
              refine ⟨?_, hr0, hr1⟩
              dsimp only
              split <;> omega
          · obtain ⟨g, r', h0⟩ := hok.2
            exact ⟨g, _, by rw [h0]; rfl⟩
    · rintro σ' H' ⟨v1, v2, as, ps, rfl, sm, hl', hP, hn, hok⟩
      walk_at "go"
      exact k l as ps H' sm hl0 hl' hP (by omega) hok
theorem ok_l_months (T : Txt K mg) : FnOk P w K mg base (L2.CX P w) 7 T.f_l_months T.fd_l_months ["_law_cell", "_law_other"] (sp_l_months) := by
  refine T.F_l_months.okX sc_l_months (fun vs H Q E h => ?_) (fun cdv A outer s H vs Q E hr h => ?_)
  · first | (obtain ⟨_, rfl, _⟩ := h; rfl) | (obtain ⟨_, _, rfl, _⟩ := h; rfl) | (obtain ⟨_, _, _, rfl, _⟩ := h; rfl) | (obtain ⟨_, _, _, _, rfl, _⟩ := h; rfl) | (obtain ⟨_, _, _, _, _, rfl, _⟩ := h; rfl) | (obtain ⟨_, _, _, _, _, _, rfl, _⟩ := h; rfl) | (obtain ⟨_, _, _, _, _, _, _, rfl, _⟩ := h; rfl) | (obtain ⟨_, _, _, _, _, _, _, _, rfl, _⟩ := h; rfl) | (obtain ⟨_, _, _, _, _, _, _, _, _, rfl, _⟩ := h; rfl) | (obtain ⟨_, _, _, _, _, _, _, _, _, _, rfl, _⟩ := h; rfl) | (obtain ⟨_, _, _, _, _, _, _, _, _, _, _, rfl, _⟩ := h; rfl) | (obtain ⟨_, _, _, _, _, _, _, _, _, _, _, _, rfl, _⟩ := h; rfl) | (obtain ⟨_, _, _, _, _, _, _, _, _, _, _, _, _, rfl, _⟩ := h; rfl) | (obtain ⟨_, _, _, _, _, _, _, _, _, _, _, _, _, _, rfl, _⟩ := h; rfl) | (obtain ⟨_, _, _, _, _, _, _, _, _, _, _, _, _, _, _, rfl, _⟩ := h; rfl)
  · refine ⟨_, (pss_cons (ps_set (i := 2) sc_l_months.nd rfl (Or.inl rfl) (pe_op op_plus pe_int (pe_op op_mod (pv 0) pe_int)))
  (pss_cons (ps_set (i := 3) sc_l_months.nd rfl (Or.inl rfl) (pe_op op_plus pe_int (pe_op op_mod (pv 1) (pe_op op_sub pe_int (pe_op op_mod (pv 0) pe_int)))))
  (Evl.pss_cut (ps_if (pt_cmpR (show OpR _ (compareOp .Eq) (rEqA K) from op_eqA hr.units) (pe_op op_mod (pe_op op_fdiv (pv 1) pe_int) pe_int) pe_int (nomark _))
  (pss_one (ps_set (i := 3) sc_l_months.nd rfl (Or.inl rfl) (pe_callB (call_min2 rfl) (by rfl) T.n_min (by decide +kernel) (pa_cons (pv 3) (pa_cons pe_int pa_nil)))))
  pss_nil)
  (pss_cons (ps_set (i := 4) sc_l_months.nd rfl (Or.inl rfl) (pe_op op_plus (pv 2) (pv 3)))
  (pss_cons (ps_if (pt_cmpR op_gt (pv 4) pe_int (nomark _))
  (pss_one (ps_ret pe_bl))
  pss_nil)
  (pss_cons (ps_set (i := 5) sc_l_months.nd rfl (Or.inl rfl) (pe_callS (ok_l_money T) (hr.mono (by decide)) (by rfl) T.g_l_money T.F_l_money.kp T.b_l_money (fun σ => passAt (takes_of rfl rfl rfl rfl) σ) (by exact (pa_cons (pe_callS (ok_l_mix T) (hr.mono (by decide)) (by rfl) T.g_l_mix T.F_l_mix.kp T.b_l_mix (fun σ => passAt (takes_of rfl rfl rfl rfl) σ) (by exact (pa_cons (pv 0) (pa_cons pe_int pa_nil)))) pa_nil))))
  (pss_cons (ps_set (i := 6) sc_l_months.nd rfl (Or.inl rfl) (pe_callS (ok_day_of T) (hr.mono (by decide)) (by rfl) T.g_day_of T.F_day_of.kp T.b_day_of (fun σ => passAt (takes_of rfl rfl rfl rfl) σ) (by exact (pa_cons (pe_op op_fdiv (pv 2) pe_int) (pa_cons (pe_op op_plus (pe_op op_mod (pv 2) pe_int) pe_int) (pa_cons pe_int pa_nil))))))
  (pss_cons (ps_set (i := 7) sc_l_months.nd rfl (Or.inl rfl) (pe_op op_sub (pe_callS (ok_day_of T) (hr.mono (by decide)) (by rfl) T.g_day_of T.F_day_of.kp T.b_day_of (fun σ => passAt (takes_of rfl rfl rfl rfl) σ) (by exact (pa_cons (pe_op op_fdiv (pv 4) pe_int) (pa_cons (pe_op op_plus (pe_op op_mod (pv 4) pe_int) pe_int) (pa_cons pe_int pa_nil))))) pe_int))
  (pss_one (ps_ret (pe_cmpR (show OpR _ (compareOp .Eq) (rEqA K) from op_eqA hr.units) (pe_callS (ok_owed T) hr (by rfl) T.g_owed T.F_owed.kp T.b_owed (fun σ => passAt (takes_of rfl rfl rfl rfl) σ) (by exact (pa_cons (pe_lst (pa_cons (pe_tup (pa_cons (pv 6) (pa_cons (pv 5) pa_nil))) pa_nil)) (pa_cons (pe_lst (pa_cons (pe_tup (pa_cons pe_int (pa_cons (pe_callS (ok_l_number T) (hr.mono (by decide)) (by rfl) T.g_l_number T.F_l_number.kp T.b_l_number (fun σ => passAt (takes_of rfl rfl rfl rfl) σ) (by exact (pa_cons (pv 1) pa_nil))) pa_nil))) pa_nil)) (pa_cons (pv 6) (pa_cons (pv 7) pa_nil)))))) (pe_op op_mul (pv 5) (pv 3)) (nomark _)))))))))))), ?_⟩
    obtain ⟨c, o, rfl, k⟩ := h
    walk_at "go"
    have hb0 : 24000 ≤ 24000 + c % 3276 ∧ 24000 + c % 3276 ≤ 27275 := by omega
    have hw : 1 ≤ 3277 - c % 3276 := by omega
    have hm : 0 ≤ o % (3277 - c % 3276) := Int.emod_nonneg _ (by omega)
    generalize 24000 + c % 3276 = b at hb0 ⊢
    refine g_tcut (fun σ' H' => ∃ many, σ' = [some (.int c), some (.int o), some (.int b), some (.int many), none, none, none, none] ∧ H = H' ∧ 1 ≤ many) ?_ ?_
    · walk_at "go"
      refine g_ite (fun c1 => ?_) (fun c1 => ?_)
      · walk_at "go"
        refine ⟨_, _, rfl, ?_⟩
        walk_at "go"
        exact ⟨_, rfl, rfl, by split <;> omega⟩
      · exact ⟨_, rfl, rfl, by omega⟩
    rintro σ' H' ⟨many, rfl, rfl, hm1⟩
    walk_at "go"
    refine g_ite (fun c1 => ?_) (fun c1 => ?_)
    · walk_at "go"
      exact k _
    have he : b < b + many ∧ b + many ≤ 27276 := by omega
    walk_at "go"
    refine ⟨_, _, rfl, fun z hz0 hz1 => ?_⟩
    walk_at "go"
    refine ⟨_, rfl, fun r hr0 hr1 H1 s1 => ?_⟩
    walk_at "go"
    have t1 := fm_top hb0.1 (by omega)
    have t2 := fm_top (j := b + many) (by omega) he.2
    have f0 := fm_nn hb0.1
    have dv1 := dayv_yes (fm_date hb0.1) (by omega)
    have dv2 := dayv_yes (fm_date (j := b + many) (by omega)) (by omega)
    refine ⟨_, _, _, rfl, trivial, trivial, trivial, fun d hd H2 s2 => ?_, fun hd => by rw [dv1] at hd; cases hd⟩
    rw [dv1] at hd
    cases hd
    walk_at "go"
    refine ⟨_, _, _, rfl, trivial, trivial, trivial, fun d hd H3 s3 => ?_, fun hd => by rw [dv2] at hd; cases hd⟩
    rw [dv2] at hd
    cases hd
    walk_at "go"
    refine ⟨by walk_at "sz", fun p1 hp1 => ?_⟩
    walk_at "go"
    refine ⟨by walk_at "sz", fun p2 hp2 => ?_⟩
    walk_at "go"
    refine ⟨_, rfl, fun n hn0 hn1 H4 s4 => ?_⟩
    walk_at "go"
    refine ⟨by walk_at "sz", fun p3 hp3 => ?_⟩
    walk_at "go"
    refine ⟨by walk_at "sz", fun p4 hp4 => ?_⟩
    walk_at "go"
    have hg : GaugesOk [(0, n)] := ⟨fun p hp => by rw [List.mem_singleton.mp hp]; exact ⟨Int.le_refl _, hn0, hn1⟩, n, [], rfl⟩
    have hs : StepsOk [(fm b, r)] := fun p hp => by rw [List.mem_singleton.mp hp]; exact ⟨f0, hr0, hr1⟩
    refine ⟨p2, [p1], [(fm b, r)], p4, [p3], [(0, n)], fm b, fm (b + many) - 1, rfl, ⟨.inl (SqL.of (by walk_at "lk")), Prs.one (SqT.of (by walk_at "lk"))⟩, ⟨.inl (SqL.of upd_same), Prs.one (SqT.of (by walk_at "lk"))⟩, hs, hg, by walk_at "sz", by walk_at "sz", f0, by omega, fun H5 s5 => ?_⟩
    rw [owed_months hn0 hb0.1 he.1, show b + many - b = many by omega]
    walk_at "go"
    rw [decide_eq_true rfl]
    exact k _
theorem ok_law (T : Txt K mg) : FnOk P w K mg base (L2.CX P w) 8 T.f_law T.fd_law ["_law_script"] (sp_law K) := by
  refine T.F_law.okX sc_law (fun vs H Q E h => ?_) (fun cdv A outer s H vs Q E hr h => ?_)
  · first | (obtain ⟨_, rfl, _⟩ := h; rfl) | (obtain ⟨_, _, rfl, _⟩ := h; rfl) | (obtain ⟨_, _, _, rfl, _⟩ := h; rfl) | (obtain ⟨_, _, _, _, rfl, _⟩ := h; rfl) | (obtain ⟨_, _, _, _, _, rfl, _⟩ := h; rfl) | (obtain ⟨_, _, _, _, _, _, rfl, _⟩ := h; rfl) | (obtain ⟨_, _, _, _, _, _, _, rfl, _⟩ := h; rfl) | (obtain ⟨_, _, _, _, _, _, _, _, rfl, _⟩ := h; rfl) | (obtain ⟨_, _, _, _, _, _, _, _, _, rfl, _⟩ := h; rfl) | (obtain ⟨_, _, _, _, _, _, _, _, _, _, rfl, _⟩ := h; rfl) | (obtain ⟨_, _, _, _, _, _, _, _, _, _, _, rfl, _⟩ := h; rfl) | (obtain ⟨_, _, _, _, _, _, _, _, _, _, _, _, rfl, _⟩ := h; rfl) | (obtain ⟨_, _, _, _, _, _, _, _, _, _, _, _, _, rfl, _⟩ := h; rfl) | (obtain ⟨_, _, _, _, _, _, _, _, _, _, _, _, _, _, rfl, _⟩ := h; rfl) | (obtain ⟨_, _, _, _, _, _, _, _, _, _, _, _, _, _, _, rfl, _⟩ := h; rfl)
  · refine ⟨_, (pss_cons (ps_set (i := 1) sc_law.nd rfl (Or.inr rfl) (pe_op op_mod (pe_callS (ok_l_base T) (hr.mono (by decide)) (by rfl) T.g_l_base T.F_l_base.kp T.b_l_base (fun σ => passAt (takes_of rfl rfl rfl rfl) σ) (by exact (pa_cons (pe_callS (ok_l_cell_at T) (hr.mono (by decide)) (by rfl) T.g_l_cell_at T.F_l_cell_at.kp T.b_l_cell_at (fun σ => passAt (takes_of rfl rfl rfl rfl) σ) (by exact (pa_cons (pv 0) (pa_cons pe_int pa_nil)))) pa_nil))) pe_int))
  (pss_cons (ps_set (i := 2) sc_law.nd rfl (Or.inr rfl) (pe_ix (show IxR _ (rIx2 K) from ix_lt) (pe_lst (pa_cons pe_int (pa_cons pe_int (pa_cons pe_int pa_nil)))) (pe_op op_mod (pe_callS (ok_l_cell_at T) (hr.mono (by decide)) (by rfl) T.g_l_cell_at T.F_l_cell_at.kp T.b_l_cell_at (fun σ => passAt (takes_of rfl rfl rfl rfl) σ) (by exact (pa_cons (pv 0) (pa_cons pe_int pa_nil)))) pe_int) (fun _ _ => rfl)))
  (pss_cons (ps_set (i := 3) sc_law.nd rfl (Or.inl rfl) (pe_callS (ok_l_steps T) (hr.mono (by decide)) (by rfl) T.g_l_steps T.F_l_steps.kp T.b_l_steps (fun σ => passAt (takes_of rfl rfl rfl rfl) σ) (by exact (pa_cons (pe_callS (ok_l_cell_at T) (hr.mono (by decide)) (by rfl) T.g_l_cell_at T.F_l_cell_at.kp T.b_l_cell_at (fun σ => passAt (takes_of rfl rfl rfl rfl) σ) (by exact (pa_cons (pv 0) (pa_cons pe_int pa_nil)))) (pa_cons (pv 1) (pa_cons (pe_callB (call_max2 rfl) (by rfl) T.n_max (by decide +kernel) (pa_cons pe_int (pa_cons (pv 2) pa_nil))) pa_nil))))))
  (pss_cons (ps_set (i := 4) sc_law.nd rfl (Or.inl rfl) (pe_callS (ok_l_gauges T) (hr.mono (by decide)) (by rfl) T.g_l_gauges T.F_l_gauges.kp T.b_l_gauges (fun σ => passAt (takes_of rfl rfl rfl rfl) σ) (by exact (pa_cons (pe_callS (ok_l_cell_at T) (hr.mono (by decide)) (by rfl) T.g_l_cell_at T.F_l_cell_at.kp T.b_l_cell_at (fun σ => passAt (takes_of rfl rfl rfl rfl) σ) (by exact (pa_cons (pv 0) (pa_cons pe_int pa_nil)))) (pa_cons (pv 1) (pa_cons (pe_callB (call_max2 rfl) (by rfl) T.n_max (by decide +kernel) (pa_cons pe_int (pa_cons (pv 2) pa_nil))) pa_nil))))))
  (pss_cons (ps_set (i := 5) sc_law.nd rfl (Or.inl rfl) (pe_callB (show CallR _ (.builtin "sorted") (rSortA K) from cr_sortA) (by rfl) T.n_sorted (by decide +kernel) (pa_cons (pe_lc (own := [("_law_k", 6)]) (g := gName 6) (by rfl) sc_law.nd (pi_range1 (by rfl) T.n_range (pa_cons pe_int pa_nil)) (blkOk_by (own := [("_law_k", 6)]) (N := ["_law_script", "_law_base_here", "_law_far", "_law_steps_here", "_law_gauges_here", "_law_days", "_law_k", "_law_one", "_law_other", "_law_whole"]) (sc := defScope s_law) (by decide +kernel)) (fun _ _ _ _ _ => pg_name (i := 6) sc_law.nd rfl (Or.inl rfl)) (fun _ _ _ _ _ => pts_nil) (fun _ _ _ _ _ => (pe_callB (call_min2 rfl) (by rfl) T.n_min (by decide +kernel) (pa_cons pe_int (pa_cons (pe_op op_plus (pv 1) (pe_op op_mod (pe_callS (ok_l_mix T) (hr.mono (by decide)) (by rfl) T.g_l_mix T.F_l_mix.kp T.b_l_mix (fun σ => passAt (takes0 (X := _)) σ) (by exact (pa_cons (pe_callS (ok_l_cell_at T) (hr.mono (by decide)) (by rfl) T.g_l_cell_at T.F_l_cell_at.kp T.b_l_cell_at (fun σ => passAt (takes0 (X := _)) σ) (by exact (pa_cons (pv 0) (pa_cons pe_int pa_nil)))) (pa_cons (pv 6) pa_nil)))) (pv 2))) pa_nil))))) pa_nil)))
  (Evl.pss_cut (ps_if (pt_cmpR (show OpR _ (compareOp .Eq) (rEqA K) from op_eqA hr.units) (pe_op op_mod (pe_op op_fdiv (pe_callS (ok_l_cell_at T) (hr.mono (by decide)) (by rfl) T.g_l_cell_at T.F_l_cell_at.kp T.b_l_cell_at (fun σ => passAt (takes_of rfl rfl rfl rfl) σ) (by exact (pa_cons (pv 0) (pa_cons pe_int pa_nil)))) pe_int) pe_int) pe_int (nomark _))
  (pss_one (ps_set (i := 5) sc_law.nd rfl (Or.inl rfl) (pe_lst (pa_cons pe_int (pa_cons (pe_ix (show IxR _ (rIx2 K) from ix_lt) (pv 5) pe_int (fun _ _ => rfl)) (pa_cons pe_int pa_nil))))))
  pss_nil)
  (pss_cons (ps_set (i := 7) sc_law.nd rfl (Or.inl rfl) (pe_callS (ok_owed T) (hr.mono (by decide)) (by rfl) T.g_owed T.F_owed.kp T.b_owed (fun σ => passAt (takes_of rfl rfl rfl rfl) σ) (by exact (pa_cons (pv 3) (pa_cons (pv 4) (pa_cons (pe_ix (show IxR _ (rIx2 K) from ix_lt) (pv 5) pe_int (fun _ _ => rfl)) (pa_cons (pe_ix (show IxR _ (rIx2 K) from ix_lt) (pv 5) pe_int (fun _ _ => rfl)) pa_nil)))))))
  (pss_cons (ps_set (i := 8) sc_law.nd rfl (Or.inl rfl) pe_int)
  (Evl.pss_cut (ps_if (pt_cmpR op_lt (pe_ix (show IxR _ (rIx2 K) from ix_lt) (pv 5) pe_int (fun _ _ => rfl)) pe_int (nomark _))
  (pss_one (ps_set (i := 8) sc_law.nd rfl (Or.inl rfl) (pe_callS (ok_owed T) (hr.mono (by decide)) (by rfl) T.g_owed T.F_owed.kp T.b_owed (fun σ => passAt (takes_of rfl rfl rfl rfl) σ) (by exact (pa_cons (pv 3) (pa_cons (pv 4) (pa_cons (pe_op op_plus (pe_ix (show IxR _ (rIx2 K) from ix_lt) (pv 5) pe_int (fun _ _ => rfl)) pe_int) (pa_cons (pe_ix (show IxR _ (rIx2 K) from ix_lt) (pv 5) pe_int (fun _ _ => rfl)) pa_nil))))))))
  pss_nil)
  (pss_cons (ps_set (i := 9) sc_law.nd rfl (Or.inl rfl) (pe_callS (ok_owed T) (hr.mono (by decide)) (by rfl) T.g_owed T.F_owed.kp T.b_owed (fun σ => passAt (takes_of rfl rfl rfl rfl) σ) (by exact (pa_cons (pv 3) (pa_cons (pv 4) (pa_cons (pe_ix (show IxR _ (rIx2 K) from ix_lt) (pv 5) pe_int (fun _ _ => rfl)) (pa_cons (pe_ix (show IxR _ (rIx2 K) from ix_lt) (pv 5) pe_int (fun _ _ => rfl)) pa_nil)))))))
  (pss_cons (ps_if (PW.pt (pw_or (pt_cmpR op_lt (pv 7) pe_int (nomark _)) (pw_or (pt_cmpR op_lt (pv 8) pe_int (nomark _)) (pw_or1 (pt_cmpR (show OpR _ (compareOp .NotEq) (rNeA K) from op_neA hr.units) (pe_op op_plus (pv 7) (pv 8)) (pv 9) (nomark _))))))
  (pss_one (ps_ret pe_bl))
  pss_nil)
  (pss_cons (ps_if (pt_cmpR (show OpR _ (compareOp .NotEq) (rNeA K) from op_neA hr.units) (pe_callS (ok_owed T) (hr.mono (by decide)) (by rfl) T.g_owed T.F_owed.kp T.b_owed (fun σ => passAt (takes_of rfl rfl rfl rfl) σ) (by exact (pa_cons (pv 3) (pa_cons (pv 4) (pa_cons (pe_ix (show IxR _ (rIx2 K) from ix_lt) (pv 5) pe_int (fun _ _ => rfl)) (pa_cons (pe_ix (show IxR _ (rIx2 K) from ix_lt) (pv 5) pe_int (fun _ _ => rfl)) pa_nil)))))) (pe_callS (ok_part T) (hr.mono (by decide)) (by rfl) T.g_part T.F_part.kp T.b_part (fun σ => passAt (takes_of rfl rfl rfl rfl) σ) (by exact (pa_cons (pe_callS (ok_rent_on T) (hr.mono (by decide)) (by rfl) T.g_rent_on T.F_rent_on.kp T.b_rent_on (fun σ => passAt (takes_of rfl rfl rfl rfl) σ) (by exact (pa_cons (pv 3) (pa_cons (pv 4) (pa_cons (pe_ix (show IxR _ (rIx2 K) from ix_lt) (pv 5) pe_int (fun _ _ => rfl)) pa_nil))))) (pa_cons (pe_ix (show IxR _ (rIx2 K) from ix_lt) (pv 5) pe_int (fun _ _ => rfl)) pa_nil)))) (nomark _))
  (pss_one (ps_ret pe_bl))
  pss_nil)
  (pss_one (ps_ret (pe_callS (ok_l_months T) hr (by rfl) T.g_l_months T.F_l_months.kp T.b_l_months (fun σ => passAt (takes_of rfl rfl rfl rfl) σ) (by exact (pa_cons (pe_callS (ok_l_cell_at T) (hr.mono (by decide)) (by rfl) T.g_l_cell_at T.F_l_cell_at.kp T.b_l_cell_at (fun σ => passAt (takes_of rfl rfl rfl rfl) σ) (by exact (pa_cons (pv 0) (pa_cons pe_int pa_nil)))) (pa_cons (pe_callS (ok_l_cell_at T) (hr.mono (by decide)) (by rfl) T.g_l_cell_at T.F_l_cell_at.kp T.b_l_cell_at (fun σ => passAt (takes_of rfl rfl rfl rfl) σ) (by exact (pa_cons (pv 0) (pa_cons pe_int pa_nil)))) pa_nil)))))))))))))))))), ?_⟩
    obtain ⟨a, ns, rfl, hS, hlen, k⟩ := h
    walk_at "go"
    refine ⟨a, ns, _, rfl, hS, by decide, ?_⟩
    walk_at "go"
    refine ⟨_, rfl, fun b0 hb00 hb01 H1 s1 => ?_⟩
    walk_at "go"
    have hb : 0 ≤ b0 % 96000 ∧ b0 % 96000 < 96000 := by omega
    generalize b0 % 96000 = b at hb ⊢
    refine ⟨by walk_at "sz", fun u hu => ?_⟩
    walk_at "go"
    refine ⟨a, ns, _, rfl, (same_new hu).seq (s1.seq hS), by decide, ?_⟩
    walk_at "go"
    refine r_ixL (SqL.of upd_same) (at_modI (ns := [60, 60, 3000]) _ rfl (by decide)) ?_
    have hfar := getD_all (R := fun d => 0 ≤ d ∧ d ≤ 3000) (l := [60, 60, 3000]) (cell ns 3 % 3).toNat (by decide) (by decide)
    have hfar0 : 1 ≤ ([60, 60, 3000] : List Int).getD (cell ns 3 % 3).toNat 0 := by
      have h0 : 0 ≤ cell ns 3 % 3 ∧ cell ns 3 % 3 < 3 := by omega
      generalize cell ns 3 % 3 = z at h0
      obtain rfl | rfl | rfl : z = 0 ∨ z = 1 ∨ z = 2 := by omega
      all_goals decide
    generalize ([60, 60, 3000] : List Int).getD (cell ns 3 % 3).toNat 0 = far at hfar hfar0 ⊢
    have s2 := s1.trans (same_new (o := .lst [.int 60, .int 60, .int 3000]) hu)
    generalize upd H1 u (.lst [.int 60, .int 60, .int 3000]) = H2 at s2 ⊢
    have hS2 := s2.seq hS
    clear s1 s2
    walk_at "go"
    refine ⟨a, ns, _, rfl, hS2, by decide, ?_⟩
    walk_at "go"
    refine ⟨_, _, rfl, ?_⟩
    walk_at "go"
    refine ⟨_, _, _, rfl, by split <;> omega, fun l1 as st H3 s3 hl10 hl1 hP1 hn1 hs => ?_⟩
    walk_at "go"
    refine ⟨a, ns, _, rfl, s3.seq hS2, by decide, ?_⟩
    walk_at "go"
    refine ⟨_, _, rfl, ?_⟩
    walk_at "go"
    refine ⟨_, _, _, rfl, by split <;> omega, fun l2 bs ga H4 s4 hl20 hl2 hP2 hn2 hg => ?_⟩
    have hR1 : RowAt K H4 l1 as st := ⟨.inl (SqL.of (s4 _ _ hl1)), hP1.same s4⟩
    have hR2 : RowAt K H4 l2 bs ga := ⟨.inl (SqL.of hl2), hP2⟩
    have hS4 := s4.seq (s3.seq hS2)
    clear hl10 hl1 hP1 hl20 hl2 hP2 s3 s4
    walk_at "go"
    refine lc_r1E (hi := 3) (fun v => ∃ x : Int, v = .int x ∧ 0 ≤ x ∧ x ≤ 99999) (fun Q' q => by walk_at "go"; exact q) (by omega) (fun _ => rfl) (fun i H' hi sm Q' q => ?_) (fun D H5 xs hD s5 hl hxl hx => ?_)
    · walk_at "go"
      refine ⟨a, ns, _, rfl, sm.seq hS4, by decide, ?_⟩
      walk_at "go"
      refine ⟨_, _, rfl, fun z hz0 hz1 => ?_⟩
      walk_at "go"
      refine ⟨_, _, rfl, ?_⟩
      have hzf := Int.emod_nonneg z (show far ≠ 0 by omega)
      exact q _ _ ⟨_, rfl, by split <;> omega, by split <;> omega⟩ (Same.refl _)
    obtain ⟨y0, y1, y2, rfl⟩ : ∃ y0 y1 y2 : V, xs = [y0, y1, y2] := by
      match xs, hxl with
      | [y0, y1, y2], _ => exact ⟨y0, y1, y2, rfl⟩
    obtain ⟨x0, rfl, p00, p01⟩ := hx y0 (by simp)
    obtain ⟨x1, rfl, p10, p11⟩ := hx y1 (by simp)
    obtain ⟨x2, rfl, p20, p21⟩ := hx y2 (by simp)
    refine .inr ⟨D, [x0, x1, x2], rfl, SqL.of hl, fun ds q hperm hsort hq => ?_⟩
    have hdl := hperm.length_eq
    obtain ⟨d0, d1, d2, rfl⟩ : ∃ d0 d1 d2 : Int, ds = [d0, d1, d2] := by
      match ds, hdl with
      | [d0, d1, d2], _ => exact ⟨d0, d1, d2, rfl⟩
    have hin : ∀ x, x ∈ [d0, d1, d2] → 0 ≤ x ∧ x ≤ 99999 := fun x hx => by
      have hx2 := hperm.mem_iff.mp hx
      simp only [List.mem_cons, List.not_mem_nil, or_false] at hx2
      rcases hx2 with rfl | rfl | rfl
      · exact ⟨p00, p01⟩
      · exact ⟨p10, p11⟩
      · exact ⟨p20, p21⟩
    have b0 := hin d0 (by simp)
    have b1 := hin d1 (by simp)
    have b2 := hin d2 (by simp)
    have hle : d0 ≤ d1 ∧ d1 ≤ d2 := by
      simp only [List.pairwise_cons, List.mem_cons, List.not_mem_nil, or_false] at hsort
      exact ⟨hsort.1 d1 (.inl rfl), hsort.2.1 d2 rfl⟩
    have hq' : (upd H5 q (.lst ([d0, d1, d2].map V.int))) q = some (.lst [.int d0, .int d1, .int d2]) := upd_same
    have s6 := s5.trans (same_new (o := .lst ([d0, d1, d2].map V.int)) hq)
    generalize upd H5 q (.lst ([d0, d1, d2].map V.int)) = H6 at hq' s6 ⊢
    clear hl hx hperm hsort hdl hin hq hD s5
    walk_at "go"
    refine g_tcut (fun σ' H' => ∃ q e0 e1 e2 v, σ' = [some (.ref a), some (.int b), some (.int far), some (.ref l1), some (.ref l2), some (.ref q), v, none, none, none] ∧ Same H4 H' ∧ H' q = some (.lst [.int e0, .int e1, .int e2]) ∧ 0 ≤ e0 ∧ e0 ≤ e1 ∧ e1 ≤ e2 ∧ e2 ≤ 99999) ?_ ?_
    · walk_at "go"
      refine ⟨a, ns, _, rfl, s6.seq hS4, by decide, ?_⟩
      walk_at "go"
      refine g_ite (fun c1 => ?_) (fun c1 => ?_)
      · walk_at "go"
        refine r_ixL (SqL.of hq') at1 ?_
        walk_at "go"
        refine ⟨by walk_at "sz", fun q2 hq2 => ?_⟩
        walk_at "go"
        exact ⟨q2, 0, d1, 99999, _, rfl, s6.trans (same_new hq2), upd_same, by omega, by omega, by omega, by omega⟩
      · exact ⟨q, d0, d1, d2, _, rfl, s6, hq', by omega, by omega, by omega, by omega⟩
    clear hq' s6 hle b0 b1 b2
    rintro σ' H7 ⟨q, e0, e1, e2, v, rfl, s7, hq, g0, g1, g2, g3⟩
    walk_at "go"
    refine r_ixL (SqL.of hq) at0 ?_
    walk_at "go"
    refine r_ixL (SqL.of hq) at1 ?_
    walk_at "go"
    refine ⟨l1, as, st, l2, bs, ga, _, _, rfl, hR1.same s7, hR2.same s7, hs, hg, by omega, by omega, g0, by omega, fun H8 s8 => ?_⟩
    have hq := s8 _ _ hq
    have s8 := s7.trans s8
    walk_at "go"
    refine g_tcut (fun σ' H' => ∃ v, σ' = [some (.ref a), some (.int b), some (.int far), some (.ref l1), some (.ref l2), some (.ref q), v, some (.int (owedV st ga e0 e1)), some (.int (owedV st ga (e1 + 1) e2)), none] ∧ Same H8 H') ?_ ?_
    · walk_at "go"
      refine r_ixL (SqL.of hq) at1 ?_
      walk_at "go"
      refine g_ite (fun c1 => ?_) (fun c1 => ?_)
      · walk_at "go"
        refine r_ixL (SqL.of hq) at1 ?_
        walk_at "go"
        refine r_ixL (SqL.of hq) at2 ?_
        walk_at "go"
        refine ⟨l1, as, st, l2, bs, ga, _, _, rfl, hR1.same s8, hR2.same s8, hs, hg, by omega, by omega, by omega, by omega, fun H9 s9 => ?_⟩
        exact ⟨_, rfl, s9⟩
      · refine ⟨v, ?_, Same.refl _⟩
        rw [show owedV st ga (e1 + 1) e2 = 0 from dsum_empty (by omega)]
        rfl
    rintro σ' H9 ⟨v, rfl, s9⟩
    have hq := s9 _ _ hq
    have s9 := s8.trans s9
    walk_at "go"
    refine r_ixL (SqL.of hq) at0 ?_
    walk_at "go"
    refine r_ixL (SqL.of hq) at2 ?_
    walk_at "go"
    refine ⟨l1, as, st, l2, bs, ga, _, _, rfl, hR1.same s9, hR2.same s9, hs, hg, by omega, by omega, g0, by omega, fun H10 s10 => ?_⟩
    have hq := s10 _ _ hq
    have s10 := s9.trans s10
    have n1 := owedV_nn hs hg (f := e0) (e := e1) g0
    have n2 := owedV_nn hs hg (f := e1 + 1) (e := e2) (by omega)
    have n3 := owedV_split (st := st) (ga := ga) g1 g2
    walk_at "go"
    refine g_ite (fun c1 => absurd n1 (by omega)) (fun _ => ?_)
    walk_at "go"
    refine g_ite (fun c1 => absurd n2 (by omega)) (fun _ => ?_)
    walk_at "go"
    refine g_iteN (fun c1 => absurd n3 c1) (fun _ => ?_)
    walk_at "go"
    refine r_ixL (SqL.of hq) at1 ?_
    walk_at "go"
    refine r_ixL (SqL.of hq) at1 ?_
    walk_at "go"
    refine ⟨l1, as, st, l2, bs, ga, _, _, rfl, hR1.same s10, hR2.same s10, hs, hg, by omega, by omega, by omega, by omega, fun H11 s11 => ?_⟩
    have hq := s11 _ _ hq
    have s11 := s10.trans s11
    walk_at "go"
    refine r_ixL (SqL.of hq) at1 ?_
    walk_at "go"
    refine ⟨l1, as, st, l2, bs, ga, _, rfl, hR1.same s11, hR2.same s11, hs, hg, by omega, ?_⟩
    walk_at "go"
    refine r_ixL (SqL.of hq) at1 ?_
    walk_at "go"
    refine ⟨_, _, rfl, by omega, by omega, fun H12 s12 => ?_⟩
    walk_at "go"
    refine g_iteN (fun c1 => absurd (owedV_one st ga e1) c1) (fun _ => ?_)
    have s12 := s11.trans s12
    walk_at "go"
    refine ⟨a, ns, _, rfl, s12.seq hS4, by decide, ?_⟩
    walk_at "go"
    refine ⟨a, ns, _, rfl, s12.seq hS4, by decide, ?_⟩
    walk_at "go"
    exact ⟨_, _, rfl, fun H' => k H'⟩
end
theorem all_mk {P : Program} {w : World} {K : PySem.W.Frag} {h : Heap} {mg : Str → Option Value} {fa : Addr} (X : K.In h) (G : h.Ns mainGlobals mg) (hfa : mg "law" = some (.ref fa))
    {c_RentError : Addr}
    {c_BadDay : Addr}
    {f_is_whole : Addr} {od_is_whole an_is_whole : Option Addr} {sl_is_whole : Array (Option Value)} {oc_is_whole kV_is_whole dc_is_whole pm_is_whole cd_is_whole ct_is_whole : Value}
    {f_is_within : Addr} {od_is_within an_is_within : Option Addr} {sl_is_within : Array (Option Value)} {oc_is_within kV_is_within dc_is_within pm_is_within cd_is_within ct_is_within : Value}
    {f_check_day : Addr} {od_check_day an_check_day : Option Addr} {sl_check_day : Array (Option Value)} {oc_check_day kV_check_day dc_check_day pm_check_day cd_check_day ct_check_day : Value}
    {f_month_days : Addr} {od_month_days an_month_days : Option Addr} {sl_month_days : Array (Option Value)} {oc_month_days kV_month_days dc_month_days pm_month_days cd_month_days ct_month_days : Value}
    {f_month_of : Addr} {od_month_of an_month_of : Option Addr} {sl_month_of : Array (Option Value)} {oc_month_of kV_month_of dc_month_of pm_month_of cd_month_of ct_month_of : Value}
    {f_day_of : Addr} {od_day_of an_day_of : Option Addr} {sl_day_of : Array (Option Value)} {oc_day_of kV_day_of dc_day_of pm_day_of cd_day_of ct_day_of : Value}
    {f_is_leap : Addr} {od_is_leap an_is_leap : Option Addr} {sl_is_leap : Array (Option Value)} {oc_is_leap kV_is_leap dc_is_leap pm_is_leap cd_is_leap ct_is_leap : Value}
    {f_length : Addr} {od_length an_length : Option Addr} {sl_length : Array (Option Value)} {oc_length kV_length dc_length pm_length cd_length ct_length : Value}
    {f_year_start : Addr} {od_year_start an_year_start : Option Addr} {sl_year_start : Array (Option Value)} {oc_year_start kV_year_start dc_year_start pm_year_start cd_year_start ct_year_start : Value}
    {f_in_order : Addr} {od_in_order an_in_order : Option Addr} {sl_in_order : Array (Option Value)} {oc_in_order kV_in_order dc_in_order pm_in_order cd_in_order ct_in_order : Value}
    {f_spans : Addr} {od_spans an_spans : Option Addr} {sl_spans : Array (Option Value)} {oc_spans kV_spans dc_spans pm_spans cd_spans ct_spans : Value}
    {f_pair_held : Addr} {od_pair_held an_pair_held : Option Addr} {sl_pair_held : Array (Option Value)} {oc_pair_held kV_pair_held dc_pair_held pm_pair_held cd_pair_held ct_pair_held : Value}
    {f_held : Addr} {od_held an_held : Option Addr} {sl_held : Array (Option Value)} {oc_held kV_held dc_held pm_held cd_held ct_held : Value}
    {f_rent_on : Addr} {od_rent_on an_rent_on : Option Addr} {sl_rent_on : Array (Option Value)} {oc_rent_on kV_rent_on dc_rent_on pm_rent_on cd_rent_on ct_rent_on : Value}
    {f_part : Addr} {od_part an_part : Option Addr} {sl_part : Array (Option Value)} {oc_part kV_part dc_part pm_part cd_part ct_part : Value}
    {f_owed : Addr} {od_owed an_owed : Option Addr} {sl_owed : Array (Option Value)} {oc_owed kV_owed dc_owed pm_owed cd_owed ct_owed : Value}
    {f_parts : Addr} {od_parts an_parts : Option Addr} {sl_parts : Array (Option Value)} {oc_parts kV_parts dc_parts pm_parts cd_parts ct_parts : Value}
    {f_parts_through : Addr} {od_parts_through an_parts_through : Option Addr} {sl_parts_through : Array (Option Value)} {oc_parts_through kV_parts_through dc_parts_through pm_parts_through cd_parts_through ct_parts_through : Value}
    {f_l_cell_at : Addr} {od_l_cell_at an_l_cell_at : Option Addr} {sl_l_cell_at : Array (Option Value)} {oc_l_cell_at kV_l_cell_at dc_l_cell_at pm_l_cell_at cd_l_cell_at ct_l_cell_at : Value}
    {f_l_mix : Addr} {od_l_mix an_l_mix : Option Addr} {sl_l_mix : Array (Option Value)} {oc_l_mix kV_l_mix dc_l_mix pm_l_mix cd_l_mix ct_l_mix : Value}
    {f_l_base : Addr} {od_l_base an_l_base : Option Addr} {sl_l_base : Array (Option Value)} {oc_l_base kV_l_base dc_l_base pm_l_base cd_l_base ct_l_base : Value}
    {f_l_money : Addr} {od_l_money an_l_money : Option Addr} {sl_l_money : Array (Option Value)} {oc_l_money kV_l_money dc_l_money pm_l_money cd_l_money ct_l_money : Value}
    {f_l_number : Addr} {od_l_number an_l_number : Option Addr} {sl_l_number : Array (Option Value)} {oc_l_number kV_l_number dc_l_number pm_l_number cd_l_number ct_l_number : Value}
    {f_l_steps : Addr} {od_l_steps an_l_steps : Option Addr} {sl_l_steps : Array (Option Value)} {oc_l_steps kV_l_steps dc_l_steps pm_l_steps cd_l_steps ct_l_steps : Value}
    {f_l_gauges : Addr} {od_l_gauges an_l_gauges : Option Addr} {sl_l_gauges : Array (Option Value)} {oc_l_gauges kV_l_gauges dc_l_gauges pm_l_gauges cd_l_gauges ct_l_gauges : Value}
    {f_l_months : Addr} {od_l_months an_l_months : Option Addr} {sl_l_months : Array (Option Value)} {oc_l_months kV_l_months dc_l_months pm_l_months cd_l_months ct_l_months : Value}
    {f_law : Addr} {od_law an_law : Option Addr} {sl_law : Array (Option Value)} {oc_law kV_law dc_law pm_law cd_law ct_law : Value}
    {tk_FIRST_YEAR : Tok}
    {tk_LAST_YEAR : Tok}
    {tk_LAST_DAY : Tok}
    {tk_LONGEST_YEAR : Tok}
    {o_LENGTHS : Addr} {t0_LENGTHS t1_LENGTHS t2_LENGTHS t3_LENGTHS t4_LENGTHS t5_LENGTHS t6_LENGTHS t7_LENGTHS t8_LENGTHS t9_LENGTHS t10_LENGTHS t11_LENGTHS : Tok} {dd_LENGTHS : Option Addr} {nn_LENGTHS : Nat} {ss_LENGTHS : Array (Option Value)}
    (a_RentError : PySem.W.nsIn K mainGlobals "RentError" = some (some (.ref c_RentError)))
    (a_BadDay : PySem.W.nsIn K mainGlobals "BadDay" = some (some (.ref c_BadDay)))
    (a_is_whole : PySem.W.nsIn K mainGlobals "is_whole" = some (some (.ref f_is_whole)))
    (l_is_whole : K.lookup f_is_whole = some ⟨oc_is_whole, od_is_whole, .func (PySem.W.fnOf "is_whole" "is_whole" (defArgs s_is_whole) (defBody s_is_whole) (defScope s_is_whole) .none kV_is_whole dc_is_whole pm_is_whole an_is_whole cd_is_whole ct_is_whole), sl_is_whole⟩)
    (cc_is_whole : PySem.W.codeIn K cd_is_whole "is_whole" = true)
    (k_is_whole : PySem.W.keepIn K (.ref f_is_whole) = true)
    (a_is_within : PySem.W.nsIn K mainGlobals "is_within" = some (some (.ref f_is_within)))
    (l_is_within : K.lookup f_is_within = some ⟨oc_is_within, od_is_within, .func (PySem.W.fnOf "is_within" "is_within" (defArgs s_is_within) (defBody s_is_within) (defScope s_is_within) .none kV_is_within dc_is_within pm_is_within an_is_within cd_is_within ct_is_within), sl_is_within⟩)
    (cc_is_within : PySem.W.codeIn K cd_is_within "is_within" = true)
    (k_is_within : PySem.W.keepIn K (.ref f_is_within) = true)
    (a_check_day : PySem.W.nsIn K mainGlobals "check_day" = some (some (.ref f_check_day)))
    (l_check_day : K.lookup f_check_day = some ⟨oc_check_day, od_check_day, .func (PySem.W.fnOf "check_day" "check_day" (defArgs s_check_day) (defBody s_check_day) (defScope s_check_day) .none kV_check_day dc_check_day pm_check_day an_check_day cd_check_day ct_check_day), sl_check_day⟩)
    (cc_check_day : PySem.W.codeIn K cd_check_day "check_day" = true)
    (k_check_day : PySem.W.keepIn K (.ref f_check_day) = true)
    (a_month_days : PySem.W.nsIn K mainGlobals "month_days" = some (some (.ref f_month_days)))
    (l_month_days : K.lookup f_month_days = some ⟨oc_month_days, od_month_days, .func (PySem.W.fnOf "month_days" "month_days" (defArgs s_month_days) (defBody s_month_days) (defScope s_month_days) .none kV_month_days dc_month_days pm_month_days an_month_days cd_month_days ct_month_days), sl_month_days⟩)
    (cc_month_days : PySem.W.codeIn K cd_month_days "month_days" = true)
    (k_month_days : PySem.W.keepIn K (.ref f_month_days) = true)
    (a_month_of : PySem.W.nsIn K mainGlobals "month_of" = some (some (.ref f_month_of)))
    (l_month_of : K.lookup f_month_of = some ⟨oc_month_of, od_month_of, .func (PySem.W.fnOf "month_of" "month_of" (defArgs s_month_of) (defBody s_month_of) (defScope s_month_of) .none kV_month_of dc_month_of pm_month_of an_month_of cd_month_of ct_month_of), sl_month_of⟩)
    (cc_month_of : PySem.W.codeIn K cd_month_of "month_of" = true)
    (k_month_of : PySem.W.keepIn K (.ref f_month_of) = true)
    (a_day_of : PySem.W.nsIn K mainGlobals "day_of" = some (some (.ref f_day_of)))
    (l_day_of : K.lookup f_day_of = some ⟨oc_day_of, od_day_of, .func (PySem.W.fnOf "day_of" "day_of" (defArgs s_day_of) (defBody s_day_of) (defScope s_day_of) .none kV_day_of dc_day_of pm_day_of an_day_of cd_day_of ct_day_of), sl_day_of⟩)
    (cc_day_of : PySem.W.codeIn K cd_day_of "day_of" = true)
    (k_day_of : PySem.W.keepIn K (.ref f_day_of) = true)
    (a_is_leap : PySem.W.nsIn K mainGlobals "_is_leap" = some (some (.ref f_is_leap)))
    (l_is_leap : K.lookup f_is_leap = some ⟨oc_is_leap, od_is_leap, .func (PySem.W.fnOf "_is_leap" "_is_leap" (defArgs s_is_leap) (defBody s_is_leap) (defScope s_is_leap) .none kV_is_leap dc_is_leap pm_is_leap an_is_leap cd_is_leap ct_is_leap), sl_is_leap⟩)
    (cc_is_leap : PySem.W.codeIn K cd_is_leap "_is_leap" = true)
    (k_is_leap : PySem.W.keepIn K (.ref f_is_leap) = true)
    (a_length : PySem.W.nsIn K mainGlobals "_length" = some (some (.ref f_length)))
    (l_length : K.lookup f_length = some ⟨oc_length, od_length, .func (PySem.W.fnOf "_length" "_length" (defArgs s_length) (defBody s_length) (defScope s_length) .none kV_length dc_length pm_length an_length cd_length ct_length), sl_length⟩)
    (cc_length : PySem.W.codeIn K cd_length "_length" = true)
    (k_length : PySem.W.keepIn K (.ref f_length) = true)
    (a_year_start : PySem.W.nsIn K mainGlobals "_year_start" = some (some (.ref f_year_start)))
    (l_year_start : K.lookup f_year_start = some ⟨oc_year_start, od_year_start, .func (PySem.W.fnOf "_year_start" "_year_start" (defArgs s_year_start) (defBody s_year_start) (defScope s_year_start) .none kV_year_start dc_year_start pm_year_start an_year_start cd_year_start ct_year_start), sl_year_start⟩)
    (cc_year_start : PySem.W.codeIn K cd_year_start "_year_start" = true)
    (k_year_start : PySem.W.keepIn K (.ref f_year_start) = true)
    (a_in_order : PySem.W.nsIn K mainGlobals "in_order" = some (some (.ref f_in_order)))
    (l_in_order : K.lookup f_in_order = some ⟨oc_in_order, od_in_order, .func (PySem.W.fnOf "in_order" "in_order" (defArgs s_in_order) (defBody s_in_order) (defScope s_in_order) .none kV_in_order dc_in_order pm_in_order an_in_order cd_in_order ct_in_order), sl_in_order⟩)
    (cc_in_order : PySem.W.codeIn K cd_in_order "in_order" = true)
    (k_in_order : PySem.W.keepIn K (.ref f_in_order) = true)
    (a_spans : PySem.W.nsIn K mainGlobals "spans" = some (some (.ref f_spans)))
    (l_spans : K.lookup f_spans = some ⟨oc_spans, od_spans, .func (PySem.W.fnOf "spans" "spans" (defArgs s_spans) (defBody s_spans) (defScope s_spans) .none kV_spans dc_spans pm_spans an_spans cd_spans ct_spans), sl_spans⟩)
    (cc_spans : PySem.W.codeIn K cd_spans "spans" = true)
    (k_spans : PySem.W.keepIn K (.ref f_spans) = true)
    (a_pair_held : PySem.W.nsIn K mainGlobals "pair_held" = some (some (.ref f_pair_held)))
    (l_pair_held : K.lookup f_pair_held = some ⟨oc_pair_held, od_pair_held, .func (PySem.W.fnOf "pair_held" "pair_held" (defArgs s_pair_held) (defBody s_pair_held) (defScope s_pair_held) .none kV_pair_held dc_pair_held pm_pair_held an_pair_held cd_pair_held ct_pair_held), sl_pair_held⟩)
    (cc_pair_held : PySem.W.codeIn K cd_pair_held "pair_held" = true)
    (k_pair_held : PySem.W.keepIn K (.ref f_pair_held) = true)
    (a_held : PySem.W.nsIn K mainGlobals "held" = some (some (.ref f_held)))
    (l_held : K.lookup f_held = some ⟨oc_held, od_held, .func (PySem.W.fnOf "held" "held" (defArgs s_held) (defBody s_held) (defScope s_held) .none kV_held dc_held pm_held an_held cd_held ct_held), sl_held⟩)
    (cc_held : PySem.W.codeIn K cd_held "held" = true)
    (k_held : PySem.W.keepIn K (.ref f_held) = true)
    (a_rent_on : PySem.W.nsIn K mainGlobals "rent_on" = some (some (.ref f_rent_on)))
    (l_rent_on : K.lookup f_rent_on = some ⟨oc_rent_on, od_rent_on, .func (PySem.W.fnOf "rent_on" "rent_on" (defArgs s_rent_on) (defBody s_rent_on) (defScope s_rent_on) .none kV_rent_on dc_rent_on pm_rent_on an_rent_on cd_rent_on ct_rent_on), sl_rent_on⟩)
    (cc_rent_on : PySem.W.codeIn K cd_rent_on "rent_on" = true)
    (k_rent_on : PySem.W.keepIn K (.ref f_rent_on) = true)
    (a_part : PySem.W.nsIn K mainGlobals "part" = some (some (.ref f_part)))
    (l_part : K.lookup f_part = some ⟨oc_part, od_part, .func (PySem.W.fnOf "part" "part" (defArgs s_part) (defBody s_part) (defScope s_part) .none kV_part dc_part pm_part an_part cd_part ct_part), sl_part⟩)
    (cc_part : PySem.W.codeIn K cd_part "part" = true)
    (k_part : PySem.W.keepIn K (.ref f_part) = true)
    (a_owed : PySem.W.nsIn K mainGlobals "owed" = some (some (.ref f_owed)))
    (l_owed : K.lookup f_owed = some ⟨oc_owed, od_owed, .func (PySem.W.fnOf "owed" "owed" (defArgs s_owed) (defBody s_owed) (defScope s_owed) .none kV_owed dc_owed pm_owed an_owed cd_owed ct_owed), sl_owed⟩)
    (cc_owed : PySem.W.codeIn K cd_owed "owed" = true)
    (k_owed : PySem.W.keepIn K (.ref f_owed) = true)
    (a_parts : PySem.W.nsIn K mainGlobals "_parts" = some (some (.ref f_parts)))
    (l_parts : K.lookup f_parts = some ⟨oc_parts, od_parts, .func (PySem.W.fnOf "_parts" "_parts" (defArgs s_parts) (defBody s_parts) (defScope s_parts) .none kV_parts dc_parts pm_parts an_parts cd_parts ct_parts), sl_parts⟩)
    (cc_parts : PySem.W.codeIn K cd_parts "_parts" = true)
    (k_parts : PySem.W.keepIn K (.ref f_parts) = true)
    (a_parts_through : PySem.W.nsIn K mainGlobals "_parts_through" = some (some (.ref f_parts_through)))
    (l_parts_through : K.lookup f_parts_through = some ⟨oc_parts_through, od_parts_through, .func (PySem.W.fnOf "_parts_through" "_parts_through" (defArgs s_parts_through) (defBody s_parts_through) (defScope s_parts_through) .none kV_parts_through dc_parts_through pm_parts_through an_parts_through cd_parts_through ct_parts_through), sl_parts_through⟩)
    (cc_parts_through : PySem.W.codeIn K cd_parts_through "_parts_through" = true)
    (k_parts_through : PySem.W.keepIn K (.ref f_parts_through) = true)
    (a_l_cell_at : PySem.W.nsIn K mainGlobals "_law_cell_at" = some (some (.ref f_l_cell_at)))
    (l_l_cell_at : K.lookup f_l_cell_at = some ⟨oc_l_cell_at, od_l_cell_at, .func (PySem.W.fnOf "_law_cell_at" "_law_cell_at" (defArgs s_l_cell_at) (defBody s_l_cell_at) (defScope s_l_cell_at) .none kV_l_cell_at dc_l_cell_at pm_l_cell_at an_l_cell_at cd_l_cell_at ct_l_cell_at), sl_l_cell_at⟩)
    (cc_l_cell_at : PySem.W.codeIn K cd_l_cell_at "_law_cell_at" = true)
    (k_l_cell_at : PySem.W.keepIn K (.ref f_l_cell_at) = true)
    (a_l_mix : PySem.W.nsIn K mainGlobals "_law_mix" = some (some (.ref f_l_mix)))
    (l_l_mix : K.lookup f_l_mix = some ⟨oc_l_mix, od_l_mix, .func (PySem.W.fnOf "_law_mix" "_law_mix" (defArgs s_l_mix) (defBody s_l_mix) (defScope s_l_mix) .none kV_l_mix dc_l_mix pm_l_mix an_l_mix cd_l_mix ct_l_mix), sl_l_mix⟩)
    (cc_l_mix : PySem.W.codeIn K cd_l_mix "_law_mix" = true)
    (k_l_mix : PySem.W.keepIn K (.ref f_l_mix) = true)
    (a_l_base : PySem.W.nsIn K mainGlobals "_law_base" = some (some (.ref f_l_base)))
    (l_l_base : K.lookup f_l_base = some ⟨oc_l_base, od_l_base, .func (PySem.W.fnOf "_law_base" "_law_base" (defArgs s_l_base) (defBody s_l_base) (defScope s_l_base) .none kV_l_base dc_l_base pm_l_base an_l_base cd_l_base ct_l_base), sl_l_base⟩)
    (cc_l_base : PySem.W.codeIn K cd_l_base "_law_base" = true)
    (k_l_base : PySem.W.keepIn K (.ref f_l_base) = true)
    (a_l_money : PySem.W.nsIn K mainGlobals "_law_money" = some (some (.ref f_l_money)))
    (l_l_money : K.lookup f_l_money = some ⟨oc_l_money, od_l_money, .func (PySem.W.fnOf "_law_money" "_law_money" (defArgs s_l_money) (defBody s_l_money) (defScope s_l_money) .none kV_l_money dc_l_money pm_l_money an_l_money cd_l_money ct_l_money), sl_l_money⟩)
    (cc_l_money : PySem.W.codeIn K cd_l_money "_law_money" = true)
    (k_l_money : PySem.W.keepIn K (.ref f_l_money) = true)
    (a_l_number : PySem.W.nsIn K mainGlobals "_law_number" = some (some (.ref f_l_number)))
    (l_l_number : K.lookup f_l_number = some ⟨oc_l_number, od_l_number, .func (PySem.W.fnOf "_law_number" "_law_number" (defArgs s_l_number) (defBody s_l_number) (defScope s_l_number) .none kV_l_number dc_l_number pm_l_number an_l_number cd_l_number ct_l_number), sl_l_number⟩)
    (cc_l_number : PySem.W.codeIn K cd_l_number "_law_number" = true)
    (k_l_number : PySem.W.keepIn K (.ref f_l_number) = true)
    (a_l_steps : PySem.W.nsIn K mainGlobals "_law_steps" = some (some (.ref f_l_steps)))
    (l_l_steps : K.lookup f_l_steps = some ⟨oc_l_steps, od_l_steps, .func (PySem.W.fnOf "_law_steps" "_law_steps" (defArgs s_l_steps) (defBody s_l_steps) (defScope s_l_steps) .none kV_l_steps dc_l_steps pm_l_steps an_l_steps cd_l_steps ct_l_steps), sl_l_steps⟩)
    (cc_l_steps : PySem.W.codeIn K cd_l_steps "_law_steps" = true)
    (k_l_steps : PySem.W.keepIn K (.ref f_l_steps) = true)
    (a_l_gauges : PySem.W.nsIn K mainGlobals "_law_gauges" = some (some (.ref f_l_gauges)))
    (l_l_gauges : K.lookup f_l_gauges = some ⟨oc_l_gauges, od_l_gauges, .func (PySem.W.fnOf "_law_gauges" "_law_gauges" (defArgs s_l_gauges) (defBody s_l_gauges) (defScope s_l_gauges) .none kV_l_gauges dc_l_gauges pm_l_gauges an_l_gauges cd_l_gauges ct_l_gauges), sl_l_gauges⟩)
    (cc_l_gauges : PySem.W.codeIn K cd_l_gauges "_law_gauges" = true)
    (k_l_gauges : PySem.W.keepIn K (.ref f_l_gauges) = true)
    (a_l_months : PySem.W.nsIn K mainGlobals "_law_months" = some (some (.ref f_l_months)))
    (l_l_months : K.lookup f_l_months = some ⟨oc_l_months, od_l_months, .func (PySem.W.fnOf "_law_months" "_law_months" (defArgs s_l_months) (defBody s_l_months) (defScope s_l_months) .none kV_l_months dc_l_months pm_l_months an_l_months cd_l_months ct_l_months), sl_l_months⟩)
    (cc_l_months : PySem.W.codeIn K cd_l_months "_law_months" = true)
    (k_l_months : PySem.W.keepIn K (.ref f_l_months) = true)
    (a_law : PySem.W.nsIn K mainGlobals "law" = some (some (.ref f_law)))
    (l_law : K.lookup f_law = some ⟨oc_law, od_law, .func (PySem.W.fnOf "law" "law" (defArgs s_law) (defBody s_law) (defScope s_law) .none kV_law dc_law pm_law an_law cd_law ct_law), sl_law⟩)
    (cc_law : PySem.W.codeIn K cd_law "law" = true)
    (k_law : PySem.W.keepIn K (.ref f_law) = true)
    (x_BadDay : PySem.W.excIn K c_BadDay [.type "ValueError", .type "Exception", .type "BaseException", .type "object"] "ValueError.__new__" = true)
    (k_BadDay : PySem.W.keepIn K (.ref c_BadDay) = true)
    (s_BadDay : PySem.W.subIn K (.ref c_BadDay) (.type "BaseException") = some true)
    (t_BadDay : PySem.W.typeIn K (.ref c_BadDay) = some (.type "type"))
    (a_FIRST_YEAR : PySem.W.nsIn K mainGlobals "FIRST_YEAR" = some (some (.int 2000 tk_FIRST_YEAR)))
    (a_LAST_YEAR : PySem.W.nsIn K mainGlobals "LAST_YEAR" = some (some (.int 2273 tk_LAST_YEAR)))
    (a_LAST_DAY : PySem.W.nsIn K mainGlobals "LAST_DAY" = some (some (.int 99999 tk_LAST_DAY)))
    (a_LONGEST_YEAR : PySem.W.nsIn K mainGlobals "LONGEST_YEAR" = some (some (.int 366 tk_LONGEST_YEAR)))
    (a_LENGTHS : PySem.W.nsIn K mainGlobals "LENGTHS" = some (some (.ref o_LENGTHS)))
    (l_LENGTHS : K.lookup o_LENGTHS = some ⟨.type "tuple", dd_LENGTHS, .seq #[(.int 31 t0_LENGTHS), (.int 28 t1_LENGTHS), (.int 31 t2_LENGTHS), (.int 30 t3_LENGTHS), (.int 31 t4_LENGTHS), (.int 30 t5_LENGTHS), (.int 31 t6_LENGTHS), (.int 31 t7_LENGTHS), (.int 30 t8_LENGTHS), (.int 31 t9_LENGTHS), (.int 30 t10_LENGTHS), (.int 31 t11_LENGTHS)] nn_LENGTHS, ss_LENGTHS⟩)
    (z_isinstance : PySem.W.nsIn K mainGlobals "isinstance" = some none)
    (z_int : PySem.W.nsIn K mainGlobals "int" = some none)
    (z_bool : PySem.W.nsIn K mainGlobals "bool" = some none)
    (z_sum : PySem.W.nsIn K mainGlobals "sum" = some none)
    (z_range : PySem.W.nsIn K mainGlobals "range" = some none)
    (z_sorted : PySem.W.nsIn K mainGlobals "sorted" = some none)
    (z_reversed : PySem.W.nsIn K mainGlobals "reversed" = some none)
    (z_max : PySem.W.nsIn K mainGlobals "max" = some none)
    (z_len : PySem.W.nsIn K mainGlobals "len" = some none)
    (z_min : PySem.W.nsIn K mainGlobals "min" = some none)
    : ∃ fd : FuncData, (∀ (s : Shared) (v : Value), BindsTo s fd ⟨[v], []⟩ [("_law_script", v)]) ∧ ∀ base : Heap, K.In base → base.Ns mainGlobals mg → FnOk P w K mg base (L2.CX P w) 8 fa fd ["_law_script"] (sp_law K) := by
  have e : fa = f_law := Value.ref.inj (Option.some.inj (hfa.symm.trans (PySem.W.mg_of X G a_law)))
  rw [e]
  have F_is_whole := fun_mk (st := s_is_whole) l_is_whole cc_is_whole k_is_whole
  have F_is_within := fun_mk (st := s_is_within) l_is_within cc_is_within k_is_within
  have F_check_day := fun_mk (st := s_check_day) l_check_day cc_check_day k_check_day
  have F_month_days := fun_mk (st := s_month_days) l_month_days cc_month_days k_month_days
  have F_month_of := fun_mk (st := s_month_of) l_month_of cc_month_of k_month_of
  have F_day_of := fun_mk (st := s_day_of) l_day_of cc_day_of k_day_of
  have F_is_leap := fun_mk (st := s_is_leap) l_is_leap cc_is_leap k_is_leap
  have F_length := fun_mk (st := s_length) l_length cc_length k_length
  have F_year_start := fun_mk (st := s_year_start) l_year_start cc_year_start k_year_start
  have F_in_order := fun_mk (st := s_in_order) l_in_order cc_in_order k_in_order
  have F_spans := fun_mk (st := s_spans) l_spans cc_spans k_spans
  have F_pair_held := fun_mk (st := s_pair_held) l_pair_held cc_pair_held k_pair_held
  have F_held := fun_mk (st := s_held) l_held cc_held k_held
  have F_rent_on := fun_mk (st := s_rent_on) l_rent_on cc_rent_on k_rent_on
  have F_part := fun_mk (st := s_part) l_part cc_part k_part
  have F_owed := fun_mk (st := s_owed) l_owed cc_owed k_owed
  have F_parts := fun_mk (st := s_parts) l_parts cc_parts k_parts
  have F_parts_through := fun_mk (st := s_parts_through) l_parts_through cc_parts_through k_parts_through
  have F_l_cell_at := fun_mk (st := s_l_cell_at) l_l_cell_at cc_l_cell_at k_l_cell_at
  have F_l_mix := fun_mk (st := s_l_mix) l_l_mix cc_l_mix k_l_mix
  have F_l_base := fun_mk (st := s_l_base) l_l_base cc_l_base k_l_base
  have F_l_money := fun_mk (st := s_l_money) l_l_money cc_l_money k_l_money
  have F_l_number := fun_mk (st := s_l_number) l_l_number cc_l_number k_l_number
  have F_l_steps := fun_mk (st := s_l_steps) l_l_steps cc_l_steps k_l_steps
  have F_l_gauges := fun_mk (st := s_l_gauges) l_l_gauges cc_l_gauges k_l_gauges
  have F_l_months := fun_mk (st := s_l_months) l_l_months cc_l_months k_l_months
  have F_law := fun_mk (st := s_law) l_law cc_law k_law
  let T : Txt K mg := {
    f_is_whole := f_is_whole,
    fd_is_whole := _,
    F_is_whole := F_is_whole,
    b_is_whole := F_is_whole.binds (ps := ["thing"]) fun _ _ _ _ _ _ us hl => match us, hl with | [_], _ => rfl,
    g_is_whole := PySem.W.mg_of X G a_is_whole,
    f_is_within := f_is_within,
    fd_is_within := _,
    F_is_within := F_is_within,
    b_is_within := F_is_within.binds (ps := ["thing", "low", "high"]) fun _ _ _ _ _ _ us hl => match us, hl with | [_, _, _], _ => rfl,
    g_is_within := PySem.W.mg_of X G a_is_within,
    f_check_day := f_check_day,
    fd_check_day := _,
    F_check_day := F_check_day,
    b_check_day := F_check_day.binds (ps := ["day"]) fun _ _ _ _ _ _ us hl => match us, hl with | [_], _ => rfl,
    g_check_day := PySem.W.mg_of X G a_check_day,
    f_month_days := f_month_days,
    fd_month_days := _,
    F_month_days := F_month_days,
    b_month_days := F_month_days.binds (ps := ["year", "month"]) fun _ _ _ _ _ _ us hl => match us, hl with | [_, _], _ => rfl,
    g_month_days := PySem.W.mg_of X G a_month_days,
    f_month_of := f_month_of,
    fd_month_of := _,
    F_month_of := F_month_of,
    b_month_of := F_month_of.binds (ps := ["day"]) fun _ _ _ _ _ _ us hl => match us, hl with | [_], _ => rfl,
    g_month_of := PySem.W.mg_of X G a_month_of,
    f_day_of := f_day_of,
    fd_day_of := _,
    F_day_of := F_day_of,
    b_day_of := F_day_of.binds (ps := ["year", "month", "number"]) fun _ _ _ _ _ _ us hl => match us, hl with | [_, _, _], _ => rfl,
    g_day_of := PySem.W.mg_of X G a_day_of,
    f_is_leap := f_is_leap,
    fd_is_leap := _,
    F_is_leap := F_is_leap,
    b_is_leap := F_is_leap.binds (ps := ["year"]) fun _ _ _ _ _ _ us hl => match us, hl with | [_], _ => rfl,
    g_is_leap := PySem.W.mg_of X G a_is_leap,
    f_length := f_length,
    fd_length := _,
    F_length := F_length,
    b_length := F_length.binds (ps := ["year", "month"]) fun _ _ _ _ _ _ us hl => match us, hl with | [_, _], _ => rfl,
    g_length := PySem.W.mg_of X G a_length,
    f_year_start := f_year_start,
    fd_year_start := _,
    F_year_start := F_year_start,
    b_year_start := F_year_start.binds (ps := ["year"]) fun _ _ _ _ _ _ us hl => match us, hl with | [_], _ => rfl,
    g_year_start := PySem.W.mg_of X G a_year_start,
    f_in_order := f_in_order,
    fd_in_order := _,
    F_in_order := F_in_order,
    b_in_order := F_in_order.binds (ps := ["terms"]) fun _ _ _ _ _ _ us hl => match us, hl with | [_], _ => rfl,
    g_in_order := PySem.W.mg_of X G a_in_order,
    f_spans := f_spans,
    fd_spans := _,
    F_spans := F_spans,
    b_spans := F_spans.binds (ps := ["terms", "first", "last"]) fun _ _ _ _ _ _ us hl => match us, hl with | [_, _, _], _ => rfl,
    g_spans := PySem.W.mg_of X G a_spans,
    f_pair_held := f_pair_held,
    fd_pair_held := _,
    F_pair_held := F_pair_held,
    b_pair_held := F_pair_held.binds (ps := ["terms", "day"]) fun _ _ _ _ _ _ us hl => match us, hl with | [_, _], _ => rfl,
    g_pair_held := PySem.W.mg_of X G a_pair_held,
    f_held := f_held,
    fd_held := _,
    F_held := F_held,
    b_held := F_held.binds (ps := ["terms", "day"]) fun _ _ _ _ _ _ us hl => match us, hl with | [_, _], _ => rfl,
    g_held := PySem.W.mg_of X G a_held,
    f_rent_on := f_rent_on,
    fd_rent_on := _,
    F_rent_on := F_rent_on,
    b_rent_on := F_rent_on.binds (ps := ["steps", "gauges", "day"]) fun _ _ _ _ _ _ us hl => match us, hl with | [_, _, _], _ => rfl,
    g_rent_on := PySem.W.mg_of X G a_rent_on,
    f_part := f_part,
    fd_part := _,
    F_part := F_part,
    b_part := F_part.binds (ps := ["rent", "day"]) fun _ _ _ _ _ _ us hl => match us, hl with | [_, _], _ => rfl,
    g_part := PySem.W.mg_of X G a_part,
    f_owed := f_owed,
    fd_owed := _,
    F_owed := F_owed,
    b_owed := F_owed.binds (ps := ["steps", "gauges", "first", "last"]) fun _ _ _ _ _ _ us hl => match us, hl with | [_, _, _, _], _ => rfl,
    g_owed := PySem.W.mg_of X G a_owed,
    f_parts := f_parts,
    fd_parts := _,
    F_parts := F_parts,
    b_parts := F_parts.binds (ps := ["rent", "first", "last"]) fun _ _ _ _ _ _ us hl => match us, hl with | [_, _, _], _ => rfl,
    g_parts := PySem.W.mg_of X G a_parts,
    f_parts_through := f_parts_through,
    fd_parts_through := _,
    F_parts_through := F_parts_through,
    b_parts_through := F_parts_through.binds (ps := ["rent", "year", "month", "number"]) fun _ _ _ _ _ _ us hl => match us, hl with | [_, _, _, _], _ => rfl,
    g_parts_through := PySem.W.mg_of X G a_parts_through,
    f_l_cell_at := f_l_cell_at,
    fd_l_cell_at := _,
    F_l_cell_at := F_l_cell_at,
    b_l_cell_at := F_l_cell_at.binds (ps := ["_law_script", "_law_k"]) fun _ _ _ _ _ _ us hl => match us, hl with | [_, _], _ => rfl,
    g_l_cell_at := PySem.W.mg_of X G a_l_cell_at,
    f_l_mix := f_l_mix,
    fd_l_mix := _,
    F_l_mix := F_l_mix,
    b_l_mix := F_l_mix.binds (ps := ["_law_number_here", "_law_k"]) fun _ _ _ _ _ _ us hl => match us, hl with | [_, _], _ => rfl,
    g_l_mix := PySem.W.mg_of X G a_l_mix,
    f_l_base := f_l_base,
    fd_l_base := _,
    F_l_base := F_l_base,
    b_l_base := F_l_base.binds (ps := ["_law_cell"]) fun _ _ _ _ _ _ us hl => match us, hl with | [_], _ => rfl,
    g_l_base := PySem.W.mg_of X G a_l_base,
    f_l_money := f_l_money,
    fd_l_money := _,
    F_l_money := F_l_money,
    b_l_money := F_l_money.binds (ps := ["_law_cell"]) fun _ _ _ _ _ _ us hl => match us, hl with | [_], _ => rfl,
    g_l_money := PySem.W.mg_of X G a_l_money,
    f_l_number := f_l_number,
    fd_l_number := _,
    F_l_number := F_l_number,
    b_l_number := F_l_number.binds (ps := ["_law_cell"]) fun _ _ _ _ _ _ us hl => match us, hl with | [_], _ => rfl,
    g_l_number := PySem.W.mg_of X G a_l_number,
    f_l_steps := f_l_steps,
    fd_l_steps := _,
    F_l_steps := F_l_steps,
    b_l_steps := F_l_steps.binds (ps := ["_law_cell", "_law_base_here", "_law_wide"]) fun _ _ _ _ _ _ us hl => match us, hl with | [_, _, _], _ => rfl,
    g_l_steps := PySem.W.mg_of X G a_l_steps,
    f_l_gauges := f_l_gauges,
    fd_l_gauges := _,
    F_l_gauges := F_l_gauges,
    b_l_gauges := F_l_gauges.binds (ps := ["_law_cell", "_law_base_here", "_law_wide"]) fun _ _ _ _ _ _ us hl => match us, hl with | [_, _, _], _ => rfl,
    g_l_gauges := PySem.W.mg_of X G a_l_gauges,
    f_l_months := f_l_months,
    fd_l_months := _,
    F_l_months := F_l_months,
    b_l_months := F_l_months.binds (ps := ["_law_cell", "_law_other"]) fun _ _ _ _ _ _ us hl => match us, hl with | [_, _], _ => rfl,
    g_l_months := PySem.W.mg_of X G a_l_months,
    f_law := f_law,
    fd_law := _,
    F_law := F_law,
    b_law := F_law.binds (ps := ["_law_script"]) fun _ _ _ _ _ _ us hl => match us, hl with | [_], _ => rfl,
    g_law := PySem.W.mg_of X G a_law,
    c_RentError := c_RentError,
    g_RentError := PySem.W.mg_of X G a_RentError,
    c_BadDay := c_BadDay,
    g_BadDay := PySem.W.mg_of X G a_BadDay,
    x_BadDay := x_BadDay,
    k_BadDay := k_BadDay,
    s_BadDay := s_BadDay,
    t_BadDay := t_BadDay,
    tk_FIRST_YEAR := _,
    g_FIRST_YEAR := PySem.W.mg_of X G a_FIRST_YEAR,
    tk_LAST_YEAR := _,
    g_LAST_YEAR := PySem.W.mg_of X G a_LAST_YEAR,
    tk_LAST_DAY := _,
    g_LAST_DAY := PySem.W.mg_of X G a_LAST_DAY,
    tk_LONGEST_YEAR := _,
    g_LONGEST_YEAR := PySem.W.mg_of X G a_LONGEST_YEAR,
    a_LENGTHS := o_LENGTHS,
    g_LENGTHS := PySem.W.mg_of X G a_LENGTHS,
    q_LENGTHS := fun H => .inr ⟨_, _, _, l_LENGTHS, rfl, rfl, Nat.le_of_ble_eq_true rfl, .cons ⟨_, rfl⟩ (.cons ⟨_, rfl⟩ (.cons ⟨_, rfl⟩ (.cons ⟨_, rfl⟩ (.cons ⟨_, rfl⟩ (.cons ⟨_, rfl⟩ (.cons ⟨_, rfl⟩ (.cons ⟨_, rfl⟩ (.cons ⟨_, rfl⟩ (.cons ⟨_, rfl⟩ (.cons ⟨_, rfl⟩ (.cons ⟨_, rfl⟩ (.nil))))))))))))⟩,
    n_isinstance := PySem.W.mg_none_of X G z_isinstance,
    n_int := PySem.W.mg_none_of X G z_int,
    n_bool := PySem.W.mg_none_of X G z_bool,
    n_sum := PySem.W.mg_none_of X G z_sum,
    n_range := PySem.W.mg_none_of X G z_range,
    n_sorted := PySem.W.mg_none_of X G z_sorted,
    n_reversed := PySem.W.mg_none_of X G z_reversed,
    n_max := PySem.W.mg_none_of X G z_max,
    n_len := PySem.W.mg_none_of X G z_len,
    n_min := PySem.W.mg_none_of X G z_min
  }
  exact ⟨PySem.W.fnOf "law" "law" (defArgs s_law) (defBody s_law) (defScope s_law) .none kV_law dc_law pm_law an_law cd_law ct_law, fun s v => .of_eq rfl, fun base _ _ => ok_law T⟩
theorem walk {l : PySem.W.OpenLaw} {q : Program} {loose : List Str} {XP : (Str → Option Value) → Heap → Prop} {YP : World → Heap → Prop} {d : DefRec} {K : Params → PySem.W.Frag} (hn : l.most = some 63) (hdf : d.params.defaults = [])
    (hY : ∀ (w : World) (h : Heap), YP w h → (K w.params).In h)
    (F : ∀ (w : World) (mg : Str → Option Value) (fa : Addr) (h : Heap), (K w.params).In h → h.Ns mainGlobals mg → mg d.name = some (.ref fa) →
      ∃ fd : FuncData, (∀ (s : Shared) (u : Value), BindsTo s fd ⟨[u], []⟩ [("_law_script", u)]) ∧ ∀ base : Heap, (K w.params).In base → base.Ns mainGlobals mg → FnOk l.prog w (K w.params) mg base (L2.CX l.prog w) 8 fa fd ["_law_script"] (sp_law (K w.params))) :
    PySem.W.WalkO q loose XP YP l.row.toRowW d [] (fun f vs => PySem.call f vs) :=
  L2.walk_of (n := 63) (k := 8) (x := "_law_script") (CX := fun w => L2.CX l.prog w) (sp := fun w => sp_law (K w.params)) hn (by decide) hdf ⟨rfl, by decide, by decide⟩ hY F (fun _ _ a ns hl _ hS => ⟨a, ns, rfl, hS, hl, fun _ => rfl⟩)
    fun _ _ _ _ _ ⟨_, _, _, _, _, _, _, _, _, _, _, _, z⟩ => z
end NS
open PySem PySem.W PyProof.Rows in
set_option maxRecDepth 100000 in
set_option maxHeartbeats 0 in
theorem PySem.Challenge.cw_rentroll_k07_owed_in_spans_holds : PySem.Challenge.rw_rentroll_k07_owed_in_spans.Holds := by
  w_on; o_law; k_head; (case hw => w_witness2)
  k_fill
  refine NS.walk (l := PySem.Challenge.rw_rentroll_k07_owed_in_spans) rfl rfl (fun w h Y => PySem.W.kIn_of Y) ?F
  case F =>
    intro w mg fa h KX G hmg
    refine' NS.all_mk KX G hmg ?a_RentError ?a_BadDay ?a_is_whole ?l_is_whole ?cc_is_whole ?k_is_whole ?a_is_within ?l_is_within ?cc_is_within ?k_is_within ?a_check_day ?l_check_day ?cc_check_day ?k_check_day ?a_month_days ?l_month_days ?cc_month_days ?k_month_days ?a_month_of ?l_month_of ?cc_month_of ?k_month_of ?a_day_of ?l_day_of ?cc_day_of ?k_day_of ?a_is_leap ?l_is_leap ?cc_is_leap ?k_is_leap ?a_length ?l_length ?cc_length ?k_length ?a_year_start ?l_year_start ?cc_year_start ?k_year_start ?a_in_order ?l_in_order ?cc_in_order ?k_in_order ?a_spans ?l_spans ?cc_spans ?k_spans ?a_pair_held ?l_pair_held ?cc_pair_held ?k_pair_held ?a_held ?l_held ?cc_held ?k_held ?a_rent_on ?l_rent_on ?cc_rent_on ?k_rent_on ?a_part ?l_part ?cc_part ?k_part ?a_owed ?l_owed ?cc_owed ?k_owed ?a_parts ?l_parts ?cc_parts ?k_parts ?a_parts_through ?l_parts_through ?cc_parts_through ?k_parts_through ?a_l_cell_at ?l_l_cell_at ?cc_l_cell_at ?k_l_cell_at ?a_l_mix ?l_l_mix ?cc_l_mix ?k_l_mix ?a_l_base ?l_l_base ?cc_l_base ?k_l_base ?a_l_money ?l_l_money ?cc_l_money ?k_l_money ?a_l_number ?l_l_number ?cc_l_number ?k_l_number ?a_l_steps ?l_l_steps ?cc_l_steps ?k_l_steps ?a_l_gauges ?l_l_gauges ?cc_l_gauges ?k_l_gauges ?a_l_months ?l_l_months ?cc_l_months ?k_l_months ?a_law ?l_law ?cc_law ?k_law ?x_BadDay ?k_BadDay ?s_BadDay ?t_BadDay ?a_FIRST_YEAR ?a_LAST_YEAR ?a_LAST_DAY ?a_LONGEST_YEAR ?a_LENGTHS ?l_LENGTHS ?z_isinstance ?z_int ?z_bool ?z_sum ?z_range ?z_sorted ?z_reversed ?z_max ?z_len ?z_min
    (case a_RentError => k_is)
    (case a_BadDay => k_is)
    (case a_is_whole => k_is)
    (case l_is_whole => k_is)
    (case cc_is_whole => k_is)
    (case k_is_whole => k_is)
    (case a_is_within => k_is)
    (case l_is_within => k_is)
    (case cc_is_within => k_is)
    (case k_is_within => k_is)
    (case a_check_day => k_is)
    (case l_check_day => k_is)
    (case cc_check_day => k_is)
    (case k_check_day => k_is)
    (case a_month_days => k_is)
    (case l_month_days => k_is)
    (case cc_month_days => k_is)
    (case k_month_days => k_is)
    (case a_month_of => k_is)
    (case l_month_of => k_is)
    (case cc_month_of => k_is)
    (case k_month_of => k_is)
    (case a_day_of => k_is)
    (case l_day_of => k_is)
    (case cc_day_of => k_is)
    (case k_day_of => k_is)
    (case a_is_leap => k_is)
    (case l_is_leap => k_is)
    (case cc_is_leap => k_is)
    (case k_is_leap => k_is)
    (case a_length => k_is)
    (case l_length => k_is)
    (case cc_length => k_is)
    (case k_length => k_is)
    (case a_year_start => k_is)
    (case l_year_start => k_is)
    (case cc_year_start => k_is)
    (case k_year_start => k_is)
    (case a_in_order => k_is)
    (case l_in_order => k_is)
    (case cc_in_order => k_is)
    (case k_in_order => k_is)
    (case a_spans => k_is)
    (case l_spans => k_is)
    (case cc_spans => k_is)
    (case k_spans => k_is)
    (case a_pair_held => k_is)
    (case l_pair_held => k_is)
    (case cc_pair_held => k_is)
    (case k_pair_held => k_is)
    (case a_held => k_is)
    (case l_held => k_is)
    (case cc_held => k_is)
    (case k_held => k_is)
    (case a_rent_on => k_is)
    (case l_rent_on => k_is)
    (case cc_rent_on => k_is)
    (case k_rent_on => k_is)
    (case a_part => k_is)
    (case l_part => k_is)
    (case cc_part => k_is)
    (case k_part => k_is)
    (case a_owed => k_is)
    (case l_owed => k_is)
    (case cc_owed => k_is)
    (case k_owed => k_is)
    (case a_parts => k_is)
    (case l_parts => k_is)
    (case cc_parts => k_is)
    (case k_parts => k_is)
    (case a_parts_through => k_is)
    (case l_parts_through => k_is)
    (case cc_parts_through => k_is)
    (case k_parts_through => k_is)
    (case a_l_cell_at => k_is)
    (case l_l_cell_at => k_is)
    (case cc_l_cell_at => k_is)
    (case k_l_cell_at => k_is)
    (case a_l_mix => k_is)
    (case l_l_mix => k_is)
    (case cc_l_mix => k_is)
    (case k_l_mix => k_is)
    (case a_l_base => k_is)
    (case l_l_base => k_is)
    (case cc_l_base => k_is)
    (case k_l_base => k_is)
    (case a_l_money => k_is)
    (case l_l_money => k_is)
    (case cc_l_money => k_is)
    (case k_l_money => k_is)
    (case a_l_number => k_is)
    (case l_l_number => k_is)
    (case cc_l_number => k_is)
    (case k_l_number => k_is)
    (case a_l_steps => k_is)
    (case l_l_steps => k_is)
    (case cc_l_steps => k_is)
    (case k_l_steps => k_is)
    (case a_l_gauges => k_is)
    (case l_l_gauges => k_is)
    (case cc_l_gauges => k_is)
    (case k_l_gauges => k_is)
    (case a_l_months => k_is)
    (case l_l_months => k_is)
    (case cc_l_months => k_is)
    (case k_l_months => k_is)
    (case a_law => k_is)
    (case l_law => k_is)
    (case cc_law => k_is)
    (case k_law => k_is)
    (case x_BadDay => k_exc)
    (case k_BadDay => k_is)
    (case s_BadDay => k_is)
    (case t_BadDay => k_is)
    (case a_FIRST_YEAR => k_is)
    (case a_LAST_YEAR => k_is)
    (case a_LAST_DAY => k_is)
    (case a_LONGEST_YEAR => k_is)
    (case a_LENGTHS => k_is)
    (case l_LENGTHS => k_is)
    (case z_isinstance => k_is)
    (case z_int => k_is)
    (case z_bool => k_is)
    (case z_sum => k_is)
    (case z_range => k_is)
    (case z_sorted => k_is)
    (case z_reversed => k_is)
    (case z_max => k_is)
    (case z_len => k_is)
    (case z_min => k_is)
#print axioms PySem.Challenge.cw_rentroll_k07_owed_in_spans_holds
