import PyProof.Rows.All
import Wide.All
import OpenK.AllK
import Wide.FinOn
import HandS.ForMost
import HandS.ForExc
import HandS.IsInst
import HandS.ExcIs
import HandS.Wide
import HandS.Evl
import HandS.DictTup
import HandS.SortRule
import HandS.SortInts
import HandS.Rev
import HandS.Style
import KE.KDictWalk
import PySem.Challenge.RW_rentroll_k08_balance_and_growth
set_option Elab.async false
set_option linter.all false
set_option maxRecDepth 100000
set_option maxHeartbeats 2000000
namespace My
open PySem PySem.Spec PyProof.Rows L2
/-! ### rules of two kinds at once -/
section
variable {X : Cx}
def rPlus : R2 := fun x y H Q => rI0 (fun i j => .int (i + j)) x y H Q ∨ rCat x y H Q
theorem op_plus : OpR X (binaryOp .Add) rPlus := op_add.or op_cat
def rIx2 (K : PySem.W.Frag) : R2 := fun x y H Q => rIxL K x y H Q ∨ rIxT K x y H Q
theorem ix_lt : IxR X (rIx2 X.K) := ix_list.or ix_tup
def rEqA (K : PySem.W.Frag) : R2 := fun x y H Q => rEq x y H Q ∨ rEqD K x y H Q
def rNeA (K : PySem.W.Frag) : R2 := fun x y H Q => rNe x y H Q ∨ rNeD K x y H Q
theorem op_eqA (hu : X.A.units + 64 < cLine) : OpR X (compareOp .Eq) (rEqA X.K) := op_eq.or (op_eqD hu)
theorem op_neA (hu : X.A.units + 64 < cLine) : OpR X (compareOp .NotEq) (rNeA X.K) := op_ne.or (op_neD hu)
def rIsN : R2 := fun x y H Q => y = .non ∧ Q (.bl (decide (x = .non))) H
def rNotN : R2 := fun x y H Q => y = .non ∧ Q (.bl (!decide (x = .non))) H
theorem op_isA : OpR X (compareOp .Is) rIsN := op_isN
theorem op_isnotA : OpR X (compareOp .IsNot) rNotN := op_notN
def iLT (K : PySem.W.Frag) (tl : TE) : TI := fun σ H R => iList K tl σ H R ∨ iTup K tl σ H R
theorem pi_lt {tg l : Expr} {tl : TE} (hl : PE X l tl) : PI X tg l (iLT X.K tl) :=
  ⟨fun pins s σ H R I h => h.elim ((pi_list hl).run pins s σ H R I) ((pi_tup hl).run pins s σ H R I)⟩
def rLen (K : PySem.W.Frag) : List V → Hp → VK → Prop := fun xs H Q => ∃ p ys, xs = [.ref p] ∧ (SqL K H p ys ∨ SqT K H p ys) ∧ Q (.int ys.length) H
theorem call_lenA : CallR X (.builtin "len") (rLen X.K) := call_len_seq
def rListOf (K : PySem.W.Frag) : List V → Hp → VK → Prop := fun xs H Q => ∃ p ys, xs = [.ref p] ∧ (SqL K H p ys ∨ SqT K H p ys) ∧ ∀ l, H l = none → Q (.ref l) (upd H l (.lst ys))
theorem call_listA : CallR X (.type "list") (rListOf X.K) := call_list_of
/-- isinstance(e, c) within an except suite, whatever class the caught error has -/
def rIsX (K : PySem.W.Frag) (cls : Value) (d : Option Addr) (a : Addr) : List V → Hp → VK → Prop := fun xs H Q => ∃ D, cls = .ref D ∧ d = none ∧ ExcC K D ∧ rIsE K D a xs H Q
theorem call_isX {a : Addr} {oe : Obj} {cls : Value} {d : Option Addr} {pn : List (Addr × Obj)} (hz : Zc cls d oe) (hf : ∃ vs, oe.data = .fields vs) :
    CallR (X.suite a ((a, oe) :: pn)) (.builtin "isinstance") (rIsX X.K cls d a) := by
  intro pins s σ H xs us Q I r h
  obtain ⟨D, rfl, rfl, C, q⟩ := h
  exact call_isE (X := X) C hz hf pins s σ H xs us Q I r q
end
theorem at_modI {ns : List Int} (z : Int) {n : Int} (hn : (ns.length : Int) = n) (h0 : 0 < n) : atI (ns.map V.int) (z % n) = some (.int (ns.getD (z % n).toNat 0)) := by
  have h1 : 0 ≤ z % n := Int.emod_nonneg _ (by omega)
  have h2 : z % n < n := Int.emod_lt_of_pos _ h0
  obtain ⟨j, hj⟩ : ∃ j : Nat, z % n = (j : Int) := ⟨(z % n).toNat, by omega⟩
  rw [hj]
  have hl : j < ns.length := by omega
  refine atI_nat ?_
  rw [List.getElem?_map, List.getElem?_eq_getElem hl]
  simp [List.getD, hl]
theorem at_modV {xs : List V} (z : Int) {n : Int} (hn : (xs.length : Int) = n) (h0 : 0 < n) : ∃ v, v ∈ xs ∧ atI xs (z % n) = some v := by
  have h1 : 0 ≤ z % n := Int.emod_nonneg _ (by omega)
  have h2 : z % n < n := Int.emod_lt_of_pos _ h0
  obtain ⟨j, hj⟩ : ∃ j : Nat, z % n = (j : Int) := ⟨(z % n).toNat, by omega⟩
  rw [hj]
  have hl : j < xs.length := by omega
  exact ⟨xs[j], List.getElem_mem hl, atI_nat (List.getElem?_eq_getElem hl)⟩
theorem lk_ne {H : Hp} {a b : Addr} {o u : HO} (h : H a = some o) (hb : H b = none) : upd H b u a = some o := (upd_ne (ne_of_none h hb)).trans h
theorem cmul_l {i j : Int} (h0 : -(2 ^ 64) < i) (h1 : i < 2 ^ 64) : CMul i j := .inl ⟨h0, h1⟩
theorem cmul_r {i j : Int} (h0 : -(2 ^ 64) < j) (h1 : j < 2 ^ 64) : CMul i j := .inr ⟨h0, h1⟩
theorem cpow_ok {i j : Int} (h0 : 0 ≤ j) (h1 : j ≤ 1000000) (h2 : i.natAbs < 2 ^ 64) : CPow i j := ⟨h0, h1, h2⟩
theorem getD_all {l : List Int} {R : Int → Prop} (n : Nat) (h : ∀ x, x ∈ l → R x) (h0 : R 0) : R (l.getD n 0) := by
  rw [List.getD]
  cases e : l[n]? with
  | none => exact h0
  | some x => exact h x (List.mem_of_getElem? e)
theorem mod_ok {i j : Int} (h : 0 < j) : (fun _ j : Int => 0 < j) i j := h
theorem cdiv_ok {i j : Int} (h0 : 0 < j) (h1 : j < 1073741824) : CDiv i j := ⟨h0, h1⟩
theorem same_new {H : Hp} {p : Addr} {o : HO} (hp : H p = none) : Same H (upd H p o) := fun b u e => by rw [upd_ne (ne_of_none e hp)]; exact e
/-- an object that H does not know may change -/
theorem same_mut {H H' : Hp} {p : Addr} {o : HO} (e : Same H H') (hp : H p = none) : Same H (upd H' p o) := fun b u h => by rw [upd_ne (ne_of_none h hp)]; exact e b u h
theorem same_sqT {K : PySem.W.Frag} {H H' : Hp} {a : Addr} {xs : List V} (e : Same H H') (h : SqT K H a xs) : SqT K H' a xs := by
  rcases h with (h | ⟨o, h⟩) | h
  · exact .inl (.inl (e _ _ h))
  · exact .inl (.inr ⟨o, e _ _ h⟩)
  · exact .inr h
/-! ### a comprehension that makes a list of what its element gives, turn by turn -/
theorem range_more {α : Type} (f : Nat → α) (i : Nat) : (List.range (i + 1)).map f = (List.range i).map f ++ [f i] := by rw [List.range_succ, List.map_append]; rfl
section
variable {K : PySem.W.Frag} {σ : L2.St} {H : Hp} {Q : VK} {te : TE} {vs : List Nat} {j : Nat}
def Made (H : Hp) (D : Addr) (f : Nat → V) (i : Nat) (H' : Hp) : Prop := Same H H' ∧ H' D = some (.lst ((List.range i).map f))
theorem made_turn {H H' : Hp} {D : Addr} {f : Nat → V} {i : Nat} {σ2 : L2.St} (hD : H D = none) (m : Made H D f i H') (hi : i < 100000) (hs : ∀ Q' : VK, (∀ H'', Same H' H'' → Q' (f i) H'') → te σ2 H' Q') :
    te σ2 H' fun y H4 => ∃ acc, H4 D = some (.lst acc) ∧ acc.length < sizeLine ∧ Made H D f (i + 1) (upd H4 D (.lst (acc ++ [y]))) := by
  refine hs _ fun H4 s4 => ⟨_, s4 _ _ m.2, ?_, same_mut (m.1.trans s4) hD, ?_⟩
  · rw [List.length_map, List.length_range]; exact Nat.lt_of_lt_of_le hi (by decide)
  · rw [upd_same, range_more]
theorem lc_r2 {ta : TA} {lo hi : Int} (f : Nat → V) (hta : ∀ Q' : List V → Hp → Prop, Q' [.int lo, .int hi] H → ta σ H Q') (b1 : -100000 ≤ lo ∧ lo ≤ 100000) (b2 : -100000 ≤ hi ∧ hi ≤ 100000) (b3 : hi - lo ≤ 100000)
    (hw : ∀ x, wipe ((wipe σ vs).set j (some x)) vs = wipe σ vs)
    (hs : ∀ (i : Nat) H', lo + i < hi → Same H H' → ∀ Q' : VK, (∀ H'', Same H' H'' → Q' (f i) H'') → te ((wipe σ vs).set j (some (.int (lo + i)))) H' Q')
    (hq : ∀ D H', H D = none → Same H H' → H' D = some (.lst ((List.range (hi - lo).toNat).map f)) → Q (.ref D) H') : tLc (iRng2 ta) (gName j) tYes te vs σ H Q := by
  refine hta _ ⟨lo, hi, rfl, by omega, fun D hD => ?_⟩
  refine lc_range (lo := lo) (n := (hi - lo).toNat) (Made H D f) ⟨same_new hD, upd_same⟩ (fun i H' hi' m => ?_) (fun H' m => hq D H' hD m.1 m.2)
  exact ⟨hw _, made_turn hD m (by omega) (hs i H' (by omega) m.1)⟩
theorem lc_r1 {ta : TA} {hi : Int} (f : Nat → V) (hta : ∀ Q' : List V → Hp → Prop, Q' [.int hi] H → ta σ H Q') (b2 : -100000 ≤ hi ∧ hi ≤ 100000)
    (hw : ∀ x, wipe ((wipe σ vs).set j (some x)) vs = wipe σ vs)
    (hs : ∀ (i : Nat) H', (i : Int) < hi → Same H H' → ∀ Q' : VK, (∀ H'', Same H' H'' → Q' (f i) H'') → te ((wipe σ vs).set j (some (.int (0 + i)))) H' Q')
    (hq : ∀ D H', H D = none → Same H H' → H' D = some (.lst ((List.range hi.toNat).map f)) → Q (.ref D) H') : tLc (iRng1 ta) (gName j) tYes te vs σ H Q := by
  refine hta _ ⟨hi, rfl, by omega, by omega, fun D hD => ?_⟩
  refine lc_range (lo := 0) (n := hi.toNat) (Made H D f) ⟨same_new hD, upd_same⟩ (fun i H' hi' m => ?_) (fun H' m => hq D H' hD m.1 m.2)
  exact ⟨hw _, made_turn hD m (by omega) (hs i H' (by omega) m.1)⟩
theorem lc_L {tl : TE} {a : Addr} {xs : List V} (f : Nat → V) (htl : ∀ Q' : VK, Q' (.ref a) H → tl σ H Q') (hx : SqL K H a xs) (hz : xs.length ≤ 100000)
    (hw : ∀ x, wipe ((wipe σ vs).set j (some x)) vs = wipe σ vs)
    (hs : ∀ (i : Nat) x H', xs[i]? = some x → Same H H' → ∀ Q' : VK, (∀ H'', Same H' H'' → Q' (f i) H'') → te ((wipe σ vs).set j (some x)) H' Q')
    (hq : ∀ D H', H D = none → Same H H' → H' D = some (.lst ((List.range xs.length).map f)) → Q (.ref D) H') : tLc (iLT K tl) (gName j) tYes te vs σ H Q := by
  refine .inl (htl _ ⟨a, rfl, ⟨xs, hx⟩, fun D hD => ?_⟩)
  refine lc_list (K := K) (a := a) (xs := xs) (Made H D f) ⟨same_new hD, upd_same⟩ (fun i H' _ m => m.1.seq hx) (fun i x H' hi' m => ?_) (fun H' m => hq D H' hD m.1 m.2)
  have hl := (List.getElem?_eq_some_iff.mp hi').1
  exact ⟨hw _, made_turn hD m (by omega) (hs i x H' hi' m.1)⟩
theorem lc_T {tl : TE} {a : Addr} {xs : List V} (f : Nat → V) (htl : ∀ Q' : VK, Q' (.ref a) H → tl σ H Q') (hx : SqT K H a xs) (hz : xs.length ≤ 100000)
    (hw : ∀ x, wipe ((wipe σ vs).set j (some x)) vs = wipe σ vs)
    (hs : ∀ (i : Nat) x H', xs[i]? = some x → Same H H' → ∀ Q' : VK, (∀ H'', Same H' H'' → Q' (f i) H'') → te ((wipe σ vs).set j (some x)) H' Q')
    (hq : ∀ D H', H D = none → Same H H' → H' D = some (.lst ((List.range xs.length).map f)) → Q (.ref D) H') : tLc (iLT K tl) (gName j) tYes te vs σ H Q := by
  refine .inr (htl _ ⟨a, rfl, ⟨xs, hx⟩, fun D hD => ?_⟩)
  refine lc_tup (K := K) (a := a) (xs := xs) (Made H D f) ⟨same_new hD, upd_same⟩ (fun i H' _ m => same_sqT m.1 hx) (fun i x H' hi' m => ?_) (fun H' m => hq D H' hD m.1 m.2)
  have hl := (List.getElem?_eq_some_iff.mp hi').1
  exact ⟨hw _, made_turn hD m (by omega) (hs i x H' hi' m.1)⟩
end
/-! ### readings, step by step: a goal «t ⟨nx, rt, bk, ct⟩ σ H», «te σ H Q» -/
section
variable {σ : L2.St} {H : Hp} {i : Nat} {v x y z : V} {ta tb tc te tv : TE} {b : Bool} {K : PySem.W.Frag} {a C dx : Addr} {fs : List (Str × V)} {f : Str} {t u c : TT} {Q : VK}
  {nx bk ct : L2.St → Hp → Prop} {rt : VK} {s1 s2 : TS} {r r' : R2} {g : TG}
theorem g_seq (h : s1 ⟨s2 ⟨nx, rt, bk, ct⟩, rt, bk, ct⟩ σ H) : tSeq s1 s2 ⟨nx, rt, bk, ct⟩ σ H := h
theorem g_next (h : nx σ H) : tNext ⟨nx, rt, bk, ct⟩ σ H := h
theorem g_brk (h : bk σ H) : tBreak ⟨nx, rt, bk, ct⟩ σ H := h
theorem g_cont (h : ct σ H) : tCont ⟨nx, rt, bk, ct⟩ σ H := h
theorem g_set (h : te σ H (fun x H1 => nx (σ.set i (some x)) H1)) : tAsg te (gName i) ⟨nx, rt, bk, ct⟩ σ H := h
theorem g_asg (h : te σ H (fun x H1 => g x σ H1 nx)) : tAsg te g ⟨nx, rt, bk, ct⟩ σ H := h
theorem g_drop (h : te σ H (fun _ H1 => nx σ H1)) : tDrop te ⟨nx, rt, bk, ct⟩ σ H := h
theorem g_ret (h : te σ H rt) : tRet te ⟨nx, rt, bk, ct⟩ σ H := h
theorem g_retN (h : rt .non H) : tRetN ⟨nx, rt, bk, ct⟩ σ H := h
theorem g_ifS (h : c σ H fun b H1 => if b = true then s1 ⟨nx, rt, bk, ct⟩ σ H1 else s2 ⟨nx, rt, bk, ct⟩ σ H1) : tIfS c s1 s2 ⟨nx, rt, bk, ct⟩ σ H := h
theorem g_aug {ti : TIp} (hx : σ[i]? = some (some x)) (h : te σ H fun y H1 => ti x y H1 fun z H2 => nx (σ.set i (some z)) H2) : tAug i te ti ⟨nx, rt, bk, ct⟩ σ H := ⟨x, hx, h⟩
theorem g_ipI {f : Int → Int → Int} {m n : Int} (q : Q (.int (f m n)) H) : ipI f (.int m) (.int n) H Q := ⟨m, n, rfl, rfl, q⟩
theorem g_fldS (h : tv σ H fun y H1 => ta σ H1 fun x H2 => ∃ a C dx fs, x = .ref a ∧ H2 a = some (.ins C dx fs) ∧ Cls K C ∧ NoAttr K C f ∧ fs.length < 1000 ∧ nx σ (upd H2 a (.ins C dx (putF f y fs)))) : sFld K ta tv f ⟨nx, rt, bk, ct⟩ σ H := h
theorem g_var (h : σ[i]? = some (some v)) (q : Q v H) : tVar i σ H Q := ⟨v, h, q⟩
theorem g_c (q : Q v H) : tC v σ H Q := q
theorem g_op (h : ta σ H fun x H1 => tb σ H1 fun y H2 => r x y H2 Q) : tOp r ta tb σ H Q := h
theorem g_un {r : V → Hp → VK → Prop} (h : ta σ H fun x H1 => r x H1 Q) : tUn r ta σ H Q := h
theorem r_int {g : Int → Int → V} {m n : Int} (q : Q (g m n) H) : rI0 g (.int m) (.int n) H Q := ⟨m, n, rfl, rfl, q⟩
theorem r_intC {C : Int → Int → Prop} {g : Int → Int → V} {m n : Int} (hc : C m n) (q : Q (g m n) H) : rI C g (.int m) (.int n) H Q := ⟨m, n, rfl, rfl, hc, q⟩
theorem r_U {g : Int → V} {m : Int} (q : Q (g m) H) : rU g (.int m) H Q := ⟨m, rfl, q⟩
theorem r_plus {m n : Int} (q : Q (.int (m + n)) H) : rPlus (.int m) (.int n) H Q := .inl ⟨m, n, rfl, rfl, q⟩
theorem r_cat {l b : Addr} {xs zs : List V} (h1 : H l = some (.lst xs)) (h2 : H b = some (.lst zs)) (hz : xs.length + zs.length ≤ sizeLine) (q : ∀ p, H p = none → Q (.ref p) (upd H p (.lst (xs ++ zs)))) : rPlus (.ref l) (.ref b) H Q :=
  .inr ⟨l, b, xs, zs, rfl, rfl, h1, h2, hz, q⟩
theorem r_eqS (hs : scal x y = true) (q : Q (.bl (decide (x = y))) H) : rEqA K x y H Q := .inl ⟨hs, q⟩
theorem r_neS (hs : scal x y = true) (q : Q (.bl (!decide (x = y))) H) : rNeA K x y H Q := .inl ⟨hs, q⟩
theorem r_eqI {m n : Int} (q : Q (.bl (decide (m = n))) H) : rEqA K (.int m) (.int n) H Q := .inl ⟨rfl, by
  have e : decide (V.int m = V.int n) = decide (m = n) := by simp
  rw [e]; exact q⟩
theorem r_neI {m n : Int} (q : Q (.bl (!decide (m = n))) H) : rNeA K (.int m) (.int n) H Q := .inl ⟨rfl, by
  have e : decide (V.int m = V.int n) = decide (m = n) := by simp
  rw [e]; exact q⟩
theorem r_eqD {d e : PyData} (h1 : Dp K H x d) (h2 : Dp K H y e) (s1 : SeqAt.shaped d = true) (s2 : SeqAt.shaped e = true) (q : Q (.bl (PyData.eqv d e)) H) : rEqA K x y H Q := .inr ⟨d, e, h1, h2, s1, s2, q⟩
theorem r_neD {d e : PyData} (h1 : Dp K H x d) (h2 : Dp K H y e) (s1 : SeqAt.shaped d = true) (s2 : SeqAt.shaped e = true) (q : Q (.bl (!PyData.eqv d e)) H) : rNeA K x y H Q := .inr ⟨d, e, h1, h2, s1, s2, q⟩
theorem r_eqDD {d : PyData} (h1 : Dp K H x d) (h2 : Dp K H y d) (s1 : SeqAt.shaped d = true) (c : d.canLay0 = true) (q : Q (.bl true) H) : rEqA K x y H Q := r_eqD h1 h2 s1 s1 (by rw [SeqAt.eqv_refl _ c]; exact q)
theorem r_neDD {d : PyData} (h1 : Dp K H x d) (h2 : Dp K H y d) (s1 : SeqAt.shaped d = true) (c : d.canLay0 = true) (q : Q (.bl false) H) : rNeA K x y H Q := r_neD h1 h2 s1 s1 (by rw [SeqAt.eqv_refl _ c]; exact q)
theorem r_isN (q : Q (.bl (decide (x = .non))) H) : rIsN x .non H Q := ⟨rfl, q⟩
theorem r_notN (q : Q (.bl (!decide (x = .non))) H) : rNotN x .non H Q := ⟨rfl, q⟩
theorem r_ixL {l : Addr} {xs : List V} {n : Int} (h : SqL K H l xs) (ha : atI xs n = some v) (q : Q v H) : rIx2 K (.ref l) (.int n) H Q := .inl ⟨l, xs, n, v, rfl, rfl, h, ha, q⟩
theorem r_ixT {l : Addr} {xs : List V} {n : Int} (h : SqT K H l xs) (ha : atI xs n = some v) (q : Q v H) : rIx2 K (.ref l) (.int n) H Q := .inr ⟨l, xs, n, v, rfl, rfl, h, ha, q⟩
theorem g_test {Q : Bool → Hp → Prop} (h : te σ H fun x H' => ∃ k, x = .bl k ∧ Q k H') : tTest te σ H Q := h
theorem g_B {Q : Bool → Hp → Prop} (h : te σ H fun x H' => ∃ k, x = .bl k ∧ Q k H') : tB te σ H Q := h
theorem g_bl {R : Bool → Prop} (q : R b) : ∃ k, V.bl b = .bl k ∧ R k := ⟨b, rfl, q⟩
theorem g_tcut (M : L2.St → Hp → Prop) (h : s1 ⟨M, rt, bk, ct⟩ σ H) (k : ∀ σ' H', M σ' H' → s2 ⟨nx, rt, bk, ct⟩ σ' H') : Evl.tCut s1 s2 ⟨nx, rt, bk, ct⟩ σ H := ⟨M, h, k⟩
theorem g_and {Q : Bool → Hp → Prop} (h : t σ H fun c H1 => if c = true then u σ H1 Q else Q false H1) : tAnd t u σ H Q := h
theorem g_or {Q : Bool → Hp → Prop} (h : t σ H fun c H1 => if c = true then Q true H1 else u σ H1 Q) : tOr t u σ H Q := h
theorem g_not {Q : Bool → Hp → Prop} (h : t σ H fun c H1 => Q (!c) H1) : tNot t σ H Q := h
theorem g_andV (h : ta σ H fun x H1 => ∃ c, x = .bl c ∧ if c = true then tb σ H1 Q else Q (.bl false) H1) : tAndV ta tb σ H Q := h
theorem g_orV (h : ta σ H fun x H1 => ∃ c, x = .bl c ∧ if c = true then Q (.bl true) H1 else tb σ H1 Q) : tOrV ta tb σ H Q := h
theorem g_notV (h : ta σ H fun x H1 => ∃ c, x = .bl c ∧ Q (.bl (!c)) H1) : tNotV ta σ H Q := h
theorem g_blI {A B : Prop} (h : if b = true then A else B) : ∃ c, V.bl b = .bl c ∧ if c = true then A else B := ⟨b, rfl, h⟩
theorem g_ifE (h : t σ H fun c H1 => if c = true then ta σ H1 Q else tb σ H1 Q) : tIf t ta tb σ H Q := h
theorem g_chain (h : ta σ H fun x H1 => tb σ H1 fun y H2 => r x y H2 fun z H3 => ∃ k, z = .bl k ∧ (if k = true then tc σ H3 fun w' H4 => r' y w' H4 Q else Q (.bl false) H3)) : tChain r r' ta tb tc σ H Q := h
theorem g_nil {Q : List V → Hp → Prop} (q : Q [] H) : tNil σ H Q := q
theorem g_cons {tr : TA} {Q : List V → Hp → Prop} (h : ta σ H fun x H1 => tr σ H1 fun xs H2 => Q (x :: xs) H2) : tCons ta tr σ H Q := h
theorem g_CB {r : List V → Hp → VK → Prop} {tr : TA} (h : tr σ H fun vs H1 => r vs H1 Q) : tCB r tr σ H Q := h
theorem g_call {sp : Sp} {E : L2.St → XK} {tr : TA} (h : tr σ H fun vs H1 => sp vs H1 Q (E σ)) : tCallS sp E tr σ H Q := h
theorem g_tup {tr : TA} (h : tr σ H fun xs H1 => xs.length ≤ sizeLine ∧ ∀ p, H1 p = none → Q (.ref p) (upd H1 p (.tup xs))) : tTup tr σ H Q := h
theorem g_lst {tr : TA} (h : tr σ H fun xs H1 => xs.length ≤ sizeLine ∧ ∀ p, H1 p = none → Q (.ref p) (upd H1 p (.lst xs))) : tLst tr σ H Q := h
theorem g_fld (h : ta σ H fun x H1 => ∃ a C dx fs v, x = .ref a ∧ H1 a = some (.ins C dx fs) ∧ Cls K C ∧ NoAttr K C f ∧ fs.lookup f = some v ∧ Q v H1) : tFld K ta f σ H Q := h
theorem g_bm {T : String} {r : V → List V → Hp → VK → Prop} {tr : TA} (h : ta σ H fun x H1 => tyV K T x H1 ∧ tr σ H1 fun xs H2 => r x xs H2 Q) : tBM K T r ta tr σ H Q := h
theorem g_sl {r : V → Option Int → Option Int → Hp → VK → Prop} {tl th : TO} (h : te σ H fun x H1 => tl σ H1 fun l H2 => th σ H2 fun u H3 => r x l u H3 Q) : tSl r te tl th σ H Q := h
theorem g_part {Q : Option Int → Hp → Prop} (h : te σ H fun x H1 => ∃ i, x = .int i ∧ Q (some i) H1) : tPart te σ H Q := h
theorem g_partI {n : Int} {R : Int → Prop} (q : R n) : ∃ i, V.int n = .int i ∧ R i := ⟨n, rfl, q⟩
theorem g_nopart {Q : Option Int → Hp → Prop} (q : Q none H) : tNoPart σ H Q := q
theorem g_ite {A B : Prop} {c : Prop} [Decidable c] (h1 : c → A) (h2 : ¬ c → B) : if decide c = true then A else B := by
  by_cases h : c
  · rw [if_pos (decide_eq_true h)]; exact h1 h
  · rw [if_neg (by rw [decide_eq_false h]; exact Bool.false_ne_true)]; exact h2 h
theorem g_iteN {A B : Prop} {c : Prop} [Decidable c] (h1 : ¬ c → A) (h2 : c → B) : if (!decide c) = true then A else B := by
  by_cases h : c
  · rw [if_neg (by rw [decide_eq_true h]; exact Bool.false_ne_true)]; exact h2 h
  · rw [if_pos (by rw [decide_eq_false h]; rfl)]; exact h1 h
theorem g_iteB {A B : Prop} {c : Bool} (h1 : c = true → A) (h2 : c = false → B) : if c = true then A else B := by
  cases c with
  | true => exact h1 rfl
  | false => exact h2 rfl
theorem g_iteNB {A B : Prop} {c : Bool} (h1 : c = false → A) (h2 : c = true → B) : if (!c) = true then A else B := by
  cases c with
  | true => exact h2 rfl
  | false => exact h1 rfl
theorem g_cut (v : V) (h : ∀ Q' : VK, Q' v H → te σ H Q') (q : Q v H) : te σ H Q := h Q q
theorem g_cutH (v : V) (R : Hp → Prop) (h : ∀ Q' : VK, (∀ H', R H' → Q' v H') → te σ H Q') (q : ∀ H', R H' → Q v H') : te σ H Q := h Q q
theorem g_cutT {Q : Bool → Hp → Prop} (b : Bool) (h : ∀ Q' : Bool → Hp → Prop, Q' b H → t σ H Q') (q : Q b H) : t σ H Q := h Q q
theorem g_ifB (b : Bool) (h : ∀ Q' : Bool → Hp → Prop, Q' b H → c σ H Q') (h1 : b = true → s1 ⟨nx, rt, bk, ct⟩ σ H) (h2 : b = false → s2 ⟨nx, rt, bk, ct⟩ σ H) : tIfS c s1 s2 ⟨nx, rt, bk, ct⟩ σ H := by
  refine h _ ?_
  cases b with
  | true => exact h1 rfl
  | false => exact h2 rfl
/-- for, by an invariant -/
theorem g_forL {tl : TE} {xs : List V} {j : Nat} (Pv : Nat → L2.St → Hp → Prop) (htl : ∀ Q' : VK, Q' (.ref a) H → tl σ H Q') (hx : SqL K H a xs) (h0 : Pv 0 σ H) (hl : ∀ i σ' H', i ≤ xs.length → Pv i σ' H' → SqL K H' a xs)
    (hs : ∀ i x σ' H', xs[i]? = some x → Pv i σ' H' → s1 ⟨Pv (i + 1), rt, nx, Pv (i + 1)⟩ (σ'.set j (some x)) H') (hd : ∀ σ' H', Pv xs.length σ' H' → nx σ' H') : tFor (iLT K tl) (gName j) s1 ⟨nx, rt, bk, ct⟩ σ H :=
  .inl (htl _ ⟨a, rfl, ⟨xs, hx⟩, for_list Pv h0 hl hs hd⟩)
theorem g_forT {tl : TE} {xs : List V} {j : Nat} (Pv : Nat → L2.St → Hp → Prop) (htl : ∀ Q' : VK, Q' (.ref a) H → tl σ H Q') (hx : SqT K H a xs) (h0 : Pv 0 σ H) (hl : ∀ i σ' H', i ≤ xs.length → Pv i σ' H' → SqT K H' a xs)
    (hs : ∀ i x σ' H', xs[i]? = some x → Pv i σ' H' → s1 ⟨Pv (i + 1), rt, nx, Pv (i + 1)⟩ (σ'.set j (some x)) H') (hd : ∀ σ' H', Pv xs.length σ' H' → nx σ' H') : tFor (iLT K tl) (gName j) s1 ⟨nx, rt, bk, ct⟩ σ H :=
  .inr (htl _ ⟨a, rfl, ⟨xs, hx⟩, for_tup Pv h0 hl hs hd⟩)
theorem g_forR1 {ta : TA} {hi : Int} {j : Nat} (Pv : Nat → L2.St → Hp → Prop) (hta : ∀ Q' : List V → Hp → Prop, Q' [.int hi] H → ta σ H Q') (b : -(2 ^ 62) ≤ hi ∧ hi < 2 ^ 62) (h0 : Pv 0 σ H)
    (hs : ∀ (i : Nat) σ' H', (i : Int) < hi → Pv i σ' H' → s1 ⟨Pv (i + 1), rt, nx, Pv (i + 1)⟩ (σ'.set j (some (.int (0 + i)))) H') (hd : ∀ σ' H', Pv hi.toNat σ' H' → nx σ' H') : tFor (iRng1 ta) (gName j) s1 ⟨nx, rt, bk, ct⟩ σ H :=
  hta _ ⟨hi, rfl, b.1, b.2, for_range (lo := 0) (n := hi.toNat) Pv h0 (fun i σ' H' h p => hs i σ' H' (by omega) p) hd⟩
theorem g_forR2 {ta : TA} {lo hi : Int} {j : Nat} (Pv : Nat → L2.St → Hp → Prop) (hta : ∀ Q' : List V → Hp → Prop, Q' [.int lo, .int hi] H → ta σ H Q') (b0 : -(2 ^ 62) ≤ lo ∧ lo < 2 ^ 62) (b : -(2 ^ 62) ≤ hi ∧ hi < 2 ^ 62) (h0 : Pv 0 σ H)
    (hs : ∀ (i : Nat) σ' H', lo + i < hi → Pv i σ' H' → s1 ⟨Pv (i + 1), rt, nx, Pv (i + 1)⟩ (σ'.set j (some (.int (lo + i)))) H') (hd : ∀ σ' H', Pv (hi - lo).toNat σ' H' → nx σ' H') : tFor (iRng2 ta) (gName j) s1 ⟨nx, rt, bk, ct⟩ σ H :=
  hta _ ⟨lo, hi, rfl, ⟨b0.1, b0.2, b.1, b.2⟩, for_range (lo := lo) (n := (hi - lo).toNat) Pv h0 (fun i σ' H' h p => hs i σ' H' (by omega) p) hd⟩
/-- while, by an invariant with a measure -/
theorem g_while (W : Nat → L2.St → Hp → Prop) (m0 : Nat) (h0 : W m0 σ H)
    (hs : ∀ m σ' H', W m σ' H' → c σ' H' fun b H1 => if b = true then ∃ N : L2.St → Hp → Prop, (∀ σ2 H2, N σ2 H2 → ∃ m', m' < m ∧ W m' σ2 H2) ∧ s1 ⟨N, rt, nx, N⟩ σ' H1 else nx σ' H1) : tWhile c s1 ⟨nx, rt, bk, ct⟩ σ H :=
  ⟨W, ⟨m0, h0⟩, hs⟩
theorem g_ifBH (b : Bool) (R : Hp → Prop) (h : ∀ Q' : Bool → Hp → Prop, (∀ H', R H' → Q' b H') → c σ H Q') (h1 : b = true → ∀ H', R H' → s1 ⟨nx, rt, bk, ct⟩ σ H') (h2 : b = false → ∀ H', R H' → s2 ⟨nx, rt, bk, ct⟩ σ H') : tIfS c s1 s2 ⟨nx, rt, bk, ct⟩ σ H := by
  refine h _ fun H' r => ?_
  cases b with
  | true => exact h1 rfl H' r
  | false => exact h2 rfl H' r
theorem g_T {A B : Prop} (h : A) : if true = true then A else B := h
theorem g_F {A B : Prop} (h : B) : if false = true then A else B := h
theorem g_nT {A B : Prop} (h : B) : if (!true) = true then A else B := h
theorem g_nF {A B : Prop} (h : A) : if (!false) = true then A else B := h
end
/-! ### more loops; targets that are tuples -/
section
variable {σ : L2.St} {H : Hp} {i n : Nat} {v x : V} {xs r : List V} {K : PySem.W.Frag} {a : Addr} {tl : TE} {ta : TA} {g : TG} {t : TGs} {s1 : TS} {nx bk ct : L2.St → Hp → Prop} {rt : VK} {Qn : L2.St → Hp → Prop}
theorem g_gname (h : Qn (σ.set i (some v)) H) : gName i v σ H Qn := h
theorem g_gtup (hx : SqT K H a xs) (hl : xs.length = n) (h : t xs σ H Qn) : gTup K n t (.ref a) σ H Qn := ⟨a, xs, rfl, hx, hl, h⟩
theorem g_gcons {u : TGs} (h : g v σ H fun σ' H' => u r σ' H' Qn) : gCons g u (v :: r) σ H Qn := ⟨v, r, rfl, h⟩
theorem g_gnil (h : Qn σ H) : gNil [] σ H Qn := ⟨rfl, h⟩
/-- over a list or a tuple -/
theorem g_forQ {H0 : Hp} (Pv : Nat → L2.St → Hp → Prop) (htl : ∀ Q' : VK, Q' (.ref a) H → tl σ H Q') (hx : SqL K H0 a xs ∨ SqT K H0 a xs) (h0 : Pv 0 σ H) (hl : ∀ i σ' H', Pv i σ' H' → Same H0 H')
    (hs : ∀ i x σ' H', xs[i]? = some x → Pv i σ' H' → g x σ' H' fun σ2 H2 => s1 ⟨Pv (i + 1), rt, nx, Pv (i + 1)⟩ σ2 H2) (hd : ∀ σ' H', Pv xs.length σ' H' → nx σ' H') : tFor (iLT K tl) g s1 ⟨nx, rt, bk, ct⟩ σ H := by
  rcases hx with hx | hx
  · exact .inl (htl _ ⟨a, rfl, ⟨xs, (hl _ _ _ h0).seq hx⟩, for_list Pv h0 (fun i σ' H' _ p => (hl i σ' H' p).seq hx) hs hd⟩)
  · exact .inr (htl _ ⟨a, rfl, ⟨xs, same_sqT (hl _ _ _ h0) hx⟩, for_tup Pv h0 (fun i σ' H' _ p => same_sqT (hl i σ' H' p) hx) hs hd⟩)
/-- over a list that a call has made: the goal is the call -/
theorem g_iL {R : It → Hp → Prop} (h : tl σ H fun x H1 => ∃ a, x = .ref a ∧ (∃ xs, SqL K H1 a xs) ∧ R (Itl K a) H1) : iList K tl σ H R := h
theorem g_forN (h : iList K tl σ H fun J H1 => ∃ W : Nat → Nat → L2.St → Hp → Prop, (∃ m, W 0 m σ H1) ∧ ∀ i m σ2 H2, W i m σ2 H2 →
    (J.stop i H2 ∧ nx σ2 H2) ∨ (J.go i H2 ∧ ∃ N : L2.St → Hp → Prop, (∀ σ' H', N σ' H' → ∃ m', m' < m ∧ W (i + 1) m' σ' H') ∧ ∀ x H', J.yld i H2 x H' → g x σ2 H' fun σ3 H3 => s1 ⟨N, rt, nx, N⟩ σ3 H3)) : tFor (iLT K tl) g s1 ⟨nx, rt, bk, ct⟩ σ H := .inl h
theorem g_iRev {R : It → Hp → Prop} (h : ta σ H fun vs H1 => ∃ (a : Addr) (xs : List V), vs = [.ref a] ∧ SqL K H1 a xs ∧ R (Itv K a xs.length) H1) : iRev K ta σ H R := h
theorem g_forRv (h : iRev K ta σ H fun J H1 => ∃ W : Nat → Nat → L2.St → Hp → Prop, (∃ m, W 0 m σ H1) ∧ ∀ i m σ2 H2, W i m σ2 H2 →
    (J.stop i H2 ∧ nx σ2 H2) ∨ (J.go i H2 ∧ ∃ N : L2.St → Hp → Prop, (∀ σ' H', N σ' H' → ∃ m', m' < m ∧ W (i + 1) m' σ' H') ∧ ∀ x H', J.yld i H2 x H' → g x σ2 H' fun σ3 H3 => s1 ⟨N, rt, nx, N⟩ σ3 H3)) : tFor (iRev K ta) g s1 ⟨nx, rt, bk, ct⟩ σ H := h
theorem list_of (Pv : Nat → L2.St → Hp → Prop) (h0 : Pv 0 σ H) (hl : ∀ i σ H, Pv i σ H → SqL K H a xs)
    (hs : ∀ i x σ H, xs[i]? = some x → Pv i σ H → g x σ H fun σ2 H2 => s1 ⟨Pv (i + 1), rt, nx, Pv (i + 1)⟩ σ2 H2) (hd : ∀ σ H, Pv xs.length σ H → nx σ H) :
    ∃ W : Nat → Nat → L2.St → Hp → Prop, (∃ m, W 0 m σ H) ∧ ∀ i m σ2 H2, W i m σ2 H2 →
      ((Itl K a).stop i H2 ∧ nx σ2 H2) ∨ ((Itl K a).go i H2 ∧ ∃ N : L2.St → Hp → Prop, (∀ σ' H', N σ' H' → ∃ m', m' < m ∧ W (i + 1) m' σ' H') ∧ ∀ x H', (Itl K a).yld i H2 x H' → g x σ2 H' fun σ3 H3 => s1 ⟨N, rt, nx, N⟩ σ3 H3) :=
  for_list (D := ⟨nx, rt, nx, nx⟩) Pv h0 (fun i σ H _ p => hl i σ H p) hs hd
theorem rev_of (Pv : Nat → L2.St → Hp → Prop) (h0 : Pv 0 σ H) (hl : ∀ i σ H, Pv i σ H → SqL K H a xs)
    (hs : ∀ i x σ H, i < xs.length → xs[xs.length - 1 - i]? = some x → Pv i σ H → g x σ H fun σ2 H2 => s1 ⟨Pv (i + 1), rt, nx, Pv (i + 1)⟩ σ2 H2) (hd : ∀ σ H, Pv xs.length σ H → nx σ H) :
    ∃ W : Nat → Nat → L2.St → Hp → Prop, (∃ m, W 0 m σ H) ∧ ∀ i m σ2 H2, W i m σ2 H2 →
      ((Itv K a xs.length).stop i H2 ∧ nx σ2 H2) ∨ ((Itv K a xs.length).go i H2 ∧ ∃ N : L2.St → Hp → Prop, (∀ σ' H', N σ' H' → ∃ m', m' < m ∧ W (i + 1) m' σ' H') ∧ ∀ x H', (Itv K a xs.length).yld i H2 x H' → g x σ2 H' fun σ3 H3 => s1 ⟨N, rt, nx, N⟩ σ3 H3) :=
  RT.for_Itv (D := ⟨nx, rt, nx, nx⟩) Pv h0 hl hs hd
theorem g_bm0 {T : String} {r : V → List V → Hp → VK → Prop} {te : TE} {Q : VK} (h : te σ H fun x H1 => tyV K T x H1 ∧ r x [] H1 Q) : tBM0 K T r te σ H Q := h
theorem g_dnew {Q : VK} (h : ∀ p, H p = none → Q (.ref p) (upd H p (.dK []))) : tDNewK σ H Q := h
theorem g_dput {td ty tv : TE} (h : tv σ H fun v H1 => td σ H1 fun x H2 => ty σ H2 fun y H3 => ∃ a H4, x = .ref a ∧ DPut H3 a y v H4 ∧ nx σ H4) : sDPut td ty tv ⟨nx, rt, bk, ct⟩ σ H := h
theorem g_revL {te : TE} {Q : VK} (h : te σ H fun x H1 => ∃ a xs, x = .ref a ∧ SqL K H1 a xs ∧ ∀ p, H1 p = none → Q (.ref p) (upd H1 p (.lst xs.reverse))) : tRevL K te σ H Q := h
end
/-! ### a comprehension with a test -/
section
variable {K : PySem.W.Frag} {σ : L2.St} {H : Hp} {Q : VK} {te : TE} {vs : List Nat} {g : TG} {tt : TT} {tl : TE} {a : Addr} {xs : List V}
def MadeF (H : Hp) (D : Addr) (acc : Nat → List V) (i : Nat) (H' : Hp) : Prop := Same H H' ∧ H' D = some (.lst (acc i))
theorem madeF_next {H H' H4 : Hp} {D : Addr} {acc : Nat → List V} {i : Nat} {y : V} (hD : H D = none) (m : MadeF H D acc i H') (s4 : Same H' H4) (hz : (acc i).length < sizeLine) (e : acc (i + 1) = acc i ++ [y]) :
    ∃ l, H4 D = some (.lst l) ∧ l.length < sizeLine ∧ MadeF H D acc (i + 1) (upd H4 D (.lst (l ++ [y]))) :=
  ⟨_, s4 _ _ m.2, hz, same_mut (m.1.trans s4) hD, by rw [upd_same, e]⟩
theorem madeF_skip {H H' H4 : Hp} {D : Addr} {acc : Nat → List V} {i : Nat} (m : MadeF H D acc i H') (s4 : Same H' H4) (e : acc (i + 1) = acc i) : MadeF H D acc (i + 1) H4 := ⟨m.1.trans s4, by rw [e]; exact s4 _ _ m.2⟩
theorem lc_Q (acc : Nat → List V) (htl : ∀ Q' : VK, Q' (.ref a) H → tl σ H Q') (hx : SqL K H a xs ∨ SqT K H a xs) (h0 : acc 0 = [])
    (hs : ∀ D i x H', H D = none → xs[i]? = some x → MadeF H D acc i H' → g x (wipe σ vs) H' fun σ2 H2 => wipe σ2 vs = wipe σ vs ∧ tt σ2 H2 fun b H3 =>
      if b = true then te σ2 H3 fun y H4 => ∃ l, H4 D = some (.lst l) ∧ l.length < sizeLine ∧ MadeF H D acc (i + 1) (upd H4 D (.lst (l ++ [y]))) else MadeF H D acc (i + 1) H3)
    (hq : ∀ D H', H D = none → Same H H' → H' D = some (.lst (acc xs.length)) → Q (.ref D) H') : tLc (iLT K tl) g tt te vs σ H Q := by
  rcases hx with hx | hx
  · refine .inl (htl _ ⟨a, rfl, ⟨xs, hx⟩, fun D hD => ?_⟩)
    exact lc_list (K := K) (a := a) (xs := xs) (MadeF H D acc) ⟨same_new hD, by rw [upd_same, h0]⟩ (fun i H' _ m => m.1.seq hx) (fun i x H' hi' m => hs D i x H' hD hi' m) (fun H' m => hq D H' hD m.1 m.2)
  · refine .inr (htl _ ⟨a, rfl, ⟨xs, hx⟩, fun D hD => ?_⟩)
    exact lc_tup (K := K) (a := a) (xs := xs) (MadeF H D acc) ⟨same_new hD, by rw [upd_same, h0]⟩ (fun i H' _ m => same_sqT m.1 hx) (fun i x H' hi' m => hs D i x H' hD hi' m) (fun H' m => hq D H' hD m.1 m.2)
end
/-! ### sorted(d.items()), d a dict of ints by ints -/
section
variable {X : Cx}
def rItemsK : V → List V → Hp → VK → Prop := fun x xs H Q => ∃ (a : Addr) (kvs : List (Key × V)), x = .ref a ∧ xs = [] ∧ H a = some (.dK kvs) ∧ ∀ p, H p = none → Q (.ref p) (upd H p (L2.DX.itemsO p a))
theorem mt_itemsK : MtR X "dict.items" rItemsK := by
  intro pins s σ H x xs v us Q I rx rxs h
  obtain ⟨a, kvs, rfl, rfl, ha, q⟩ := h
  cases rx
  cases rxs
  obtain ⟨_, hd, vs, _, hdo⟩ := I.hok a _ ha
  obtain ⟨es, ep, ⟨o, ho, hx, hdat⟩, _⟩ := hdo.raw
  refine DT.callItems (es := es) (ep := ep) hd ⟨o, ho, hx, hdat⟩ ?_
  have hf : H s.heap.objs.size = none := I.hok.fresh (Nat.le_refl _)
  exact ⟨.ref s.heap.objs.size, upd H s.heap.objs.size (L2.DX.itemsO s.heap.objs.size a), I.laid (t' := s.toks) (fun b u e => Heap.get?_push_of_some _ e) (Nat.le_refl _) (L2.DX.itemsO_ok (Heap.get?_push_size _ rfl)), rfl, q _ hf⟩
def rSortA (K : PySem.W.Frag) : List V → Hp → VK → Prop := fun xs H Q => rSortedPO K xs H Q ∨ rSortedI K xs H Q
theorem cr_sortA : CallR X (.builtin "sorted") (rSortA X.K) := fun pins s σ H xs us Q I r h => h.elim (cr_sortedPO pins s σ H xs us Q I r) (cr_sortedI pins s σ H xs us Q I r)
def entI (q : Int × Int) : Key × V := (Sum.inl q.1, V.int q.2)
def rSortItK : List V → Hp → VK → Prop := fun vs H Q => ∃ (p a : Addr) (ps : List (Int × Int)), vs = [.ref p] ∧ H p = some (L2.DX.itemsO p a) ∧ H a = some (.dK (ps.map entI)) ∧
  ∀ (H' : Hp) (l : Addr) (ts : List Addr) (qs : List (Int × Int)), Same H H' → H l = none → qs.Perm ps → qs.Pairwise (fun x y => x.1 ≤ y.1) → H' l = some (.lst (ts.map V.ref)) →
    Paired (fun (t : Addr) (q : Int × Int) => H' t = some (.tup [.int q.1, .int q.2])) ts qs → Q (.ref l) H'
theorem paired_maps {α β γ : Type} {F : α → β → Prop} (f : γ → α) (k : γ → β) : ∀ l : List γ, (∀ z ∈ l, F (f z) (k z)) → Paired F (l.map f) (l.map k)
  | [], _ => .nil
  | z :: l, h => .cons (h z (List.mem_cons_self ..)) (paired_maps f k l fun y hy => h y (List.mem_cons_of_mem _ hy))
theorem paired_at {α β : Type} {F : α → β → Prop} : ∀ {xs : List α} {ys : List β}, Paired F xs ys → ∀ {i : Nat} {x : α}, xs[i]? = some x → ∃ y, ys[i]? = some y ∧ F x y
  | _, _, .nil, i, x, h => by simp at h
  | _, _, .cons r _, 0, x, h => by
    have e := Option.some.inj h
    subst e
    exact ⟨_, rfl, r⟩
  | _, _, .cons _ t, i + 1, x, h => paired_at t h
theorem isPair_uniq {h : Heap} {v : Value} {x y x' y' : Int} (p : Srt.IsPair h v x y) (q : Srt.IsPair h v x' y') : x = x' ∧ y = y' := by
  obtain ⟨a, o, t, u, n, e, ho, hc, hd⟩ := p
  obtain ⟨a', o', t', u', n', e', ho', hc', hd'⟩ := q
  subst e
  cases e'
  rw [ho] at ho'
  cases ho'
  rw [hd] at hd'
  injection hd' with e1 e2
  injection e1 with e1
  injection e1 with e3 e4
  injection e4 with e4 e5
  injection e3 with e3
  injection e4 with e4
  exact ⟨e3, e4⟩
theorem cr_sortedItK (hc : X.calm = true) : CallR X (.builtin "sorted") rSortItK := by
  intro pins s σ H xs us Q I r h
  obtain ⟨p, a, ps, rfl, hp, ha, q⟩ := h
  obtain rfl := Vals.ref1 r
  have view : s.heap.IsItemsView p a := (show ObjOk X.prog X.w H s.heap p (L2.DX.itemsO p a) from I.hok p _ hp).1
  obtain ⟨hz, hs0, vs, kv, hdo⟩ := I.hok a _ ha
  obtain ⟨es, ep, ⟨o, ho, hx, hdat⟩, hsz, he⟩ := hdo.raw
  have l1 : (ps.map entI).length = vs.length := Paired.length kv
  have l0 : (ps.map entI).length = ps.length := List.length_map _
  have hh : X.A.handled = none := I.ok.hd hc
  refine DT.sortedI (es := es) (ep := ep) hh view ⟨o, ho, hx, hdat⟩ (by omega) fun h' tk as hk hlt hl hG => ?_
  have lak : as.length = ps.length := by omega
  have nd : as.Nodup := List.Pairwise.imp (fun h => Nat.ne_of_lt h) hG.rise
  have pr : ∀ (j : Nat) (b : Addr), as[j]? = some b → ∃ (e : Int × Int) (t u : Tok), ps[j]? = some e ∧ h'.get? b = some { cls := .type "tuple", data := .seq #[Value.int e.1 t, Value.int e.2 u] } := by
    intro j b hj
    obtain ⟨en, e1, hg⟩ := hG.pairs j b hj
    obtain ⟨hi, e2⟩ := Array.getElem?_eq_some_iff.mp e1
    have hjp : j < ps.length := by omega
    have h3 : (ps.map entI)[j]? = some (entI ps[j]) := by rw [List.getElem?_map, List.getElem?_eq_getElem hjp]; rfl
    obtain ⟨y, h4, h5, h6⟩ := paired_at kv h3
    obtain ⟨h7, h8⟩ := he j hi y.1 y.2 h4
    rw [e2] at h7 h8
    rw [← h5] at h7
    obtain ⟨t, e3⟩ : RelV (V.int ps[j].1) en.key := relV_key (k := Sum.inl ps[j].1) h7
    obtain ⟨u, e4⟩ : RelV (V.int ps[j].2) y.2 := h6
    refine ⟨ps[j], t, u, List.getElem?_eq_getElem hjp, ?_⟩
    rw [hg, e3, h8, e4]
  have hob : (h'.push { cls := .type "list", data := .seq (as.map Value.ref).toArray }).get? h'.objs.size = some (seqObj "list" (as.map Value.ref).toArray 0) := Heap.get?_push_size _ rfl
  have kb : ∀ b o, s.heap.get? b = some o → (h'.push { cls := .type "list", data := .seq (as.map Value.ref).toArray }).get? b = some o := fun b o e => Heap.get?_push_of_some _ (hk b o e)
  have ne0 : ∀ b o, h'.get? b = some o → b ≠ h'.objs.size := fun b o e => Nat.ne_of_lt (Heap.lt_size e)
  generalize hh2 : h'.push { cls := .type "list", data := .seq (as.map Value.ref).toArray } = h2 at hob kb ⊢
  have ka : ∀ b o, h'.get? b = some o → h2.get? b = some o := fun b o e => by rw [← hh2]; exact Heap.get?_push_of_some _ e
  have at_ : ∀ v ∈ as.map Value.ref, ∃ (j : Nat) (b : Addr) (e : Int × Int), v = .ref b ∧ as[j]? = some b ∧ ps[j]? = some e ∧ Srt.IsPair h2 v e.1 e.2 := by
    intro v hv'
    obtain ⟨b, hb, rfl⟩ := List.mem_map.mp hv'
    obtain ⟨j, hj⟩ := List.mem_iff_getElem?.mp hb
    obtain ⟨e, t, u, hpe, hg⟩ := pr j b hj
    exact ⟨j, b, e, rfl, hj, hpe, b, _, t, u, 0, rfl, ka _ _ hg, rfl, rfl⟩
  obtain ⟨k, hk2⟩ : ∃ k : Value → Int × Int, ∀ v ∈ as.map Value.ref, Srt.IsPair h2 v (k v).1 (k v).2 := by
    classical
    refine ⟨fun v => if h : ∃ q : Int × Int, Srt.IsPair h2 v q.1 q.2 then Classical.choose h else (0, 0), fun v hv => ?_⟩
    obtain ⟨j, b, e, _, _, _, hp'⟩ := at_ v hv
    have hex : ∃ q : Int × Int, Srt.IsPair h2 v q.1 q.2 := ⟨e, hp'⟩
    dsimp only
    rw [dif_pos hex]
    exact Classical.choose_spec hex
  have hkj : ∀ (j : Nat) (b : Addr) (e : Int × Int), as[j]? = some b → ps[j]? = some e → k (.ref b) = e := by
    intro j b e hj hje
    have hm : Value.ref b ∈ as.map Value.ref := List.mem_map.mpr ⟨b, List.mem_of_getElem? hj, rfl⟩
    obtain ⟨e', t, u, hpe, hg⟩ := pr j b hj
    rw [hje] at hpe
    cases hpe
    have h1 : Srt.IsPair h2 (.ref b) e.1 e.2 := ⟨b, _, t, u, 0, rfl, ka _ _ hg, rfl, rfl⟩
    obtain ⟨z1, z2⟩ := isPair_uniq (hk2 _ hm) h1
    exact Prod.ext z1 z2
  have hlv : (as.map Value.ref).length ≤ sizeLine := by rw [List.length_map]; omega
  refine wpAny_call_entry PyProof.Rows.slot_list_sort ⟨_, hob, rfl⟩ PyProof.Rows.entry_list_sort
    (SrtO.list_sort_ord (s := { s with heap := h2, toks := tk }) (SrtO.swo_lex k) hob hlv (fun h2' => SrtO.pairs_sortableO (s := { s with heap := h2, toks := tk }) (by omega) hk2 fun o e => ?_) fun out o3 o2 => ⟨.none, rfl, ?_⟩) (PyProof.Rows.args_list_sort _)
  · have e' : some o = some (seqObj "list" (as.map Value.ref).toArray 0) := e.symm.trans hob
    cases e'
    intro c
    exact absurd (Value.type.inj c) (by decide)
  · show EP X pins σ Q (.ref h'.objs.size) { s with heap := sortedHeap h2 h'.objs.size (as.map Value.ref) out.toArray, toks := tk }
    have kF : ∀ b o, b ≠ h'.objs.size → h2.get? b = some o → (sortedHeap h2 h'.objs.size (as.map Value.ref) out.toArray).get? b = some o := fun b o hb e => (PyProof.Rows.sortedHeap_old hb (Heap.lt_size e)).trans e
    have kS : ∀ b o, s.heap.get? b = some o → (sortedHeap h2 h'.objs.size (as.map Value.ref) out.toArray).get? b = some o := fun b o e => kF b o (ne0 _ _ (hk b o e)) (kb b o e)
    obtain ⟨eF, heF⟩ := PyProof.Rows.sortedHeap_at (vs := as.map Value.ref) (out := out.toArray) hob
    have I1 : Inv X pins σ H { s with heap := sortedHeap h2 h'.objs.size (as.map Value.ref) out.toArray, toks := tk } := I.kept (t' := tk) kS
    have hn0 : H h'.objs.size = none := I.hok.fresh (Nat.le_of_lt hlt)
    -- the addresses of what stands in out
    let f : Value → Addr := fun v => match v with | .ref b => b | _ => 0
    have hout : ∀ v ∈ out, ∃ b, v = Value.ref b ∧ b ∈ as := fun v hv => by
      obtain ⟨b, hb, e⟩ := List.mem_map.mp (o2.perm.mem_iff.mp hv)
      exact ⟨b, e.symm, hb⟩
    have eout : out = (out.map f).map Value.ref := by
      rw [List.map_map]
      refine (List.map_congr_left fun v hv => ?_).trans (List.map_id _) |>.symm
      obtain ⟨b, rfl, _⟩ := hout v hv
      rfl
    have hlen : ((out.map f).map V.ref).length ≤ sizeLine := by
      have e := o2.perm.length_eq
      rw [List.length_map] at e
      rw [List.length_map, List.length_map]
      omega
    have rv : Vals ((out.map f).map V.ref) out := by
      have e2 : Vals ((out.map f).map V.ref) ((out.map f).map Value.ref) := vals_maps (fun z : Addr => V.ref z) (fun z => Value.ref z) _ fun _ _ => rfl
      rw [← eout] at e2
      exact e2
    have I2 : Inv X pins σ (upd H h'.objs.size (.lst ((out.map f).map V.ref))) { s with heap := sortedHeap h2 h'.objs.size (as.map Value.ref) out.toArray, toks := tk } :=
      I1.take (h' := sortedHeap h2 h'.objs.size (as.map Value.ref) out.toArray) (t' := tk) (fun b ob _ e => e) (I.fpOk (Nat.le_of_lt hlt) hn0) ⟨hlen, out, eF, rv, heF⟩
    obtain ⟨H2, I3, g, qt⟩ := L2.DX.takeT (P := fun b vs => ∃ (j : Nat) (e : Int × Int), as[j]? = some b ∧ ps[j]? = some e ∧ vs = [.int e.1, .int e.2]) I as _ I2 nd fun b hb => by
      obtain ⟨j, hj⟩ := List.mem_iff_getElem?.mp hb
      obtain ⟨e, t, u, he', hg⟩ := pr j b hj
      have hbl : s.heap.objs.size ≤ b := Nat.le_of_lt (hG.above b hb)
      refine ⟨hbl, ?_, [.int e.1, .int e.2], ⟨j, e, hj, he', rfl⟩, fun H3 => ⟨(by rw [sizeLine_eq]; show 2 ≤ 16777216; omega), [Value.int e.1 t, Value.int e.2 u], .cons ⟨t, rfl⟩ (.cons ⟨u, rfl⟩ .nil), ⟨_, kF _ _ (ne0 _ _ hg) (ka _ _ hg), rfl, 0, rfl⟩⟩⟩
      rw [upd_ne (ne0 _ _ hg)]
      exact I.hok.fresh hbl
    have gr : Same H H2 := fun b o e => g b o (by rw [upd_ne (ne_of_none e hn0)]; exact e)
    have hmap : (as.map Value.ref).map k = ps := by
      refine List.ext_getElem? fun j => ?_
      rw [List.map_map, List.getElem?_map]
      cases hj : as[j]? with
      | none =>
        have : as.length ≤ j := List.getElem?_eq_none_iff.mp hj
        rw [List.getElem?_eq_none (by omega)]
        rfl
      | some b =>
        obtain ⟨e, _, _, he', _⟩ := pr j b hj
        rw [he']
        exact congrArg some (hkj j b e hj he')
    refine ⟨.ref h'.objs.size, H2, I3, rfl, q H2 h'.objs.size (out.map f) (out.map k) gr hn0 ?_ ?_ (g _ _ upd_same) ?_⟩
    · rw [← hmap]
      exact o2.perm.map k
    · rw [List.pairwise_map]
      refine List.Pairwise.imp (fun {x y} h => ?_) o3
      have z := SrtO.lexB_no.mp h
      omega
    · refine paired_maps f k out fun v hv => ?_
      obtain ⟨b, rfl, hb⟩ := hout v hv
      obtain ⟨vs', ⟨j, e, j1, j2, ev⟩, hH⟩ := qt b hb
      rw [hkj j b e j1 j2, ← ev]
      exact hH
end
end My
/-! ### the tactics: go1 one step, go as far as it goes; lk: what stands at an address -/
local macro_rules | `(tactic| walk_at "lk") => `(tactic| first
  | assumption
  | exact L2.upd_same
  | (refine My.lk_ne ?_ (by assumption); walk_at "lk")
  | (refine (show L2.Same _ _ by assumption) _ _ ?_; walk_at "lk"))
local macro_rules | `(tactic| walk_at "sm") => `(tactic| first
  | assumption
  | exact L2.Same.refl _
  | exact My.same_new (by assumption)
  | (refine L2.Same.trans ?_ (My.same_new (by assumption)); walk_at "sm")
  | (refine L2.Same.trans ?_ (show L2.Same _ _ by assumption); walk_at "sm"))
local macro_rules | `(tactic| walk_at "sq") => `(tactic| first
  | assumption
  | (refine L2.SqL.of ?_; walk_at "lk")
  | (refine L2.SqT.of ?_; walk_at "lk"))
local macro_rules | `(tactic| walk_at "go0") => `(tactic| first
  | (with_reducible refine' My.g_var ?h ?q; (case h => with_unfolding_all rfl))
  | with_reducible refine My.g_c ?_
  | with_reducible refine My.g_op ?_
  | with_reducible refine My.g_seq ?_
  | with_reducible refine My.g_set ?_
  | with_reducible refine My.g_cons ?_
  | with_reducible refine My.g_nil ?_
  | with_reducible refine My.g_call ?_
  | with_reducible refine My.r_plus ?_
  | with_reducible refine My.r_int ?_
  | (with_reducible refine' My.r_intC ?c ?q; (case c => walk_at "side"))
  | with_reducible refine My.g_CB ?_
  | with_reducible refine My.g_test ?_
  | with_reducible refine My.g_blI ?_
  | with_reducible refine My.g_bl ?_
  | with_reducible refine My.g_ret ?_
  | with_reducible refine My.g_tup ?_
  | with_reducible refine My.g_next ?_
  | with_reducible refine My.r_eqI ?_
  | with_reducible refine My.g_drop ?_
  | with_reducible refine My.g_bm ?_
  | with_reducible refine My.g_gcons ?_
  | with_reducible refine My.g_gname ?_
  | with_reducible refine My.g_gnil ?_
  | with_reducible refine My.g_asg ?_
  | with_reducible refine My.g_and ?_
  | with_reducible refine My.g_or ?_
  | with_reducible refine My.g_B ?_
  | with_reducible refine My.g_not ?_
  | with_reducible refine My.g_lst ?_
  | with_reducible refine My.r_isN ?_
  | with_reducible refine My.g_T ?_
  | with_reducible refine My.g_F ?_
  | with_reducible refine My.g_brk ?_
  | with_reducible refine My.g_cont ?_
  | with_reducible refine My.g_retN ?_
  | with_reducible refine My.g_un ?_
  | with_reducible refine My.r_U ?_
  | with_reducible refine My.r_neI ?_
  | with_reducible refine My.r_notN ?_
  | with_reducible refine My.g_andV ?_
  | with_reducible refine My.g_orV ?_
  | with_reducible refine My.g_notV ?_
  | with_reducible refine My.g_ifE ?_
  | with_reducible refine My.g_chain ?_
  | with_reducible refine My.g_fld ?_
  | with_reducible refine My.g_fldS ?_
  | with_reducible refine My.g_sl ?_
  | with_reducible refine My.g_part ?_
  | with_reducible refine My.g_nopart ?_
  | with_reducible refine My.g_partI ?_
  | with_reducible refine My.g_ipI ?_
  | with_reducible refine My.g_nT ?_
  | with_reducible refine My.g_nF ?_
  | with_reducible refine My.g_bm0 ?_
  | with_reducible refine My.g_dnew ?_
  | with_reducible refine My.g_dput ?_
  | with_reducible refine My.g_revL ?_
  | (with_reducible refine' My.g_aug ?h ?q; (case h => with_unfolding_all rfl)))
local macro_rules | `(tactic| walk_at "side") => `(tactic| first
  | decide
  | with_reducible exact My.cdiv_ok (by decide) (by decide)
  | with_reducible exact My.cmul_r (by decide) (by decide)
  | with_reducible exact My.cmul_l (by decide) (by decide)
  | ((with_reducible refine My.cdiv_ok ?_ ?_) <;> omega)
  | ((with_reducible refine My.cmul_r ?_ ?_) <;> omega)
  | ((with_reducible refine My.cmul_l ?_ ?_) <;> omega)
  | exact My.cpow_ok (by omega) (by omega) (by decide)
  | (show (0 : Int) < _; omega))
local macro_rules | `(tactic| walk_at "go1") => `(tactic| first | (walk_at "go0") | with_reducible refine My.g_ifS ?_)
local macro_rules | `(tactic| walk_at "gos") => `(tactic| repeat (walk_at "go0"))
local macro_rules | `(tactic| walk_at "sz") => `(tactic| exact Nat.le_of_ble_eq_true rfl)
local macro_rules | `(tactic| walk_at "go") => `(tactic| repeat (walk_at "go1"))

namespace NS
open PySem PySem.Spec PyProof.Rows L2 My
def top (i : Nat) : Stmt := PySem.Challenge.pw_rentroll_k08_balance_and_growth.main.body.getD i (.Pass ⟨0, 0, 0, 0⟩)
abbrev s_in_order : Stmt := top 1
abbrev s_spans : Stmt := top 2
abbrev s_balance : Stmt := top 5
abbrev s_grown : Stmt := top 6
abbrev s_balances : Stmt := top 7
abbrev s_l_cell_at : Stmt := top 9
abbrev s_l_whole : Stmt := top 10
abbrev s_l_mix : Stmt := top 11
abbrev s_l_base : Stmt := top 12
abbrev s_l_held : Stmt := top 13
abbrev s_l_moves : Stmt := top 14
abbrev s_l_rates : Stmt := top 15
abbrev s_l_balance : Stmt := top 16
abbrev s_l_grown : Stmt := top 17
abbrev s_law : Stmt := top 18
abbrev N_in_order : List Str := ["terms", "values", "first", "value"]
theorem sc_in_order : FnScope N_in_order ["terms"] (defScope s_in_order) := ⟨rfl, rfl, rfl, by decide +kernel, rfl, by decide +kernel, by decide +kernel⟩
abbrev N_spans : List Str := ["terms", "first", "last", "found", "end", "pair", "begin"]
theorem sc_spans : FnScope N_spans ["terms", "first", "last"] (defScope s_spans) := ⟨rfl, rfl, rfl, by decide +kernel, rfl, by decide +kernel, by decide +kernel⟩
abbrev N_balance : List Str := ["moves", "day", "at", "cents"]
theorem sc_balance : FnScope N_balance ["moves", "day"] (defScope s_balance) := ⟨rfl, rfl, rfl, by decide +kernel, rfl, by decide +kernel, by decide +kernel⟩
abbrev N_grown : List Str := ["moves", "rates", "last", "total", "begin", "end", "known", "start", "stop", "rate"]
theorem sc_grown : FnScope N_grown ["moves", "rates", "last"] (defScope s_grown) := ⟨rfl, rfl, rfl, by decide +kernel, rfl, by decide +kernel, by decide +kernel⟩
abbrev N_balances : List Str := ["moves", "row", "total", "day", "cents"]
theorem sc_balances : FnScope N_balances ["moves"] (defScope s_balances) := ⟨rfl, rfl, rfl, by decide +kernel, rfl, by decide +kernel, by decide +kernel⟩
abbrev N_l_cell_at : List Str := ["_law_script", "_law_k"]
theorem sc_l_cell_at : FnScope N_l_cell_at ["_law_script", "_law_k"] (defScope s_l_cell_at) := ⟨rfl, rfl, rfl, by decide +kernel, rfl, by decide +kernel, by decide +kernel⟩
abbrev N_l_whole : List Str := ["_law_found"]
theorem sc_l_whole : FnScope N_l_whole ["_law_found"] (defScope s_l_whole) := ⟨rfl, rfl, rfl, by decide +kernel, rfl, by decide +kernel, by decide +kernel⟩
abbrev N_l_mix : List Str := ["_law_number", "_law_k", "_law_more"]
theorem sc_l_mix : FnScope N_l_mix ["_law_number", "_law_k"] (defScope s_l_mix) := ⟨rfl, rfl, rfl, by decide +kernel, rfl, by decide +kernel, by decide +kernel⟩
abbrev N_l_base : List Str := ["_law_cell", "_law_near"]
theorem sc_l_base : FnScope N_l_base ["_law_cell"] (defScope s_l_base) := ⟨rfl, rfl, rfl, by decide +kernel, rfl, by decide +kernel, by decide +kernel⟩
abbrev N_l_held : List Str := ["_law_terms", "_law_day", "_law_best", "_law_pair"]
theorem sc_l_held : FnScope N_l_held ["_law_terms", "_law_day"] (defScope s_l_held) := ⟨rfl, rfl, rfl, by decide +kernel, rfl, by decide +kernel, by decide +kernel⟩
abbrev N_l_moves : List Str := ["_law_script", "_law_base_here", "_law_many", "_law_moves_here", "_law_k", "_law_more", "_law_cents"]
theorem sc_l_moves : FnScope N_l_moves ["_law_script", "_law_base_here"] (defScope s_l_moves) := ⟨rfl, rfl, rfl, by decide +kernel, rfl, by decide +kernel, by decide +kernel⟩
abbrev N_l_rates : List Str := ["_law_script", "_law_base_here", "_law_rates_here", "_law_k", "_law_more"]
theorem sc_l_rates : FnScope N_l_rates ["_law_script", "_law_base_here"] (defScope s_l_rates) := ⟨rfl, rfl, rfl, by decide +kernel, rfl, by decide +kernel, by decide +kernel⟩
abbrev N_l_balance : List Str := ["_law_moves_here", "_law_day", "_law_total", "_law_move"]
theorem sc_l_balance : FnScope N_l_balance ["_law_moves_here", "_law_day"] (defScope s_l_balance) := ⟨rfl, rfl, rfl, by decide +kernel, rfl, by decide +kernel, by decide +kernel⟩
abbrev N_l_grown : List Str := ["_law_moves_here", "_law_rates_here", "_law_base_here", "_law_last", "_law_total", "_law_day"]
theorem sc_l_grown : FnScope N_l_grown ["_law_moves_here", "_law_rates_here", "_law_base_here", "_law_last"] (defScope s_l_grown) := ⟨rfl, rfl, rfl, by decide +kernel, rfl, by decide +kernel, by decide +kernel⟩
abbrev N_law : List Str := ["_law_script", "_law_base_here", "_law_moves_here", "_law_rates_here", "_law_last", "_law_handed", "_law_found", "_law_due", "_law_more", "_law_cents", "_law_rate", "_law_far"]
theorem sc_law : FnScope N_law ["_law_script"] (defScope s_law) := ⟨rfl, rfl, rfl, by decide +kernel, rfl, by decide +kernel, by decide +kernel⟩
structure Txt (K : PySem.W.Frag) (mg : Str → Option Value) where
  f_in_order : Addr
  fd_in_order : FuncData
  F_in_order : Fun K "in_order" "in_order" s_in_order f_in_order fd_in_order
  b_in_order : Binds K fd_in_order ["terms"] []
  g_in_order : mg "in_order" = some (.ref f_in_order)
  f_spans : Addr
  fd_spans : FuncData
  F_spans : Fun K "spans" "spans" s_spans f_spans fd_spans
  b_spans : Binds K fd_spans ["terms", "first", "last"] []
  g_spans : mg "spans" = some (.ref f_spans)
  f_balance : Addr
  fd_balance : FuncData
  F_balance : Fun K "balance" "balance" s_balance f_balance fd_balance
  b_balance : Binds K fd_balance ["moves", "day"] []
  g_balance : mg "balance" = some (.ref f_balance)
  f_grown : Addr
  fd_grown : FuncData
  F_grown : Fun K "grown" "grown" s_grown f_grown fd_grown
  b_grown : Binds K fd_grown ["moves", "rates", "last"] []
  g_grown : mg "grown" = some (.ref f_grown)
  f_balances : Addr
  fd_balances : FuncData
  F_balances : Fun K "_balances" "_balances" s_balances f_balances fd_balances
  b_balances : Binds K fd_balances ["moves"] []
  g_balances : mg "_balances" = some (.ref f_balances)
  f_l_cell_at : Addr
  fd_l_cell_at : FuncData
  F_l_cell_at : Fun K "_law_cell_at" "_law_cell_at" s_l_cell_at f_l_cell_at fd_l_cell_at
  b_l_cell_at : Binds K fd_l_cell_at ["_law_script", "_law_k"] []
  g_l_cell_at : mg "_law_cell_at" = some (.ref f_l_cell_at)
  f_l_whole : Addr
  fd_l_whole : FuncData
  F_l_whole : Fun K "_law_whole" "_law_whole" s_l_whole f_l_whole fd_l_whole
  b_l_whole : Binds K fd_l_whole ["_law_found"] []
  g_l_whole : mg "_law_whole" = some (.ref f_l_whole)
  f_l_mix : Addr
  fd_l_mix : FuncData
  F_l_mix : Fun K "_law_mix" "_law_mix" s_l_mix f_l_mix fd_l_mix
  b_l_mix : Binds K fd_l_mix ["_law_number", "_law_k"] []
  g_l_mix : mg "_law_mix" = some (.ref f_l_mix)
  f_l_base : Addr
  fd_l_base : FuncData
  F_l_base : Fun K "_law_base" "_law_base" s_l_base f_l_base fd_l_base
  b_l_base : Binds K fd_l_base ["_law_cell"] []
  g_l_base : mg "_law_base" = some (.ref f_l_base)
  f_l_held : Addr
  fd_l_held : FuncData
  F_l_held : Fun K "_law_held" "_law_held" s_l_held f_l_held fd_l_held
  b_l_held : Binds K fd_l_held ["_law_terms", "_law_day"] []
  g_l_held : mg "_law_held" = some (.ref f_l_held)
  f_l_moves : Addr
  fd_l_moves : FuncData
  F_l_moves : Fun K "_law_moves" "_law_moves" s_l_moves f_l_moves fd_l_moves
  b_l_moves : Binds K fd_l_moves ["_law_script", "_law_base_here"] []
  g_l_moves : mg "_law_moves" = some (.ref f_l_moves)
  f_l_rates : Addr
  fd_l_rates : FuncData
  F_l_rates : Fun K "_law_rates" "_law_rates" s_l_rates f_l_rates fd_l_rates
  b_l_rates : Binds K fd_l_rates ["_law_script", "_law_base_here"] []
  g_l_rates : mg "_law_rates" = some (.ref f_l_rates)
  f_l_balance : Addr
  fd_l_balance : FuncData
  F_l_balance : Fun K "_law_balance" "_law_balance" s_l_balance f_l_balance fd_l_balance
  b_l_balance : Binds K fd_l_balance ["_law_moves_here", "_law_day"] []
  g_l_balance : mg "_law_balance" = some (.ref f_l_balance)
  f_l_grown : Addr
  fd_l_grown : FuncData
  F_l_grown : Fun K "_law_grown" "_law_grown" s_l_grown f_l_grown fd_l_grown
  b_l_grown : Binds K fd_l_grown ["_law_moves_here", "_law_rates_here", "_law_base_here", "_law_last"] []
  g_l_grown : mg "_law_grown" = some (.ref f_l_grown)
  f_law : Addr
  fd_law : FuncData
  F_law : Fun K "law" "law" s_law f_law fd_law
  b_law : Binds K fd_law ["_law_script"] []
  g_law : mg "law" = some (.ref f_law)
  tk_WHOLE : Tok
  g_WHOLE : mg "WHOLE" = some (.int 3650000 tk_WHOLE)
  n_sorted : mg "sorted" = none
  n_reversed : mg "reversed" = none
  n_max : mg "max" = none
  n_sum : mg "sum" = none
  n_len : mg "len" = none
  n_isinstance : mg "isinstance" = none
  n_int : mg "int" = none
  n_bool : mg "bool" = none
  n_range : mg "range" = none
  n_min : mg "min" = none
  n_list : mg "list" = none

def isI : V → Bool
  | .int _ => true
  | _ => false
def isB : V → Bool
  | .bl _ => true
  | _ => false
def thing (H : Hp) : V → Prop
  | .int _ => True
  | .bl _ => True
  | .str _ => True
  | .non => True
  | .ref a => ∃ xs, H a = some (.tup xs)
  | _ => False
theorem thing_ty {K : PySem.W.Frag} {H : Hp} {x : V} (h : thing H x) : ∃ n : String, TyX K H x (.type n) ∧ kitB n "int" = some (isI x || isB x) ∧ kitB n "bool" = some (isB x) := by
  cases x with
  | int i => exact ⟨"int", .base (.int i), (by decide +kernel : kitB "int" "int" = some true), (by decide +kernel : kitB "int" "bool" = some false)⟩
  | bl i => exact ⟨"bool", .base (.bl i), (by decide +kernel : kitB "bool" "int" = some true), (by decide +kernel : kitB "bool" "bool" = some true)⟩
  | str i => exact ⟨"str", .base (.str i), (by decide +kernel : kitB "str" "int" = some false), (by decide +kernel : kitB "str" "bool" = some false)⟩
  | non => exact ⟨"NoneType", .base .non, by decide +kernel, by decide +kernel⟩
  | ref a => obtain ⟨xs, e⟩ := h; exact ⟨"tuple", .base (.tup e), (by decide +kernel : kitB "tuple" "int" = some false), (by decide +kernel : kitB "tuple" "bool" = some false)⟩
  | _ => exact h.elim
theorem thing_same {H H' : Hp} {x : V} (e : Same H H') (h : thing H x) : thing H' x := by
  cases x with
  | ref a => obtain ⟨xs, q⟩ := h; exact ⟨xs, e _ _ q⟩
  | _ => exact h
theorem isI_not {x : V} (h : isB x = true) : isI x = false := by
  cases x <;> first | rfl | cases h
def within (x : V) (lo hi : Int) : Bool := match x with
  | .int i => decide (lo ≤ i) && decide (i ≤ hi)
  | _ => false
def sp_is_whole : Sp := fun vs H Q _ => ∃ x, vs = [x] ∧ thing H x ∧ Q (.bl (isI x)) H
theorem at0 {x : V} {r : List V} : atI (x :: r) 0 = some x := atI_nat (j := 0) rfl
theorem at1 {x y : V} {r : List V} : atI (x :: y :: r) 1 = some y := atI_nat (j := 1) rfl
theorem at2 {x y z : V} {r : List V} : atI (x :: y :: z :: r) 2 = some z := atI_nat (j := 2) rfl

def cell (ns : List Int) (k : Int) : Int := ns.getD k.toNat 0
def sp_l_cell_at (K : PySem.W.Frag) : Sp := fun vs H Q _ => ∃ (a : Addr) (ns : List Int) (k : Int), vs = [.ref a, .int k] ∧ SqL K H a (ns.map V.int) ∧ 0 ≤ k ∧ Q (.int (cell ns k)) H
def sp_l_whole : Sp := sp_is_whole
def sp_law (K : PySem.W.Frag) : Sp := fun vs H Q _ => ∃ (a : Addr) (ns : List Int), vs = [.ref a] ∧ SqL K H a (ns.map V.int) ∧ ns.length ≤ 63 ∧ ∀ H', Q (.bl true) H'
/-- the objects as are pairs of ints ps, all of them -/
inductive Prs (K : PySem.W.Frag) (H : Hp) : List Addr → List (Int × Int) → Prop
  | nil : Prs K H [] []
  | cons {a : Addr} {p : Int × Int} {as : List Addr} {ps : List (Int × Int)} : SqT K H a [.int p.1, .int p.2] → Prs K H as ps → Prs K H (a :: as) (p :: ps)
theorem Prs.one {K : PySem.W.Frag} {H : Hp} {a : Addr} {x y : Int} (h : SqT K H a [.int x, .int y]) : Prs K H [a] [(x, y)] := .cons h .nil
theorem sqT_ty {K : PySem.W.Frag} {H : Hp} {a : Addr} {xs : List V} (h : SqT K H a xs) : TyX K H (.ref a) (.type "tuple") := by
  rcases h with (h | ⟨o, h⟩) | ⟨o, its, n, h, c, _⟩
  · exact .base (.tup h)
  · exact .fTuple h
  · exact .kTuple h c
theorem Prs.len {K : PySem.W.Frag} {H : Hp} : ∀ {as : List Addr} {ps : List (Int × Int)}, Prs K H as ps → as.length = ps.length
  | _, _, .nil => rfl
  | _, _, .cons _ t => by simp [Prs.len t]
theorem Prs.same {K : PySem.W.Frag} {H H' : Hp} (e : Same H H') : ∀ {as : List Addr} {ps : List (Int × Int)}, Prs K H as ps → Prs K H' as ps
  | _, _, .nil => .nil
  | _, _, .cons h t => .cons (same_sqT e h) (Prs.same e t)
theorem Prs.get {K : PySem.W.Frag} {H : Hp} : ∀ {as : List Addr} {ps : List (Int × Int)} {i : Nat} {p : Int × Int}, Prs K H as ps → ps[i]? = some p → ∃ a, as[i]? = some a ∧ SqT K H a [.int p.1, .int p.2]
  | _, _, 0, _, .cons h _, e => by simp at e; subst e; exact ⟨_, rfl, h⟩
  | _, _, i + 1, _, .cons _ t, e => by obtain ⟨a, h1, h2⟩ := Prs.get (i := i) t (by simpa using e); exact ⟨a, by simpa using h1, h2⟩
  | _, _, _, _, .nil, e => by simp at e
theorem Prs.append {K : PySem.W.Frag} {H : Hp} {bs : List Addr} {qs : List (Int × Int)} (t2 : Prs K H bs qs) : ∀ {as : List Addr} {ps : List (Int × Int)}, Prs K H as ps → Prs K H (as ++ bs) (ps ++ qs)
  | _, _, .nil => t2
  | _, _, .cons h t => .cons h (Prs.append t2 t)
theorem Prs.drop1 {K : PySem.W.Frag} {H : Hp} {as : List Addr} {ps : List (Int × Int)} (h : Prs K H as ps) : Prs K H (as.drop 1) (ps.drop 1) := by
  cases h with
  | nil => exact .nil
  | cons h t => exact t
/-- a list that is changed is no pair -/
theorem sqT_mut {K : PySem.W.Frag} {H : Hp} {a l : Addr} {xs ys : List V} {o : HO} (hl : H l = some (.lst xs)) (h : SqT K H a ys) : SqT K (upd H l o) a ys := by
  rcases h with (h | ⟨o', h⟩) | h
  · exact .inl (.inl (by rw [upd_ne (ne_of h hl (by intro q; cases q))]; exact h))
  · exact .inl (.inr ⟨o', by rw [upd_ne (ne_of h hl (by intro q; cases q))]; exact h⟩)
  · exact .inr h
theorem Prs.mut {K : PySem.W.Frag} {H : Hp} {l : Addr} {xs : List V} {o : HO} (hl : H l = some (.lst xs)) : ∀ {as : List Addr} {ps : List (Int × Int)}, Prs K H as ps → Prs K (upd H l o) as ps
  | _, _, .nil => .nil
  | _, _, .cons h t => .cons (sqT_mut hl h) (Prs.mut hl t)
theorem cut1 (xs : List V) : cutV xs (some 1) none = xs.drop 1 := by
  unfold cutV
  rw [HT.sIx_none, show HT.sIx xs.length 0 (some 1) = min 1 xs.length from HT.sIx_nat xs.length 0 1]
  cases xs with
  | nil => rfl
  | cons x r =>
    have e : min 1 (x :: r).length = 1 := by simp
    rw [e]
    simp
/-- a list or a tuple l of such pairs -/
def RowAt (K : PySem.W.Frag) (H : Hp) (l : Addr) (as : List Addr) (ps : List (Int × Int)) : Prop := (SqL K H l (as.map .ref) ∨ SqT K H l (as.map .ref)) ∧ Prs K H as ps
theorem RowAt.same {K : PySem.W.Frag} {H H' : Hp} {l : Addr} {as : List Addr} {ps : List (Int × Int)} (e : Same H H') (h : RowAt K H l as ps) : RowAt K H' l as ps := ⟨h.1.imp (fun x => e.seq x) (fun x => same_sqT e x), h.2.same e⟩
theorem RowAt.get {K : PySem.W.Frag} {H : Hp} {l : Addr} {as : List Addr} {ps : List (Int × Int)} {i : Nat} (h : RowAt K H l as ps) (hi : i < ps.length) : ∃ a p, as[i]? = some a ∧ ps[i]? = some p ∧ SqT K H a [.int p.1, .int p.2] := by
  have hp : ps[i]? = some ps[i] := List.getElem?_eq_getElem hi
  obtain ⟨a, h1, h2⟩ := h.2.get hp
  exact ⟨a, _, h1, hp, h2⟩
/-- a list l of such pairs -/
def RowL (K : PySem.W.Frag) (H : Hp) (l : Addr) (as : List Addr) (ps : List (Int × Int)) : Prop := SqL K H l (as.map .ref) ∧ Prs K H as ps
theorem RowL.q {K : PySem.W.Frag} {H : Hp} {l : Addr} {as : List Addr} {ps : List (Int × Int)} (h : RowL K H l as ps) : RowAt K H l as ps := ⟨.inl h.1, h.2⟩
theorem RowL.same {K : PySem.W.Frag} {H H' : Hp} {l : Addr} {as : List Addr} {ps : List (Int × Int)} (e : Same H H') (h : RowL K H l as ps) : RowL K H' l as ps := ⟨e.seq h.1, h.2.same e⟩
def dpair (p : Int × Int) : PyData := .tuple [.int p.1, .int p.2]
theorem dpair_at {K : PySem.W.Frag} {H : Hp} {a : Addr} {p : Int × Int} (h : SqT K H a [.int p.1, .int p.2]) : Dp K H (.ref a) (dpair p) := .tup h (.cons (.int _) (.cons (.int _) .nil))
theorem Prs.dp {K : PySem.W.Frag} {H : Hp} : ∀ {as : List Addr} {ps : List (Int × Int)}, Prs K H as ps → DpAll K H (as.map .ref) (ps.map dpair)
  | _, _, .nil => .nil
  | _, _, .cons h t => .cons (dpair_at h) (Prs.dp t)
theorem RowL.dp {K : PySem.W.Frag} {H : Hp} {l : Addr} {as : List Addr} {ps : List (Int × Int)} (h : RowL K H l as ps) : Dp K H (.ref l) (.list (ps.map dpair)) := .lst h.1 h.2.dp
theorem pairs_lay : ∀ ps : List (Int × Int), PyData.canLayAll0 (ps.map dpair) = true
  | [] => rfl
  | p :: ps => by
    show (PyData.canLay0 (dpair p) && PyData.canLayAll0 (ps.map dpair)) = true
    rw [pairs_lay ps]
    rfl
theorem row_lay (ps : List (Int × Int)) : PyData.canLay0 (.list (ps.map dpair)) = true := pairs_lay ps
theorem pairs_depth : ∀ ps : List (Int × Int), PyData.depthAll (ps.map dpair) ≤ 1
  | [] => Nat.zero_le _
  | p :: ps => by
    show max (PyData.depth (dpair p)) (PyData.depthAll (ps.map dpair)) ≤ 1
    have h1 := pairs_depth ps
    have h2 : PyData.depth (dpair p) = 1 := rfl
    omega
theorem row_shaped (ps : List (Int × Int)) : SeqAt.shaped (.list (ps.map dpair)) = true := by
  unfold SeqAt.shaped
  rw [row_lay]
  have h : PyData.depth (.list (ps.map dpair)) = PyData.depthAll (ps.map dpair) + 1 := rfl
  have h1 := pairs_depth ps
  rw [h, decide_eq_true (by omega)]
  rfl
/-- the place of the pair that holds on a day, of the first n -/
def bestStep (ps : List (Int × Int)) (day : Int) (b : Option Nat) (i : Nat) : Option Nat := match b with
  | none => if (ps.getD i (0, 0)).1 ≤ day then some i else none
  | some j => if (ps.getD i (0, 0)).1 ≤ day ∧ (ps.getD j (0, 0)).1 ≤ (ps.getD i (0, 0)).1 then some i else some j
def bestN (ps : List (Int × Int)) (day : Int) : Nat → Option Nat
  | 0 => none
  | n + 1 => bestStep ps day (bestN ps day n) n
def best (ps : List (Int × Int)) (day : Int) : Option Nat := bestN ps day ps.length
theorem bestN_lt {ps : List (Int × Int)} {day : Int} : ∀ {n j : Nat}, bestN ps day n = some j → j < n
  | 0, j, h => by cases h
  | n + 1, j, h => by
    unfold bestN at h
    cases e : bestN ps day n with
    | none =>
      rw [e] at h
      unfold bestStep at h
      dsimp only at h
      split at h
      · cases h; omega
      · cases h
    | some i =>
      rw [e] at h
      unfold bestStep at h
      dsimp only at h
      have := bestN_lt e
      split at h <;> (cases h; omega)
theorem best_lt {ps : List (Int × Int)} {day : Int} {j : Nat} (h : best ps day = some j) : j < ps.length := bestN_lt h
def heldV (ps : List (Int × Int)) (day : Int) : Option Int := (best ps day).map fun j => (ps.getD j (0, 0)).2
/-- the pair, the value, as Python has them -/
def pairV (as : List Addr) : Option Nat → V
  | none => .non
  | some j => .ref (as.getD j 0)
def optV : Option Int → V
  | none => .non
  | some i => .int i
theorem getD_of {α : Type} {l : List α} {i : Nat} {x d : α} (h : l[i]? = some x) : l.getD i d = x := by rw [List.getD, h]; rfl
def sp_pair_held (K : PySem.W.Frag) : Sp := fun vs H Q _ => ∃ l day as ps, vs = [.ref l, .int day] ∧ RowAt K H l as ps ∧ Q (pairV as (best ps day)) H
def sp_held (K : PySem.W.Frag) : Sp := fun vs H Q _ => ∃ l day as ps, vs = [.ref l, .int day] ∧ RowAt K H l as ps ∧ Q (optV (heldV ps day)) H
/-! ### which pair holds, told by the last pairs of each first -/
theorem bestN_some {ps : List (Int × Int)} {day : Int} : ∀ {n j : Nat}, bestN ps day n = some j → (ps.getD j (0, 0)).1 ≤ day ∧ ∀ i, i < n → (ps.getD i (0, 0)).1 ≤ day → (ps.getD i (0, 0)).1 ≤ (ps.getD j (0, 0)).1 ∧ ((ps.getD i (0, 0)).1 = (ps.getD j (0, 0)).1 → i ≤ j)
  | 0, j, h => by cases h
  | n + 1, j, h => by
    unfold bestN at h
    cases e : bestN ps day n with
    | none =>
      rw [e] at h
      unfold bestStep at h
      dsimp only at h
      have hn := @bestN_none ps day n e
      split at h
      · cases h
        rename_i c
        refine ⟨c, fun i hi c2 => ?_⟩
        by_cases q : i = n
        · subst q; exact ⟨Int.le_refl _, fun _ => Nat.le_refl _⟩
        · exact absurd c2 (by have := hn i (by omega); omega)
      · cases h
    | some b =>
      rw [e] at h
      unfold bestStep at h
      dsimp only at h
      obtain ⟨b1, b2⟩ := bestN_some e
      have bl := bestN_lt e
      split at h
      · cases h
        rename_i c
        refine ⟨c.1, fun i hi c2 => ?_⟩
        by_cases q : i = n
        · subst q; exact ⟨Int.le_refl _, fun _ => Nat.le_refl _⟩
        · have z := b2 i (by omega) c2
          exact ⟨by omega, fun _ => by omega⟩
      · cases h
        rename_i c
        refine ⟨b1, fun i hi c2 => ?_⟩
        by_cases q : i = n
        · subst q
          have : ¬ (ps.getD j (0, 0)).1 ≤ (ps.getD i (0, 0)).1 := fun z => c ⟨c2, z⟩
          exact ⟨by omega, fun _ => by omega⟩
        · exact b2 i (by omega) c2
where
  bestN_none {ps : List (Int × Int)} {day : Int} : ∀ {n : Nat}, bestN ps day n = none → ∀ i, i < n → day < (ps.getD i (0, 0)).1
  | 0, _, i, hi => absurd hi (Nat.not_lt_zero i)
  | n + 1, h, i, hi => by
    unfold bestN at h
    cases e : bestN ps day n with
    | none =>
      rw [e] at h
      unfold bestStep at h
      dsimp only at h
      split at h
      · cases h
      · rename_i c
        by_cases q : i = n
        · subst q; omega
        · exact bestN_none e i (by omega)
    | some b =>
      rw [e] at h
      unfold bestStep at h
      dsimp only at h
      split at h <;> cases h
def bestN_none {ps : List (Int × Int)} {day : Int} {n : Nat} (h : bestN ps day n = none) : ∀ i, i < n → day < (ps.getD i (0, 0)).1 := bestN_some.bestN_none h
/-- the pair that holds -/
def pairH (ps : List (Int × Int)) (day : Int) : Option (Int × Int) := (best ps day).map fun j => ps.getD j (0, 0)
theorem heldV_pair (ps : List (Int × Int)) (day : Int) : heldV ps day = (pairH ps day).map (·.2) := by
  unfold heldV pairH
  cases best ps day <;> rfl
/-- the pairs that a dict keeps of a row -/
def dput (q : List (Int × Int)) (p : Int × Int) : List (Int × Int) := if q.any (fun x => decide (x.1 = p.1)) then q.map (fun x => if x.1 = p.1 then p else x) else q ++ [p]
def dlast (ps : List (Int × Int)) : List (Int × Int) := ps.foldl dput []
theorem dlast_snoc (ps : List (Int × Int)) (p : Int × Int) : dlast (ps ++ [p]) = dput (dlast ps) p := by rw [dlast, List.foldl_append]; rfl
theorem mem_dput {q : List (Int × Int)} {p x : Int × Int} : x ∈ dput q p ↔ x = p ∨ (x.1 ≠ p.1 ∧ x ∈ q) := by
  unfold dput
  by_cases h : q.any (fun x => decide (x.1 = p.1)) = true
  · rw [if_pos h, List.mem_map]
    constructor
    · rintro ⟨y, hy, e⟩
      split at e
      · exact .inl e.symm
      · rename_i c
        subst e
        exact .inr ⟨c, hy⟩
    · rintro (rfl | ⟨c, hx⟩)
      · obtain ⟨y, hy, e⟩ := List.any_eq_true.mp h
        exact ⟨y, hy, if_pos (of_decide_eq_true e)⟩
      · exact ⟨x, hx, if_neg c⟩
  · rw [if_neg h, List.mem_append, List.mem_singleton]
    constructor
    · rintro (hx | rfl)
      · refine .inr ⟨fun c => h (List.any_eq_true.mpr ⟨x, hx, decide_eq_true c⟩), hx⟩
      · exact .inl rfl
    · rintro (rfl | ⟨_, hx⟩)
      · exact .inr rfl
      · exact .inl hx
theorem dput_nodup {q : List (Int × Int)} {p : Int × Int} (h : (q.map (·.1)).Nodup) : ((dput q p).map (·.1)).Nodup := by
  unfold dput
  by_cases c : q.any (fun x => decide (x.1 = p.1)) = true
  · rw [if_pos c, List.map_map]
    have e : ((fun x : Int × Int => x.1) ∘ fun x => if x.1 = p.1 then p else x) = fun x => x.1 := by
      funext x
      show (if x.1 = p.1 then p else x).1 = x.1
      split
      · rename_i z; exact z.symm
      · rfl
    rw [e]
    exact h
  · rw [if_neg c, List.map_append]
    refine List.nodup_append.mpr ⟨h, by simp, fun a ha b hb => ?_⟩
    rintro rfl
    obtain ⟨x, hx, e⟩ := List.mem_map.mp ha
    have hb' : a = p.1 := by simpa using hb
    exact c (List.any_eq_true.mpr ⟨x, hx, decide_eq_true (e.trans hb')⟩)
theorem dput_len {q : List (Int × Int)} {p : Int × Int} : (dput q p).length ≤ q.length + 1 := by
  unfold dput
  split
  · rw [List.length_map]; omega
  · rw [List.length_append]; exact Nat.le_refl _
theorem dlast_take {ps : List (Int × Int)} {i : Nat} {p : Int × Int} (h : ps[i]? = some p) : dlast (ps.take (i + 1)) = dput (dlast (ps.take i)) p := by
  rw [List.take_add_one, h]
  exact dlast_snoc _ _
theorem dlast_nodup (ps : List (Int × Int)) : ∀ n, ((dlast (ps.take n)).map (·.1)).Nodup
  | 0 => by simp [dlast]
  | n + 1 => by
    cases h : ps[n]? with
    | none => rw [List.take_add_one, h]; simpa using dlast_nodup ps n
    | some p => rw [dlast_take h]; exact dput_nodup (dlast_nodup ps n)
theorem dlast_len (ps : List (Int × Int)) : ∀ n, (dlast (ps.take n)).length ≤ n
  | 0 => by simp [dlast]
  | n + 1 => by
    cases h : ps[n]? with
    | none => rw [List.take_add_one, h]; have := dlast_len ps n; simpa using (by omega : (dlast (ps.take n)).length ≤ n + 1)
    | some p => rw [dlast_take h]; exact Nat.le_trans dput_len (by have := dlast_len ps n; omega)
theorem mem_dlast {ps : List (Int × Int)} {x : Int × Int} : ∀ n, x ∈ dlast (ps.take n) ↔ ∃ j, j < n ∧ ps[j]? = some x ∧ ∀ i p, j < i → i < n → ps[i]? = some p → p.1 ≠ x.1
  | 0 => by simp [dlast]
  | n + 1 => by
    have ih := mem_dlast (ps := ps) (x := x) n
    cases h : ps[n]? with
    | none =>
      rw [List.take_add_one, h]
      simp only [Option.toList_none, List.append_nil]
      rw [ih]
      have hn : ps.length ≤ n := List.getElem?_eq_none_iff.mp h
      constructor
      · rintro ⟨j, h1, h2, h3⟩
        refine ⟨j, by omega, h2, fun i p a b c => h3 i p a ?_ c⟩
        have := (List.getElem?_eq_some_iff.mp c).1
        omega
      · rintro ⟨j, h1, h2, h3⟩
        have := (List.getElem?_eq_some_iff.mp h2).1
        exact ⟨j, by omega, h2, fun i p a b c => h3 i p a (by omega) c⟩
    | some p =>
      rw [dlast_take h, mem_dput, ih]
      constructor
      · rintro (rfl | ⟨c, j, h1, h2, h3⟩)
        · exact ⟨n, by omega, h, fun i p a b _ => absurd a (by omega)⟩
        · refine ⟨j, by omega, h2, fun i p' a b q => ?_⟩
          by_cases e : i = n
          · subst e
            rw [h] at q
            cases q
            exact fun z => c z.symm
          · exact h3 i p' a (by omega) q
      · rintro ⟨j, h1, h2, h3⟩
        by_cases e : j = n
        · subst e
          rw [h] at h2
          cases h2
          exact .inl rfl
        · exact .inr ⟨fun z => h3 n p (by omega) (by omega) h z.symm, j, by omega, h2, fun i p' a b q => h3 i p' a (by omega) q⟩
theorem dlast_all (ps : List (Int × Int)) : dlast (ps.take ps.length) = dlast ps := by rw [List.take_length]
theorem mem_row {ps : List (Int × Int)} {x : Int × Int} (h : x ∈ dlast ps) : x ∈ ps := by
  rw [← dlast_all, mem_dlast] at h
  obtain ⟨j, _, h2, _⟩ := h
  exact List.mem_of_getElem? h2
theorem pairH_some {ps : List (Int × Int)} {day : Int} {x : Int × Int} (h : pairH ps day = some x) : x ∈ dlast ps ∧ x.1 ≤ day ∧ ∀ y, y ∈ ps → y.1 ≤ day → y.1 ≤ x.1 := by
  unfold pairH at h
  cases e : best ps day with
  | none => rw [e] at h; cases h
  | some j =>
    rw [e] at h
    have h' : ps.getD j (0, 0) = x := Option.some.inj h
    have hl := best_lt e
    obtain ⟨h1, h2⟩ := bestN_some e
    have hx : ps[j]? = some x := by rw [← h', List.getD, List.getElem?_eq_getElem hl]; rfl
    rw [h'] at h1 h2
    refine ⟨?_, h1, fun y hy c => ?_⟩
    · rw [← dlast_all, mem_dlast]
      refine ⟨j, hl, hx, fun i p a b c z => ?_⟩
      have gp : ps.getD i (0, 0) = p := getD_of c
      have q := h2 i b (by rw [gp]; omega)
      rw [gp] at q
      have := q.2 z
      omega
    · obtain ⟨i, hi⟩ := List.mem_iff_getElem?.mp hy
      have gp : ps.getD i (0, 0) = y := getD_of hi
      have q := h2 i (List.getElem?_eq_some_iff.mp hi).1 (by rw [gp]; exact c)
      rw [gp] at q
      exact q.1
theorem pairH_none {ps : List (Int × Int)} {day : Int} (h : pairH ps day = none) : ∀ y, y ∈ ps → day < y.1 := by
  intro y hy
  unfold pairH at h
  cases e : best ps day with
  | some j => rw [e] at h; cases h
  | none =>
    obtain ⟨i, hi⟩ := List.mem_iff_getElem?.mp hy
    have gp : ps.getD i (0, 0) = y := getD_of hi
    have q := bestN_none e i (List.getElem?_eq_some_iff.mp hi).1
    rw [gp] at q
    exact q
/-- of pairs by falling firsts the first one that has begun -/
def holdR : List (Int × Int) → Int → Option (Int × Int)
  | [], _ => none
  | p :: r, d => if p.1 ≤ d then some p else holdR r d
theorem holdR_none {d : Int} : ∀ {R : List (Int × Int)}, (∀ x, x ∈ R → d < x.1) → holdR R d = none
  | [], _ => rfl
  | p :: r, h => by
    rw [holdR, if_neg (by have := h p (List.mem_cons_self ..); omega)]
    exact holdR_none fun x hx => h x (List.mem_cons_of_mem _ hx)
theorem holdR_some {d : Int} {p : Int × Int} : ∀ {R : List (Int × Int)}, R.Pairwise (fun x y => y.1 < x.1) → p ∈ R → p.1 ≤ d → (∀ x, x ∈ R → x.1 ≤ d → x.1 ≤ p.1) → holdR R d = some p
  | [], _, h, _, _ => by cases h
  | x :: r, hs, hm, hd, h => by
    obtain ⟨s1, s2⟩ := List.pairwise_cons.mp hs
    by_cases c : x.1 ≤ d
    · rw [holdR, if_pos c]
      have q := h x (List.mem_cons_self ..) c
      rcases List.mem_cons.mp hm with e | hr
      · rw [e]
      · have := s1 p hr
        omega
    · rw [holdR, if_neg c]
      rcases List.mem_cons.mp hm with e | hr
      · rw [e] at hd; exact absurd hd c
      · exact holdR_some s2 hr hd fun y hy => h y (List.mem_cons_of_mem _ hy)
structure Desc (R ps : List (Int × Int)) : Prop where
  fall : R.Pairwise (fun x y => y.1 < x.1)
  mem : ∀ x, x ∈ R ↔ x ∈ dlast ps
theorem Desc.hold {R ps : List (Int × Int)} (h : Desc R ps) (d : Int) : holdR R d = pairH ps d := by
  cases e : pairH ps d with
  | none => exact holdR_none fun x hx => pairH_none e x (mem_row ((h.mem x).mp hx))
  | some p =>
    obtain ⟨h1, h2, h3⟩ := pairH_some e
    exact holdR_some h.fall ((h.mem p).mpr h1) h2 fun x hx => h3 x (mem_row ((h.mem x).mp hx))
/-! ### sums over days -/
def isum (f : Int → Int) (a : Int) : Nat → Int
  | 0 => 0
  | n + 1 => isum f a n + f (a + n)
def dsum (f : Int → Int) (a b : Int) : Int := isum f a (b + 1 - a).toNat
theorem isum_congr {f g : Int → Int} {a : Int} : ∀ {n : Nat}, (∀ i : Nat, i < n → f (a + i) = g (a + i)) → isum f a n = isum g a n
  | 0, _ => rfl
  | n + 1, h => by rw [isum, isum, isum_congr (n := n) (fun i hi => h i (by omega)), h n (by omega)]
theorem isum_add {f : Int → Int} {a : Int} (m : Nat) : ∀ n : Nat, isum f a (m + n) = isum f a m + isum f (a + m) n
  | 0 => by simp [isum]
  | n + 1 => by
    rw [← Nat.add_assoc, isum, isum, isum_add m n, show a + ((m + n : Nat) : Int) = a + m + n by omega]
    omega
theorem dsum_empty {f : Int → Int} {a b : Int} (h : b < a) : dsum f a b = 0 := by rw [dsum, show (b + 1 - a).toNat = 0 by omega]; rfl
theorem dsum_congr {f g : Int → Int} {a b : Int} (h : ∀ d, a ≤ d → d ≤ b → f d = g d) : dsum f a b = dsum g a b := isum_congr fun i hi => h _ (by omega) (by omega)
theorem dsum_split {f : Int → Int} {a b : Int} (c : Int) (h1 : a ≤ c) (h2 : c ≤ b + 1) : dsum f a b = dsum f a (c - 1) + dsum f c b := by
  have h := isum_add (f := f) (a := a) (c - a).toNat (b + 1 - c).toNat
  rw [show a + ((c - a).toNat : Int) = c by omega, show (c - a).toNat + (b + 1 - c).toNat = (b + 1 - a).toNat by omega] at h
  rw [dsum, h, dsum, dsum, show c - 1 + 1 - a = c - a by omega]
theorem dsum_const {k a b : Int} (h : a ≤ b + 1) : dsum (fun _ => k) a b = k * (b - a + 1) := by
  have key : ∀ n : Nat, isum (fun _ => k) a n = k * n := by
    intro n
    induction n with
    | zero => simp [isum]
    | succ n ih => rw [isum, ih, Int.natCast_succ, Int.mul_add]; omega
  rw [dsum, key, show ((b + 1 - a).toNat : Int) = b - a + 1 by omega]
theorem dsum_zero {a b : Int} : dsum (fun _ => 0) a b = 0 := by
  by_cases h : a ≤ b + 1
  · rw [dsum_const h, Int.zero_mul]
  · exact dsum_empty (by omega)
theorem dsum_succ {f : Int → Int} {a b : Int} (h : a ≤ b + 1) : dsum f a (b + 1) = dsum f a b + f (b + 1) := by
  rw [dsum_split (b + 1) h (by omega), show b + 1 - 1 = b by omega]
  have : dsum f (b + 1) (b + 1) = f (b + 1) := by
    rw [dsum, show (b + 1 + 1 - (b + 1)).toNat = 1 by omega, isum, isum, show b + 1 + ((0 : Nat) : Int) = b + 1 by omega]
    omega
  rw [this]
theorem dsum_one {f : Int → Int} {a : Int} : dsum f a a = f a := by
  rw [dsum, show (a + 1 - a).toNat = 1 by omega, isum, isum, show a + ((0 : Nat) : Int) = a by omega]
  omega
theorem dsum_nonneg {f : Int → Int} {a b : Int} (h : ∀ d, a ≤ d → d ≤ b → 0 ≤ f d) : 0 ≤ dsum f a b := by
  have key : ∀ n : Nat, (∀ i : Nat, i < n → 0 ≤ f (a + i)) → 0 ≤ isum f a n := by
    intro n
    induction n with
    | zero => intro _; exact Int.le_refl _
    | succ n ih => intro h; have h1 := ih (fun i hi => h i (by omega)); have h2 := h n (by omega); rw [isum]; omega
  exact key _ fun i hi => h _ (by omega) (by omega)
/-! ### spans -/
abbrev Span := Int × Int × Int × Int
def mx (a b : Int) : Int := if b > a then b else a
def spanR : List (Int × Int) → Int → Int → List Span
  | [], _, _ => []
  | p :: r, f, e => if mx p.1 f ≤ e then (mx p.1 f, e, p) :: spanR r f (mx p.1 f - 1) else spanR r f e
theorem mx_le {a b : Int} : a ≤ mx a b ∧ b ≤ mx a b ∧ (mx a b = a ∨ mx a b = b) := by
  unfold mx
  split <;> omega
theorem spanR_in {s : Span} : ∀ {R : List (Int × Int)} {f e : Int}, s ∈ spanR R f e → f ≤ s.1 ∧ s.1 ≤ s.2.1 ∧ s.2.1 ≤ e ∧ s.2.2 ∈ R ∧ s.2.2.1 ≤ s.1
  | [], _, _, h => by cases h
  | p :: r, f, e, h => by
    have m := mx_le (a := p.1) (b := f)
    rw [spanR] at h
    split at h
    · rename_i c
      rcases List.mem_cons.mp h with rfl | h
      · exact ⟨by dsimp only; omega, by dsimp only; omega, by dsimp only; omega, List.mem_cons_self .., by dsimp only; omega⟩
      · obtain ⟨h1, h2, h3, h4, h5⟩ := spanR_in h
        exact ⟨h1, h2, by omega, List.mem_cons_of_mem _ h4, h5⟩
    · obtain ⟨h1, h2, h3, h4, h5⟩ := spanR_in h
      exact ⟨h1, h2, h3, List.mem_cons_of_mem _ h4, h5⟩
def sumS (G : Int × Int → Int → Int) (l : List Span) : Int := (l.map fun s => dsum (G s.2.2) s.1 s.2.1).sum
theorem sumS_cons (G : Int × Int → Int → Int) (s : Span) (l : List Span) : sumS G (s :: l) = dsum (G s.2.2) s.1 s.2.1 + sumS G l := by rw [sumS, List.map_cons, List.sum_cons]; rfl
theorem sumS_snoc (G : Int × Int → Int → Int) (s : Span) (l : List Span) : sumS G (l ++ [s]) = sumS G l + dsum (G s.2.2) s.1 s.2.1 := by rw [sumS, List.map_append, List.sum_append]; simp [sumS]
theorem sumS_rev (G : Int × Int → Int → Int) : ∀ l : List Span, sumS G l.reverse = sumS G l
  | [] => rfl
  | s :: l => by rw [List.reverse_cons, sumS_snoc, sumS_rev G l, sumS_cons]; omega
def holdG (G : Int × Int → Int → Int) (o : Option (Int × Int)) (d : Int) : Int := match o with
  | none => 0
  | some p => G p d
theorem span_sum (G : Int × Int → Int → Int) : ∀ (R : List (Int × Int)) (f e : Int), R.Pairwise (fun x y => y.1 < x.1) → sumS G (spanR R f e) = dsum (fun d => holdG G (holdR R d) d) f e
  | [], f, e, _ => by
    rw [spanR, sumS]
    exact dsum_zero.symm
  | p :: r, f, e, hs => by
    obtain ⟨s1, s2⟩ := List.pairwise_cons.mp hs
    have m := mx_le (a := p.1) (b := f)
    rw [spanR]
    split
    · rename_i c
      rw [sumS_cons, span_sum G r _ _ s2, dsum_split (f := fun d => holdG G (holdR (p :: r) d) d) (mx p.1 f) m.2.1 (by omega)]
      have e1 : dsum (fun d => holdG G (holdR (p :: r) d) d) (mx p.1 f) e = dsum (G p) (mx p.1 f) e := dsum_congr fun d h1 h2 => by
        rw [holdR, if_pos (by omega)]
        rfl
      have e2 : dsum (fun d => holdG G (holdR (p :: r) d) d) f (mx p.1 f - 1) = dsum (fun d => holdG G (holdR r d) d) f (mx p.1 f - 1) := dsum_congr fun d h1 h2 => by
        rw [holdR, if_neg (by omega)]
      rw [e1, e2]
      show dsum (G p) (mx p.1 f) e + _ = _
      omega
    · rename_i c
      rw [span_sum G r _ _ s2]
      refine dsum_congr fun d h1 h2 => ?_
      rw [holdR, if_neg (by omega)]
theorem span_sumH (G : Int × Int → Int → Int) {R ps : List (Int × Int)} (h : Desc R ps) (f e : Int) : sumS G (spanR R f e) = dsum (fun d => holdG G (pairH ps d) d) f e := by
  rw [span_sum G R f e h.fall]
  exact dsum_congr fun d _ _ => by rw [h.hold]
theorem sumS_take {G : Int × Int → Int → Int} {L : List Span} {i : Nat} {s : Span} (h : L[i]? = some s) : sumS G (L.take (i + 1)) = sumS G (L.take i) + dsum (G s.2.2) s.1 s.2.1 := by
  rw [List.take_add_one, h]
  exact sumS_snoc G s _
theorem sumS_nil (G : Int × Int → Int → Int) : sumS G [] = 0 := rfl
theorem span_at {R : List (Int × Int)} {f e : Int} {i : Nat} {s : Span} (h : (spanR R f e).reverse[i]? = some s) : s ∈ spanR R f e := List.mem_reverse.mp (List.mem_of_getElem? h)

/-- the spans, as they stand in a list -/
inductive Sps (K : PySem.W.Frag) (H : Hp) : List Addr → List Span → Prop
  | nil : Sps K H [] []
  | cons {a p : Addr} {s : Span} {as : List Addr} {ss : List Span} : SqT K H a [.int s.1, .int s.2.1, .ref p] → SqT K H p [.int s.2.2.1, .int s.2.2.2] → Sps K H as ss → Sps K H (a :: as) (s :: ss)
theorem Sps.len {K : PySem.W.Frag} {H : Hp} : ∀ {as : List Addr} {ss : List Span}, Sps K H as ss → as.length = ss.length
  | _, _, .nil => rfl
  | _, _, .cons _ _ t => by simp [Sps.len t]
theorem Sps.same {K : PySem.W.Frag} {H H' : Hp} (e : Same H H') : ∀ {as : List Addr} {ss : List Span}, Sps K H as ss → Sps K H' as ss
  | _, _, .nil => .nil
  | _, _, .cons h1 h2 t => .cons (same_sqT e h1) (same_sqT e h2) (Sps.same e t)
theorem Sps.mut {K : PySem.W.Frag} {H : Hp} {l : Addr} {xs : List V} {o : HO} (hl : H l = some (.lst xs)) : ∀ {as : List Addr} {ss : List Span}, Sps K H as ss → Sps K (upd H l o) as ss
  | _, _, .nil => .nil
  | _, _, .cons h1 h2 t => .cons (sqT_mut hl h1) (sqT_mut hl h2) (Sps.mut hl t)
theorem Sps.append {K : PySem.W.Frag} {H : Hp} {bs : List Addr} {qs : List Span} (t2 : Sps K H bs qs) : ∀ {as : List Addr} {ss : List Span}, Sps K H as ss → Sps K H (as ++ bs) (ss ++ qs)
  | _, _, .nil => t2
  | _, _, .cons h1 h2 t => .cons h1 h2 (Sps.append t2 t)
theorem Sps.get {K : PySem.W.Frag} {H : Hp} : ∀ {as : List Addr} {ss : List Span} {i : Nat} {s : Span}, Sps K H as ss → ss[i]? = some s → ∃ a p, as[i]? = some a ∧ SqT K H a [.int s.1, .int s.2.1, .ref p] ∧ SqT K H p [.int s.2.2.1, .int s.2.2.2]
  | _, _, 0, s, .cons h1 h2 _, e => by simp at e; subst e; exact ⟨_, _, rfl, h1, h2⟩
  | _, _, i + 1, s, .cons _ _ t, e => by obtain ⟨a, p, h1, h2, h3⟩ := Sps.get (i := i) t (by simpa using e); exact ⟨a, p, by simpa using h1, h2, h3⟩
  | _, _, _, _, .nil, e => by simp at e
theorem Sps.rev {K : PySem.W.Frag} {H : Hp} : ∀ {as : List Addr} {ss : List Span}, Sps K H as ss → Sps K H as.reverse ss.reverse
  | _, _, .nil => .nil
  | _, _, .cons h1 h2 t => by rw [List.reverse_cons, List.reverse_cons]; exact Sps.append (.cons h1 h2 .nil) (Sps.rev t)
theorem putK_int (q : List (Int × Int)) (p : Int × Int) : putK (q.map entI) (Sum.inl p.1 : Key) (V.int p.2) = (dput q p).map entI := by
  unfold putK dput
  have e : ((q.map entI).any fun kv => decide (kv.1 = (Sum.inl p.1 : Key))) = q.any fun x => decide (x.1 = p.1) := by
    rw [List.any_map]
    congr 1
    funext x
    show decide ((Sum.inl x.1 : Key) = Sum.inl p.1) = decide (x.1 = p.1)
    simp
  rw [e]
  split
  · rw [List.map_map, List.map_map]
    refine List.map_congr_left fun x _ => ?_
    show (if (Sum.inl x.1 : Key) = Sum.inl p.1 then (Sum.inl x.1, V.int p.2) else (Sum.inl x.1, V.int x.2)) = entI (if x.1 = p.1 then p else x)
    by_cases c : x.1 = p.1
    · rw [if_pos (by rw [c]), if_pos c, c]; rfl
    · rw [if_neg (by simpa using c), if_neg c]; rfl
  · rw [List.map_append]; rfl
def sp_in_order (K : PySem.W.Frag) : Sp := fun vs H Q _ => ∃ l as ps, vs = [.ref l] ∧ RowAt K H l as ps ∧ ps.length ≤ 10000 ∧
  ∀ H' l' ts qs, Same H H' → H l' = none → H' l' = some (.lst (ts.map .ref)) → Prs K H' ts qs → Desc qs.reverse ps → qs.length ≤ ps.length → Q (.ref l') H'
def sp_spans (K : PySem.W.Frag) : Sp := fun vs H Q _ => ∃ l as ps f e, vs = [.ref l, .int f, .int e] ∧ RowAt K H l as ps ∧ ps.length ≤ 10000 ∧
  ∀ H' l' ts R, Same H H' → H l' = none → H' l' = some (.lst (ts.map .ref)) → Desc R ps → Sps K H' ts (spanR R f e).reverse → Q (.ref l') H'
theorem prs_of {K : PySem.W.Frag} {H : Hp} : ∀ {ts : List Addr} {qs : List (Int × Int)}, Paired (fun (t : Addr) (q : Int × Int) => H t = some (.tup [.int q.1, .int q.2])) ts qs → Prs K H ts qs
  | _, _, .nil => .nil
  | _, _, .cons h t => .cons (SqT.of h) (prs_of t)
def sp_l_mix : Sp := fun vs H Q _ => ∃ n k, vs = [.int n, .int k] ∧ ∀ z, 0 ≤ z → z < 999983 → Q (.int z) H
def sp_l_base : Sp := fun vs H Q _ => ∃ c, vs = [.int c] ∧ ∀ b, 0 ≤ b → b ≤ 99600 → ∀ H', Same H H' → Q (.int b) H'
def sp_l_held (K : PySem.W.Frag) : Sp := sp_pair_held K
theorem RowAt.pair {K : PySem.W.Frag} {H : Hp} {l : Addr} {as : List Addr} {ps : List (Int × Int)} {j : Nat} {b p : Int} (h : RowAt K H l as ps) (e : ps[j]? = some (b, p)) : ∃ a, pairV as (some j) = .ref a ∧ SqT K H a [.int b, .int p] := by
  obtain ⟨a, h1, h2⟩ := h.2.get e
  exact ⟨a, by show V.ref (as.getD j 0) = _; rw [getD_of h1], h2⟩
theorem cutTo1 (xs : List V) : cutV xs none (some 1) = xs.take 1 := by
  unfold cutV
  rw [HT.sIx_none, show HT.sIx xs.length xs.length (some 1) = min 1 xs.length from HT.sIx_nat xs.length xs.length 1]
  cases xs with
  | nil => rfl
  | cons x r =>
    have e : min 1 (x :: r).length = 1 := by simp
    rw [e]
    simp
theorem Prs.take1 {K : PySem.W.Frag} {H : Hp} {as : List Addr} {ps : List (Int × Int)} (h : Prs K H as ps) : Prs K H (as.take 1) (ps.take 1) := by
  cases h with
  | nil => exact .nil
  | cons h t => exact .cons h .nil
def dtwo (ps qs : List (Int × Int)) : PyData := .tuple [.list (ps.map dpair), .list (qs.map dpair)]
theorem two_lay (ps qs : List (Int × Int)) : PyData.canLay0 (dtwo ps qs) = true := by
  show (PyData.canLay0 (.list (ps.map dpair)) && (PyData.canLay0 (.list (qs.map dpair)) && true)) = true
  rw [row_lay, row_lay]
  rfl
theorem two_shaped (ps qs : List (Int × Int)) : SeqAt.shaped (dtwo ps qs) = true := by
  unfold SeqAt.shaped
  rw [two_lay]
  have h : PyData.depth (dtwo ps qs) = max (PyData.depthAll (ps.map dpair) + 1) (max (PyData.depthAll (qs.map dpair) + 1) 0) + 1 := rfl
  have h1 := pairs_depth ps
  have h2 := pairs_depth qs
  rw [h, decide_eq_true (by omega)]
  rfl
theorem two_dp {K : PySem.W.Frag} {H : Hp} {t l1 l2 : Addr} {as bs : List Addr} {ps qs : List (Int × Int)} (ht : SqT K H t [.ref l1, .ref l2]) (h1 : RowL K H l1 as ps) (h2 : RowL K H l2 bs qs) : Dp K H (.ref t) (dtwo ps qs) := .tup ht (.cons h1.dp (.cons h2.dp .nil))
/-- the objects as are tuples that stand in H, pairs of ints ps -/
inductive PrT (H : Hp) : List Addr → List (Int × Int) → Prop
  | nil : PrT H [] []
  | cons {a : Addr} {p : Int × Int} {as : List Addr} {ps : List (Int × Int)} : H a = some (.tup [.int p.1, .int p.2]) → PrT H as ps → PrT H (a :: as) (p :: ps)
theorem PrT.prs {K : PySem.W.Frag} {H : Hp} : ∀ {as : List Addr} {ps : List (Int × Int)}, PrT H as ps → Prs K H as ps
  | _, _, .nil => .nil
  | _, _, .cons h t => .cons (SqT.of h) (PrT.prs t)
theorem PrT.same {H H' : Hp} (e : Same H H') : ∀ {as : List Addr} {ps : List (Int × Int)}, PrT H as ps → PrT H' as ps
  | _, _, .nil => .nil
  | _, _, .cons h t => .cons (e _ _ h) (PrT.same e t)
theorem PrT.mut {H : Hp} {l : Addr} {xs : List V} {o : HO} (hl : H l = some (.lst xs)) : ∀ {as : List Addr} {ps : List (Int × Int)}, PrT H as ps → PrT (upd H l o) as ps
  | _, _, .nil => .nil
  | _, _, .cons h t => .cons (by rw [upd_ne (ne_of h hl (by intro q; cases q))]; exact h) (PrT.mut hl t)
theorem PrT.append {H : Hp} {bs : List Addr} {qs : List (Int × Int)} (t2 : PrT H bs qs) : ∀ {as : List Addr} {ps : List (Int × Int)}, PrT H as ps → PrT H (as ++ bs) (ps ++ qs)
  | _, _, .nil => t2
  | _, _, .cons h t => .cons h (PrT.append t2 t)
theorem PrT.one {H : Hp} {a : Addr} {x y : Int} (h : H a = some (.tup [.int x, .int y])) : PrT H [a] [(x, y)] := .cons h .nil
def kH (H : Hp) : V → Int × Int
  | .ref t => match H t with
    | some (.tup [.int x, .int y]) => (x, y)
    | _ => (0, 0)
  | _ => (0, 0)
theorem kH_at {H : Hp} {t : Addr} {x y : Int} (h : H t = some (.tup [.int x, .int y])) : kH H (.ref t) = (x, y) := by
  show (match H t with
    | some (.tup [.int x, .int y]) => (x, y)
    | _ => (0, 0)) = (x, y)
  rw [h]
theorem PrT.keys {H : Hp} : ∀ {as : List Addr} {ps : List (Int × Int)}, PrT H as ps → (as.map V.ref).map (kH H) = ps
  | _, _, .nil => rfl
  | _, _, .cons h t => by rw [List.map_cons, List.map_cons, kH_at h, PrT.keys t]
theorem PrT.each {H : Hp} : ∀ {as : List Addr} {ps : List (Int × Int)}, PrT H as ps → ∀ x, x ∈ as.map V.ref → ∃ t, x = V.ref t ∧ H t = some (.tup [.int (kH H x).1, .int (kH H x).2])
  | _, _, .nil, x, h => by cases h
  | _, _, .cons h t, x, hx => by
    rw [List.map_cons] at hx
    rcases List.mem_cons.mp hx with e | hx
    · subst e
      exact ⟨_, rfl, by rw [kH_at h]; exact h⟩
    · exact PrT.each t x hx
theorem PrT.of {H : Hp} : ∀ ys : List V, (∀ x, x ∈ ys → ∃ t, x = V.ref t ∧ H t = some (.tup [.int (kH H x).1, .int (kH H x).2])) → ∃ bs : List Addr, ys = bs.map V.ref ∧ PrT H bs (ys.map (kH H))
  | [], _ => ⟨[], rfl, .nil⟩
  | y :: ys, h => by
    obtain ⟨t, e, ht⟩ := h y (List.mem_cons_self ..)
    obtain ⟨bs, e2, hp⟩ := PrT.of ys fun x hx => h x (List.mem_cons_of_mem _ hx)
    exact ⟨t :: bs, by rw [e, e2]; rfl, .cons ht hp⟩
/-- the balance on a day -/
def bal (ms : List (Int × Int)) (d : Int) : Int := ((ms.filter fun p => decide (p.1 ≤ d)).map (·.2)).sum
theorem bal_nil (d : Int) : bal [] d = 0 := rfl
theorem bal_snoc (ms : List (Int × Int)) (p : Int × Int) (d : Int) : bal (ms ++ [p]) d = bal ms d + if p.1 ≤ d then p.2 else 0 := by
  rw [bal, List.filter_append, List.map_append, List.sum_append]
  by_cases c : p.1 ≤ d
  · rw [List.filter_cons_of_pos (by simpa using c), if_pos c]; simp [bal]
  · rw [List.filter_cons_of_neg (by simpa using c), if_neg c]; simp [bal]
theorem sum_perm : ∀ {l m : List Int}, l.Perm m → l.sum = m.sum := by
  intro l m h
  induction h with
  | nil => rfl
  | cons x _ ih => rw [List.sum_cons, List.sum_cons, ih]
  | swap x y l => simp only [List.sum_cons]; omega
  | trans _ _ h1 h2 => exact h1.trans h2
theorem bal_perm {l m : List (Int × Int)} (h : l.Perm m) (d : Int) : bal l d = bal m d := sum_perm ((h.filter _).map _)
theorem bal_all {ms : List (Int × Int)} {d : Int} (h : ∀ p, p ∈ ms → p.1 ≤ d) : bal ms d = (ms.map (·.2)).sum := by
  rw [bal, List.filter_eq_self.mpr fun p hp => by simpa using h p hp]
theorem bal_none {ms : List (Int × Int)} {d : Int} (h : ∀ p, p ∈ ms → d < p.1) : bal ms d = 0 := by
  rw [bal, List.filter_eq_nil_iff.mpr fun p hp => by have := h p hp; simp; omega]
  rfl
/-- behind each move the sum so far -/
def runs : List (Int × Int) → Int → List (Int × Int)
  | [], _ => []
  | m :: r, t => (m.1, t + m.2) :: runs r (t + m.2)
theorem runs_snoc (p : Int × Int) : ∀ (l : List (Int × Int)) (t : Int), runs (l ++ [p]) t = runs l t ++ [(p.1, t + (l.map (·.2)).sum + p.2)]
  | [], t => by simp [runs]
  | m :: r, t => by
    rw [List.cons_append, runs, runs_snoc p r, runs, List.cons_append, List.map_cons, List.sum_cons]
    rw [show t + m.2 + (r.map (·.2)).sum + p.2 = t + (m.2 + (r.map (·.2)).sum) + p.2 by omega]
theorem runs_len : ∀ (l : List (Int × Int)) (t : Int), (runs l t).length = l.length
  | [], _ => rfl
  | m :: r, t => by rw [runs, List.length_cons, runs_len r, List.length_cons]
theorem runs_firsts : ∀ (l : List (Int × Int)) (t : Int), (runs l t).map (·.1) = l.map (·.1)
  | [], _ => rfl
  | m :: r, t => by rw [runs, List.map_cons, runs_firsts r, List.map_cons]
theorem bestN_app (r s : List (Int × Int)) (d : Int) : ∀ n, n ≤ r.length → bestN (r ++ s) d n = bestN r d n
  | 0, _ => rfl
  | n + 1, h => by
    have g : ∀ i, i < r.length → (r ++ s).getD i (0, 0) = r.getD i (0, 0) := fun i hi => by rw [List.getD, List.getD, List.getElem?_append_left hi]
    rw [bestN, bestN, bestN_app r s d n (by omega)]
    cases e : bestN r d n with
    | none => unfold bestStep; dsimp only; rw [g n (by omega)]
    | some j =>
      have hj := bestN_lt e
      unfold bestStep
      dsimp only
      rw [g n (by omega), g j (by omega)]
theorem pairH_snoc {r : List (Int × Int)} {p : Int × Int} {d : Int} (h : ∀ x, x ∈ r → x.1 ≤ p.1) : pairH (r ++ [p]) d = if p.1 ≤ d then some p else pairH r d := by
  have hl : (r ++ [p]).length = r.length + 1 := by rw [List.length_append]; rfl
  have gp : (r ++ [p]).getD r.length (0, 0) = p := by rw [List.getD, List.getElem?_append_right (Nat.le_refl _), Nat.sub_self]; rfl
  have g : ∀ i, i < r.length → (r ++ [p]).getD i (0, 0) = r.getD i (0, 0) := fun i hi => by rw [List.getD, List.getD, List.getElem?_append_left hi]
  unfold pairH best
  rw [hl, bestN, bestN_app r [p] d r.length (Nat.le_refl _)]
  cases e : bestN r d r.length with
  | none =>
    unfold bestStep
    dsimp only
    rw [gp]
    split
    · rw [Option.map_some, gp]
    · rfl
  | some j =>
    have hj := bestN_lt e
    have hx : r.getD j (0, 0) ∈ r := by rw [List.getD, List.getElem?_eq_getElem hj]; exact List.getElem_mem hj
    unfold bestStep
    dsimp only
    rw [gp, g j hj]
    have hh := h _ hx
    by_cases c : p.1 ≤ d
    · rw [if_pos ⟨c, hh⟩, if_pos c, Option.map_some, gp]
    · rw [if_neg (fun z => c z.1), if_neg c, Option.map_some, Option.map_some, g j hj]
theorem runs_hold {qs : List (Int × Int)} (hs : qs.Pairwise (fun x y => x.1 ≤ y.1)) (d : Int) : ∀ n, n ≤ qs.length → ((pairH (runs (qs.take n) 0) d).map (·.2)).getD 0 = bal (qs.take n) d
  | 0, _ => rfl
  | n + 1, h => by
    have hn : qs[n]? = some qs[n] := List.getElem?_eq_getElem (by omega)
    have ih := runs_hold hs d n (by omega)
    have hle : ∀ x, x ∈ qs.take n → x.1 ≤ (qs[n]).1 := by
      intro x hx
      obtain ⟨i, hi⟩ := List.mem_iff_getElem?.mp hx
      obtain ⟨hi1, hi2⟩ := List.getElem?_eq_some_iff.mp hi
      rw [List.getElem_take] at hi2
      rw [List.length_take] at hi1
      rw [← hi2]
      exact List.pairwise_iff_getElem.mp hs i n (by omega) (by omega) (by omega)
    rw [List.take_add_one, hn]
    show ((pairH (runs (qs.take n ++ [qs[n]]) 0) d).map (·.2)).getD 0 = bal (qs.take n ++ [qs[n]]) d
    rw [runs_snoc, pairH_snoc, bal_snoc]
    · dsimp only
      by_cases c : (qs[n]).1 ≤ d
      · rw [if_pos c, if_pos c, bal_all (fun p hp => Int.le_trans (hle p hp) c)]
        simp
      · rw [if_neg c, if_neg c, ih]
        omega
    · intro x hx
      have : x.1 ∈ (runs (qs.take n) 0).map (·.1) := List.mem_map.mpr ⟨x, hx, rfl⟩
      rw [runs_firsts] at this
      obtain ⟨y, hy, e⟩ := List.mem_map.mp this
      rw [← e]
      exact hle y hy
theorem runs_holds {qs : List (Int × Int)} (hs : qs.Pairwise (fun x y => x.1 ≤ y.1)) (d : Int) : ((pairH (runs qs 0) d).map (·.2)).getD 0 = bal qs d := by
  have h := runs_hold hs d qs.length (Nat.le_refl _)
  rw [List.take_length] at h
  exact h
/-- rates: within their bounds, one from day 0 on -/
def RatesOk (ps : List (Int × Int)) : Prop := (∀ p, p ∈ ps → 0 ≤ p.1 ∧ 0 ≤ p.2 ∧ p.2 ≤ 10000) ∧ ∃ g r, ps = (0, g) :: r
theorem RatesOk.held {ps : List (Int × Int)} (h : RatesOk ps) {d : Int} (h0 : 0 ≤ d) : ∃ j b p, best ps d = some j ∧ ps[j]? = some (b, p) ∧ heldV ps d = some p ∧ pairH ps d = some (b, p) ∧ 0 ≤ p ∧ p ≤ 10000 := by
  cases e : best ps d with
  | none =>
    obtain ⟨g, r, h1⟩ := h.2
    have := pairH_none (ps := ps) (day := d) (by rw [pairH, e]; rfl) (0, g) (by rw [h1]; exact List.mem_cons_self ..)
    dsimp only at this
    omega
  | some j =>
    have hl := best_lt e
    have hx : ps[j]? = some ps[j] := List.getElem?_eq_getElem hl
    have g : ps.getD j (0, 0) = ps[j] := getD_of hx
    have b := h.1 _ (List.mem_of_getElem? hx)
    exact ⟨j, ps[j].1, ps[j].2, rfl, hx, by rw [heldV, e, Option.map_some, g], by rw [pairH, e, Option.map_some, g], b.2⟩
def grownS (ms ra : List (Int × Int)) (f e : Int) : Int := dsum (fun d => bal ms d * (heldV ra d).getD 0) f e
def grownV (ms ra : List (Int × Int)) (e : Int) : Int := grownS ms ra 0 e / 3650000
def sp_balance (K : PySem.W.Frag) : Sp := fun vs H Q _ => ∃ l as ms d, vs = [.ref l, .int d] ∧ RowAt K H l as ms ∧ ms.length ≤ 10000 ∧ ∀ H', Same H H' → Q (.int (bal ms d)) H'
def sp_balances (K : PySem.W.Frag) : Sp := fun vs H Q _ => ∃ l as ms, vs = [.ref l] ∧ SqL K H l (as.map .ref) ∧ PrT H as ms ∧ ms.length ≤ 10000 ∧
  ∀ H' l' ts qs, Same H H' → H l' = none → H' l' = some (.lst (ts.map .ref)) → Prs K H' ts (runs qs 0) → qs.Perm ms → qs.Pairwise (fun x y => x.1 ≤ y.1) → Q (.ref l') H'
def sp_grown (K : PySem.W.Frag) : Sp := fun vs H Q _ => ∃ l1 as ms l2 bs ra e, vs = [.ref l1, .ref l2, .int e] ∧ SqL K H l1 (as.map .ref) ∧ PrT H as ms ∧ ms.length ≤ 10000 ∧ RowAt K H l2 bs ra ∧ RatesOk ra ∧ ra.length ≤ 10000 ∧ e ≤ 99999 ∧
  ∀ H', Same H H' → Q (.int (grownV ms ra e)) H'
def sp_l_balance (K : PySem.W.Frag) : Sp := fun vs H Q _ => ∃ l as ms d, vs = [.ref l, .int d] ∧ RowAt K H l as ms ∧ Q (.int (bal ms d)) H
def sp_l_grown (K : PySem.W.Frag) : Sp := fun vs H Q _ => ∃ l1 as ms l2 bs ra f e, vs = [.ref l1, .ref l2, .int f, .int e] ∧ RowAt K H l1 as ms ∧ RowAt K H l2 bs ra ∧ RatesOk ra ∧ 0 ≤ f ∧ f ≤ 200000 ∧ -10 ≤ e ∧ e ≤ 200000 ∧ Q (.int (grownS ms ra f e / 3650000)) H
def balAcc (ms : List (Int × Int)) (d : Int) (i : Nat) : List V := (((ms.take i).filter fun p => decide (p.1 ≤ d)).map (·.2)).map V.int
def sp_l_moves (K : PySem.W.Frag) : Sp := fun vs H Q _ => ∃ (a : Addr) (ns : List Int) (b : Int), vs = [.ref a, .int b] ∧ SqL K H a (ns.map V.int) ∧ 0 ≤ b ∧
  ∀ l as ms H', Same H H' → H l = none → H' l = some (.lst (as.map .ref)) → PrT H' as ms → ms.length ≤ 40 → (∀ p, p ∈ ms → b ≤ p.1) → Q (.ref l) H'
def sp_l_rates (K : PySem.W.Frag) : Sp := fun vs H Q _ => ∃ (a : Addr) (ns : List Int) (b : Int), vs = [.ref a, .int b] ∧ SqL K H a (ns.map V.int) ∧ 0 ≤ b ∧
  ∀ l as ra H', Same H H' → H l = none → H' l = some (.lst (as.map .ref)) → Prs K H' as ra → ra.length ≤ 5 → RatesOk ra → Q (.ref l) H'
theorem grownS_nil {ms ra : List (Int × Int)} {f e : Int} (h : e < f) : grownS ms ra f e = 0 := dsum_empty h
theorem grownS_from {ms ra : List (Int × Int)} {b e : Int} (hb : 0 ≤ b) (h : ∀ p, p ∈ ms → b ≤ p.1) : grownS ms ra 0 e = grownS ms ra b e := by
  have z : ∀ x y : Int, y < b → dsum (fun d => bal ms d * (heldV ra d).getD 0) x y = 0 := by
    intro x y hy
    have e1 : dsum (fun d => bal ms d * (heldV ra d).getD 0) x y = dsum (fun _ => 0) x y := dsum_congr fun d _ h2 => by
      rw [bal_none fun p hp => by have := h p hp; omega, Int.zero_mul]
    rw [e1, dsum_zero]
  unfold grownS
  by_cases c : b ≤ e + 1
  · rw [dsum_split b hb c, z 0 (b - 1) (by omega)]
    omega
  · rw [z 0 e (by omega), dsum_empty (by omega)]
theorem grownV_one {b c r f : Int} (hb : 0 ≤ b) (hf : b ≤ f) : grownV [(b, c)] [(0, r)] f = c * r * (f - b + 1) / 3650000 := by
  have e1 : grownS [(b, c)] [(0, r)] 0 f = c * r * (f - b + 1) := by
    rw [grownS_from hb (fun p hp => by rw [List.mem_singleton.mp hp]; exact Int.le_refl _), ← dsum_const (by omega)]
    refine dsum_congr fun d h1 h2 => ?_
    have e2 : bal [(b, c)] d = c := by
      rw [bal_all (fun p hp => by rw [List.mem_singleton.mp hp]; exact h1)]
      simp
    have e3 : heldV [(0, r)] d = some r := by
      rw [heldV_pair, show [((0 : Int), r)] = [] ++ [(0, r)] from rfl, pairH_snoc (fun x hx => by cases hx), if_pos (show (0 : Int) ≤ d by omega)]
      rfl
    rw [e2, e3]
    rfl
  rw [grownV, e1]
theorem int2_dp {K : PySem.W.Frag} {H : Hp} {t : Addr} {x y : Int} (h : SqT K H t [.int x, .int y]) : Dp K H (.ref t) (dpair (x, y)) := dpair_at h
section
variable {P : Program} {w : World} {K : PySem.W.Frag} {mg : Str → Option Value} {base : Heap}
theorem ok_in_order (T : Txt K mg) : FnOk P w K mg base (L2.CX P w) 1 T.f_in_order T.fd_in_order ["terms"] (sp_in_order K) := by
  refine T.F_in_order.okX sc_in_order (fun vs H Q E h => ?_) (fun cdv A outer s H vs Q E hr h => ?_)
  · first | (obtain ⟨_, rfl, _⟩ := h; rfl) | (obtain ⟨_, _, rfl, _⟩ := h; rfl) | (obtain ⟨_, _, _, rfl, _⟩ := h; rfl) | (obtain ⟨_, _, _, _, rfl, _⟩ := h; rfl) | (obtain ⟨_, _, _, _, _, rfl, _⟩ := h; rfl) | (obtain ⟨_, _, _, _, _, _, rfl, _⟩ := h; rfl) | (obtain ⟨_, _, _, _, _, _, _, rfl, _⟩ := h; rfl) | (obtain ⟨_, _, _, _, _, _, _, _, rfl, _⟩ := h; rfl) | (obtain ⟨_, _, _, _, _, _, _, _, _, rfl, _⟩ := h; rfl) | (obtain ⟨_, _, _, _, _, _, _, _, _, _, rfl, _⟩ := h; rfl) | (obtain ⟨_, _, _, _, _, _, _, _, _, _, _, rfl, _⟩ := h; rfl) | (obtain ⟨_, _, _, _, _, _, _, _, _, _, _, _, rfl, _⟩ := h; rfl) | (obtain ⟨_, _, _, _, _, _, _, _, _, _, _, _, _, rfl, _⟩ := h; rfl) | (obtain ⟨_, _, _, _, _, _, _, _, _, _, _, _, _, _, rfl, _⟩ := h; rfl) | (obtain ⟨_, _, _, _, _, _, _, _, _, _, _, _, _, _, _, rfl, _⟩ := h; rfl)
  · refine ⟨_, (pss_cons (ps_set (i := 1) sc_in_order.nd rfl (Or.inl rfl) pe_dnewK)
  (pss_cons (ps_for (passes_of rfl) rfl (show PI _ _ _ (iLT K _) from pi_lt (pv 0)) (pg_tup rfl (pgs_cons (pg_name (i := 2) sc_in_order.nd rfl (Or.inl rfl)) (pgs_cons (pg_name (i := 3) sc_in_order.nd rfl (Or.inl rfl)) pgs_nil)))
  (pss_one (ps_dput (hu_of hr) (pv 1) (pv 2) (pv 3) rfl)))
  (pss_one (ps_ret (pe_callB (cr_sortedItK rfl) (by rfl) T.n_sorted (by decide +kernel) (pa_cons (pe_bm0 PySem.F.plainAttrs_dict PySem.F.slot_dict_items PySem.F.type_dict_items mt_itemsK (pv 1)) pa_nil)))))), ?_⟩
    obtain ⟨l, as, ps, rfl, hR, hn, k⟩ := h
    have hlen := hR.2.len
    walk_at "go"
    intro d hd
    walk_at "go"
    have s0 : Same H (upd H d (.dK [])) := same_new hd
    refine g_forQ (a := l) (xs := as.map V.ref) (fun i σ' H' => ∃ v1 v2, σ' = [some (.ref l), some (.ref d), v1, v2] ∧ Same H H' ∧ (∀ b, b ≠ d → H b = none → H' b = none) ∧ H' d = some (.dK ((dlast (ps.take i)).map entI))) (fun Q' q => by walk_at "go"; exact q) hR.1 ⟨none, none, rfl, s0, fun b hb e => by rw [upd_ne hb]; exact e, upd_same⟩
      (fun i σ' H' ⟨_, _, _, e, _⟩ => e) ?_ ?_
    · rintro i x σ' H' hx ⟨v1, v2, rfl, sm, hf, hd'⟩
      have hi : i < as.length := by
        have q := (List.getElem?_eq_some_iff.mp hx).1
        rw [List.length_map] at q
        exact q
      obtain ⟨a, p, h1, h2, h3⟩ := (hR.same sm).get (i := i) (by omega)
      have ex : x = .ref a := by
        rw [List.getElem?_map, h1] at hx
        exact (Option.some.inj hx).symm
      subst ex
      refine g_gtup h3 rfl ?_
      walk_at "go"
      refine ⟨d, _, rfl, DPut.k (k := Sum.inl p.1) hd' ?_, ?_⟩
      · have := dlast_len ps i
        rw [List.length_map]
        exact Nat.lt_of_le_of_lt this (Nat.lt_of_lt_of_le (show i < 10001 by omega) (by decide))
      · walk_at "go"
        refine ⟨_, _, rfl, same_mut sm hd, fun b hb e => by rw [upd_ne hb]; exact hf b hb e, ?_⟩
        rw [upd_same, putK_int, dlast_take h2]
    · rintro σ' H' ⟨v1, v2, rfl, sm, hf, hd'⟩
      walk_at "go"
      refine ⟨.inr (.inr (.inl ⟨rfl, .inl ⟨_, hd'⟩⟩)), ?_⟩
      refine ⟨d, _, rfl, rfl, hd', fun p hp => ?_⟩
      walk_at "go"
      have npd : d ≠ p := fun e => by rw [e, hp] at hd'; cases hd'
      refine ⟨p, d, _, rfl, upd_same, (upd_ne npd).trans hd', fun H2 l' ts qs s2 hl0 hperm hsort hl' hP => ?_⟩
      have s3 := sm.trans ((same_new hp).trans s2)
      rw [List.length_map, hlen, dlast_all] at hperm
      have hnd : (qs.map (·.1)).Nodup := by
        have e := dlast_nodup ps ps.length
        rw [dlast_all] at e
        exact (hperm.map (·.1)).nodup_iff.mpr e
      refine k H2 l' ts qs s3 ((sm.trans (same_new hp)).free hl0) hl' (prs_of hP) ⟨?_, fun x => by rw [List.mem_reverse]; exact hperm.mem_iff⟩ (by rw [hperm.length_eq, ← dlast_all]; exact dlast_len ps _)
      rw [List.pairwise_reverse]
      have h4 : qs.Pairwise (fun x y => x.1 ≠ y.1) := List.pairwise_map.mp hnd
      exact (hsort.and h4).imp (fun {x y} h => by omega)
theorem ok_spans (T : Txt K mg) : FnOk P w K mg base (L2.CX P w) 2 T.f_spans T.fd_spans ["terms", "first", "last"] (sp_spans K) := by
  refine T.F_spans.okX sc_spans (fun vs H Q E h => ?_) (fun cdv A outer s H vs Q E hr h => ?_)
  · first | (obtain ⟨_, rfl, _⟩ := h; rfl) | (obtain ⟨_, _, rfl, _⟩ := h; rfl) | (obtain ⟨_, _, _, rfl, _⟩ := h; rfl) | (obtain ⟨_, _, _, _, rfl, _⟩ := h; rfl) | (obtain ⟨_, _, _, _, _, rfl, _⟩ := h; rfl) | (obtain ⟨_, _, _, _, _, _, rfl, _⟩ := h; rfl) | (obtain ⟨_, _, _, _, _, _, _, rfl, _⟩ := h; rfl) | (obtain ⟨_, _, _, _, _, _, _, _, rfl, _⟩ := h; rfl) | (obtain ⟨_, _, _, _, _, _, _, _, _, rfl, _⟩ := h; rfl) | (obtain ⟨_, _, _, _, _, _, _, _, _, _, rfl, _⟩ := h; rfl) | (obtain ⟨_, _, _, _, _, _, _, _, _, _, _, rfl, _⟩ := h; rfl) | (obtain ⟨_, _, _, _, _, _, _, _, _, _, _, _, rfl, _⟩ := h; rfl) | (obtain ⟨_, _, _, _, _, _, _, _, _, _, _, _, _, rfl, _⟩ := h; rfl) | (obtain ⟨_, _, _, _, _, _, _, _, _, _, _, _, _, _, rfl, _⟩ := h; rfl) | (obtain ⟨_, _, _, _, _, _, _, _, _, _, _, _, _, _, _, rfl, _⟩ := h; rfl)
  · refine ⟨_, (pss_cons (ps_set (i := 3) sc_spans.nd rfl (Or.inl rfl) (pe_lst pa_nil))
  (pss_cons (ps_set (i := 4) sc_spans.nd rfl (Or.inl rfl) (pv 2))
  (pss_cons (ps_for (passes_of rfl) rfl (pi_reversed (by rfl) T.n_reversed (pa_cons (pe_callS (ok_in_order T) hr (by rfl) T.g_in_order T.F_in_order.kp T.b_in_order (fun σ => passAt (takes_of rfl rfl rfl rfl) σ) (by exact (pa_cons (pv 0) pa_nil))) pa_nil)) (pg_name (i := 5) sc_spans.nd rfl (Or.inl rfl))
  (pss_cons (ps_set (i := 6) sc_spans.nd rfl (Or.inl rfl) (pe_callB (call_max2 rfl) (by rfl) T.n_max (by decide +kernel) (pa_cons (pe_ix (show IxR _ (rIx2 K) from ix_lt) (pv 5) pe_int (fun _ _ => rfl)) (pa_cons (pv 1) pa_nil))))
  (pss_one (ps_if (pt_cmpR op_le (pv 6) (pv 4) (nomark _))
  (pss_cons (ps_expr (pe_bm PySem.F.plainAttrs_list PySem.F.slot_list_append PySem.F.type_list_append mt_append (pv 3) (pa_cons (pe_tup (pa_cons (pv 6) (pa_cons (pv 4) (pa_cons (pv 5) pa_nil)))) pa_nil)))
  (pss_one (ps_set (i := 4) sc_spans.nd rfl (Or.inl rfl) (pe_op op_sub (pv 6) pe_int))))
  pss_nil))))
  (pss_one (ps_ret (pe_revL (pv 3))))))), ?_⟩
    obtain ⟨l, as, ps, f, e, rfl, hR, hn, k⟩ := h
    walk_at "go"
    refine ⟨by walk_at "sz", fun l0 hl0 => ?_⟩
    walk_at "go"
    have s0 : Same H (upd H l0 (.lst [])) := same_new hl0
    refine g_forRv (g_iRev ?_)
    walk_at "go"
    refine ⟨l, as, ps, rfl, hR.same s0, hn, fun H2 l2 ts qs s2 hl20 hl2 hP hD hql => ?_⟩
    walk_at "go"
    refine ⟨l2, ts.map V.ref, rfl, SqL.of hl2, ?_⟩
    have hlen := hP.len
    have hds := hD.fall
    -- behind i pairs: their spans stand in found, the rest goes on with the end as it is
    refine rev_of (fun i σ' H' => ∃ v1 v2 cs ss e', σ' = [some (.ref l), some (.int f), some (.int e), some (.ref l0), some (.int e'), v1, v2] ∧ Same H H' ∧ H' l2 = some (.lst (ts.map V.ref)) ∧ Prs K H' ts qs ∧ H' l0 = some (.lst (cs.map V.ref)) ∧ Sps K H' cs ss ∧ ss.length ≤ i ∧ spanR qs.reverse f e = ss ++ spanR (qs.reverse.drop i) f e')
      ⟨_, _, [], [], e, rfl, s0.trans s2, hl2, hP, s2 _ _ upd_same, .nil, Nat.le_refl _, rfl⟩ (fun i σ' H' ⟨_, _, _, _, _, _, _, q, _⟩ => SqL.of q) ?_ ?_
    · rintro i x σ' H' hi hx ⟨v1, v2, cs, ss, e', rfl, sm, hq, hP', hl', hS, hn', he⟩
      have hi2 : i < ts.length := by rw [List.length_map] at hi; exact hi
      obtain ⟨p, hp⟩ : ∃ p, qs[qs.length - 1 - i]? = some p := ⟨_, List.getElem?_eq_getElem (by omega)⟩
      obtain ⟨a, h1, h2⟩ := hP'.get hp
      have ex : x = .ref a := by
        rw [List.length_map, List.getElem?_map, hlen, h1] at hx
        exact (Option.some.inj hx).symm
      subst ex
      have hrev : qs.reverse[i]? = some p := by
        rw [List.getElem?_reverse (by omega)]
        exact hp
      have hdrop : qs.reverse.drop i = p :: qs.reverse.drop (i + 1) := by
        obtain ⟨hh, e3⟩ := List.getElem?_eq_some_iff.mp hrev
        rw [← e3]
        exact List.drop_eq_getElem_cons hh
      rw [hdrop, spanR] at he
      walk_at "go"
      refine r_ixT h2 at0 ?_
      walk_at "go"
      refine ⟨_, _, rfl, ?_⟩
      walk_at "go"
      have em : (if f > p.1 then f else p.1) = mx p.1 f := rfl
      rw [em]
      refine g_ite (fun c => ?_) (fun c => ?_)
      · rw [if_pos c] at he
        walk_at "go"
        refine ⟨.inl ⟨rfl, _, SqL.of hl'⟩, ?_⟩
        walk_at "go"
        refine ⟨by walk_at "sz", fun t ht => ?_⟩
        walk_at "go"
        have hlc := hS.len
        refine ⟨l0, _, _, rfl, rfl, (same_new ht) _ _ hl', ?_, ?_⟩
        · rw [List.length_map]
          exact Nat.lt_of_lt_of_le (show cs.length < 10001 by omega) (by decide)
        · walk_at "go"
          have ntl : t ≠ l0 := fun e => by rw [e, hl'] at ht; cases ht
          have nl2 : l0 ≠ l2 := fun e => by rw [← e, upd_same] at hl20; cases hl20
          have hl3 := (same_new (o := .tup [.int (mx p.1 f), .int e', .ref a]) ht) _ _ hl'
          refine ⟨_, _, cs ++ [t], ss ++ [(mx p.1 f, e', p)], mx p.1 f - 1, rfl, same_mut (sm.trans (same_new ht)) hl0, (upd_ne nl2.symm).trans ((same_new ht) _ _ hq), (hP'.same (same_new ht)).mut hl3, ?_, ?_, ?_, ?_⟩
          · rw [upd_same, List.map_append]
            rfl
          · exact Sps.append (qs := [(mx p.1 f, e', p)]) (.cons (SqT.of ((upd_ne ntl).trans upd_same)) (sqT_mut hl3 (same_sqT (same_new ht) h2)) .nil) ((hS.same (same_new ht)).mut hl3)
          · rw [List.length_append]
            exact Nat.add_le_add_right hn' 1
          · rw [he, List.append_assoc]
            rfl
      · rw [if_neg c] at he
        walk_at "go"
        exact ⟨_, _, cs, ss, e', rfl, sm, hq, hP', hl', hS, by omega, he⟩
    · rintro σ' H' ⟨v1, v2, cs, ss, e', rfl, sm, hq, hP', hl', hS, hn', he⟩
      walk_at "go"
      refine ⟨l0, _, rfl, SqL.of hl', fun l' hn0 => ?_⟩
      rw [← List.map_reverse]
      have e4 : spanR qs.reverse f e = ss := by
        rw [he, List.drop_eq_nil_of_le (by rw [List.length_reverse, List.length_map]; omega)]
        exact List.append_nil _
      refine k _ l' cs.reverse qs.reverse (sm.trans (same_new hn0)) (sm.free hn0) upd_same hD ?_
      rw [e4]
      exact (hS.same (same_new hn0)).rev
theorem ok_balance (T : Txt K mg) : FnOk P w K mg base (L2.CX P w) 1 T.f_balance T.fd_balance ["moves", "day"] (sp_balance K) := by
  refine T.F_balance.okX sc_balance (fun vs H Q E h => ?_) (fun cdv A outer s H vs Q E hr h => ?_)
  · first | (obtain ⟨_, rfl, _⟩ := h; rfl) | (obtain ⟨_, _, rfl, _⟩ := h; rfl) | (obtain ⟨_, _, _, rfl, _⟩ := h; rfl) | (obtain ⟨_, _, _, _, rfl, _⟩ := h; rfl) | (obtain ⟨_, _, _, _, _, rfl, _⟩ := h; rfl) | (obtain ⟨_, _, _, _, _, _, rfl, _⟩ := h; rfl) | (obtain ⟨_, _, _, _, _, _, _, rfl, _⟩ := h; rfl) | (obtain ⟨_, _, _, _, _, _, _, _, rfl, _⟩ := h; rfl) | (obtain ⟨_, _, _, _, _, _, _, _, _, rfl, _⟩ := h; rfl) | (obtain ⟨_, _, _, _, _, _, _, _, _, _, rfl, _⟩ := h; rfl) | (obtain ⟨_, _, _, _, _, _, _, _, _, _, _, rfl, _⟩ := h; rfl) | (obtain ⟨_, _, _, _, _, _, _, _, _, _, _, _, rfl, _⟩ := h; rfl) | (obtain ⟨_, _, _, _, _, _, _, _, _, _, _, _, _, rfl, _⟩ := h; rfl) | (obtain ⟨_, _, _, _, _, _, _, _, _, _, _, _, _, _, rfl, _⟩ := h; rfl) | (obtain ⟨_, _, _, _, _, _, _, _, _, _, _, _, _, _, _, rfl, _⟩ := h; rfl)
  · refine ⟨_, (pss_one (ps_ret (pe_callB (show CallR _ (.builtin "sum") (rSum K) from cr_sum rfl) (by rfl) T.n_sum (by decide +kernel) (pa_cons (pe_lc (own := [("at", 2), ("cents", 3)]) (g := gTup K 2 (gCons (gName 2) (gCons (gName 3) gNil))) (by rfl) sc_balance.nd (show PI _ _ _ (iLT K _) from pi_lt (pv 0)) (blkOk_by (own := [("at", 2), ("cents", 3)]) (N := ["moves", "day", "at", "cents"]) (sc := defScope s_balance) (by decide +kernel)) (fun _ _ _ _ _ => (pg_tup rfl (pgs_cons (pg_name (i := 2) sc_balance.nd rfl (Or.inl rfl)) (pgs_cons (pg_name (i := 3) sc_balance.nd rfl (Or.inl rfl)) pgs_nil)))) (fun _ _ _ _ _ => pts_one (pt_cmpR op_le (pv 2) (pv 1) (nomark _))) (fun _ _ _ _ _ => (pv 3))) pa_nil)))), ?_⟩
    obtain ⟨l, as, ms, d, rfl, hR, hn, k⟩ := h
    have hlen := hR.2.len
    walk_at "go"
    refine lc_Q (a := l) (xs := as.map V.ref) (balAcc ms d) (fun Q' q => by walk_at "go"; exact q) hR.1 rfl ?_ ?_
    · rintro D i x H' hD hx m
      have hi : i < as.length := by
        have q := (List.getElem?_eq_some_iff.mp hx).1
        rw [List.length_map] at q
        exact q
      obtain ⟨a, p, h1, h2, h3⟩ := (hR.same m.1).get (i := i) (by omega)
      have ex : x = .ref a := by
        rw [List.getElem?_map, h1] at hx
        exact (Option.some.inj hx).symm
      subst ex
      have ea : balAcc ms d (i + 1) = balAcc ms d i ++ (if p.1 ≤ d then [V.int p.2] else []) := by
        unfold balAcc
        rw [List.take_add_one, h2, List.filter_append, List.map_append, List.map_append]
        by_cases c : p.1 ≤ d
        · rw [if_pos c, Option.toList_some, List.filter_cons_of_pos (by simpa using c)]; rfl
        · rw [if_neg c, Option.toList_some, List.filter_cons_of_neg (by simpa using c)]; rfl
      have hz : (balAcc ms d i).length < sizeLine := by
        unfold balAcc
        rw [List.length_map, List.length_map]
        exact Nat.lt_of_le_of_lt (Nat.le_trans (List.length_filter_le _ _) (by rw [List.length_take]; exact Nat.min_le_right _ _)) (Nat.lt_of_lt_of_le (show ms.length < 10001 by omega) (by decide))
      refine g_gtup h3 rfl ?_
      walk_at "go"
      refine ⟨rfl, ?_⟩
      walk_at "go"
      refine g_ite (fun c => ?_) (fun c => ?_)
      · walk_at "go"
        rw [if_pos c] at ea
        exact madeF_next hD m (Same.refl _) hz ea
      · rw [if_neg c, List.append_nil] at ea
        exact madeF_skip m (Same.refl _) ea
    · rintro D H' hD sm hl
      walk_at "go"
      rw [List.length_map, hlen, balAcc, List.take_length] at hl
      exact ⟨D, _, rfl, SqL.of hl, k _ sm⟩
theorem ok_balances (T : Txt K mg) : FnOk P w K mg base (L2.CX P w) 1 T.f_balances T.fd_balances ["moves"] (sp_balances K) := by
  refine T.F_balances.okX sc_balances (fun vs H Q E h => ?_) (fun cdv A outer s H vs Q E hr h => ?_)
  · first | (obtain ⟨_, rfl, _⟩ := h; rfl) | (obtain ⟨_, _, rfl, _⟩ := h; rfl) | (obtain ⟨_, _, _, rfl, _⟩ := h; rfl) | (obtain ⟨_, _, _, _, rfl, _⟩ := h; rfl) | (obtain ⟨_, _, _, _, _, rfl, _⟩ := h; rfl) | (obtain ⟨_, _, _, _, _, _, rfl, _⟩ := h; rfl) | (obtain ⟨_, _, _, _, _, _, _, rfl, _⟩ := h; rfl) | (obtain ⟨_, _, _, _, _, _, _, _, rfl, _⟩ := h; rfl) | (obtain ⟨_, _, _, _, _, _, _, _, _, rfl, _⟩ := h; rfl) | (obtain ⟨_, _, _, _, _, _, _, _, _, _, rfl, _⟩ := h; rfl) | (obtain ⟨_, _, _, _, _, _, _, _, _, _, _, rfl, _⟩ := h; rfl) | (obtain ⟨_, _, _, _, _, _, _, _, _, _, _, _, rfl, _⟩ := h; rfl) | (obtain ⟨_, _, _, _, _, _, _, _, _, _, _, _, _, rfl, _⟩ := h; rfl) | (obtain ⟨_, _, _, _, _, _, _, _, _, _, _, _, _, _, rfl, _⟩ := h; rfl) | (obtain ⟨_, _, _, _, _, _, _, _, _, _, _, _, _, _, _, rfl, _⟩ := h; rfl)
  · refine ⟨_, (pss_cons (ps_set (i := 1) sc_balances.nd rfl (Or.inl rfl) (pe_lst pa_nil))
  (pss_cons (ps_set (i := 2) sc_balances.nd rfl (Or.inl rfl) pe_int)
  (pss_cons (ps_for (passes_of rfl) rfl (show PI _ _ _ (iLT K _) from pi_lt (pe_callB (show CallR _ (.builtin "sorted") (rSortA K) from cr_sortA) (by rfl) T.n_sorted (by decide +kernel) (pa_cons (pv 0) pa_nil))) (pg_tup rfl (pgs_cons (pg_name (i := 3) sc_balances.nd rfl (Or.inl rfl)) (pgs_cons (pg_name (i := 4) sc_balances.nd rfl (Or.inl rfl)) pgs_nil)))
  (pss_cons (ps_aug (i := 2) sc_balances.nd rfl (Or.inl rfl) (pv 4) ip_add)
  (pss_one (ps_expr (pe_bm PySem.F.plainAttrs_list PySem.F.slot_list_append PySem.F.type_list_append mt_append (pv 1) (pa_cons (pe_tup (pa_cons (pv 3) (pa_cons (pv 2) pa_nil))) pa_nil))))))
  (pss_one (ps_ret (pv 1)))))), ?_⟩
    obtain ⟨l, as, ms, rfl, hS, hP, hn, k⟩ := h
    walk_at "go"
    refine ⟨by walk_at "sz", fun l0 hl0 => ?_⟩
    walk_at "go"
    have s0 : Same H (upd H l0 (.lst [])) := same_new hl0
    refine g_forN (g_iL ?_)
    walk_at "go"
    have hP0 := hP.same s0
    refine .inl ⟨l, as.map V.ref, kH (upd H l0 (.lst [])), rfl, s0.seq hS, hP0.each, fun ys p hs hb hp => ?_⟩
    have hperm := hb.perm
    obtain ⟨bs, eb, hB⟩ := PrT.of (H := upd H l0 (.lst [])) ys fun x hx => hP0.each x (hperm.mem_iff.mp hx)
    have hqp : (ys.map (kH (upd H l0 (.lst [])))).Perm ms := by
      have z := hperm.map (kH (upd H l0 (.lst [])))
      rw [hP0.keys] at z
      exact z
    have hqs : (ys.map (kH (upd H l0 (.lst [])))).Pairwise (fun x y => x.1 ≤ y.1) := by
      rw [List.pairwise_map]
      refine List.Pairwise.imp (fun {x y} h => ?_) hs
      have z := SrtO.lexB_no.mp h
      omega
    generalize hqe : ys.map (kH (upd H l0 (.lst []))) = qs at hB hqp hqs
    subst eb
    have hql := hqp.length_eq
    have hbl : bs.length = qs.length := by rw [← hqe, List.length_map, List.length_map]
    have npl : l0 ≠ p := ne_of_none (show (upd H l0 (.lst [])) l0 = some (.lst []) from upd_same) hp
    refine ⟨p, rfl, ⟨_, SqL.of upd_same⟩, ?_⟩
    refine list_of (xs := bs.map V.ref) (fun i σ' H' => ∃ v1 v2 ts, σ' = [some (.ref l), some (.ref l0), some (.int (((qs.take i).map (·.2)).sum)), v1, v2] ∧ Same H H' ∧ H' p = some (.lst (bs.map V.ref)) ∧ PrT H' bs qs ∧ H' l0 = some (.lst (ts.map V.ref)) ∧ Prs K H' ts (runs (qs.take i) 0))
      ⟨_, _, [], rfl, s0.trans (same_new hp), upd_same, hB.same (same_new hp), (upd_ne npl).trans upd_same, .nil⟩ (fun i σ' H' ⟨_, _, _, _, _, q, _⟩ => SqL.of q) ?_ ?_
    · rintro i x σ' H' hx ⟨v1, v2, ts, rfl, sm, hq, hB', hl', hT⟩
      have hi : i < bs.length := by
        have q := (List.getElem?_eq_some_iff.mp hx).1
        rw [List.length_map] at q
        exact q
      have hqi : qs[i]? = some qs[i] := List.getElem?_eq_getElem (by omega)
      obtain ⟨a, h1, h2⟩ := (hB'.prs (K := K)).get hqi
      have ex : x = .ref a := by
        rw [List.getElem?_map, h1] at hx
        exact (Option.some.inj hx).symm
      subst ex
      have et : qs.take (i + 1) = qs.take i ++ [qs[i]] := by rw [List.take_add_one, hqi]; rfl
      have es : (((qs.take (i + 1)).map (·.2)).sum) = ((qs.take i).map (·.2)).sum + (qs[i]).2 := by rw [et, List.map_append, List.sum_append]; simp
      have er : runs (qs.take (i + 1)) 0 = runs (qs.take i) 0 ++ [((qs[i]).1, ((qs.take i).map (·.2)).sum + (qs[i]).2)] := by rw [et, runs_snoc, Int.zero_add]
      have htl := hT.len
      rw [runs_len, List.length_take] at htl
      refine g_gtup h2 rfl ?_
      walk_at "go"
      refine ⟨.inl ⟨rfl, _, SqL.of hl'⟩, ?_⟩
      walk_at "go"
      refine ⟨by walk_at "sz", fun t ht => ?_⟩
      walk_at "go"
      have hl1 := (same_new (o := .tup [.int (qs[i]).1, .int (((qs.take i).map (·.2)).sum + (qs[i]).2)]) ht) _ _ hl'
      refine ⟨l0, _, _, rfl, rfl, hl1, ?_, ?_⟩
      · rw [List.length_map]
        exact Nat.lt_of_lt_of_le (show ts.length < 10001 by omega) (by decide)
      · walk_at "go"
        have ntl : t ≠ l0 := fun e => by rw [e, hl'] at ht; cases ht
        have ntp : p ≠ l0 := npl.symm
        refine ⟨some (.int (qs[i]).1), some (.int (qs[i]).2), ts ++ [t], ?_, same_mut (sm.trans (same_new ht)) hl0, (upd_ne ntp).trans ((same_new ht) _ _ hq), (hB'.same (same_new ht)).mut hl1, ?_, ?_⟩
        · rw [es]
          rfl
        · rw [upd_same, List.map_append]
          rfl
        · rw [er]
          exact Prs.append (Prs.one (SqT.of ((upd_ne ntl).trans upd_same))) ((hT.same (same_new ht)).mut hl1)
    · rintro σ' H' ⟨v1, v2, ts, rfl, sm, hq, hB', hl', hT⟩
      walk_at "go"
      rw [List.length_map, hbl, List.take_length] at hT
      exact k H' l0 ts qs sm hl0 hl' hT hqp hqs
theorem ok_grown (T : Txt K mg) : FnOk P w K mg base (L2.CX P w) 3 T.f_grown T.fd_grown ["moves", "rates", "last"] (sp_grown K) := by
  refine T.F_grown.okX sc_grown (fun vs H Q E h => ?_) (fun cdv A outer s H vs Q E hr h => ?_)
  · first | (obtain ⟨_, rfl, _⟩ := h; rfl) | (obtain ⟨_, _, rfl, _⟩ := h; rfl) | (obtain ⟨_, _, _, rfl, _⟩ := h; rfl) | (obtain ⟨_, _, _, _, rfl, _⟩ := h; rfl) | (obtain ⟨_, _, _, _, _, rfl, _⟩ := h; rfl) | (obtain ⟨_, _, _, _, _, _, rfl, _⟩ := h; rfl) | (obtain ⟨_, _, _, _, _, _, _, rfl, _⟩ := h; rfl) | (obtain ⟨_, _, _, _, _, _, _, _, rfl, _⟩ := h; rfl) | (obtain ⟨_, _, _, _, _, _, _, _, _, rfl, _⟩ := h; rfl) | (obtain ⟨_, _, _, _, _, _, _, _, _, _, rfl, _⟩ := h; rfl) | (obtain ⟨_, _, _, _, _, _, _, _, _, _, _, rfl, _⟩ := h; rfl) | (obtain ⟨_, _, _, _, _, _, _, _, _, _, _, _, rfl, _⟩ := h; rfl) | (obtain ⟨_, _, _, _, _, _, _, _, _, _, _, _, _, rfl, _⟩ := h; rfl) | (obtain ⟨_, _, _, _, _, _, _, _, _, _, _, _, _, _, rfl, _⟩ := h; rfl) | (obtain ⟨_, _, _, _, _, _, _, _, _, _, _, _, _, _, _, rfl, _⟩ := h; rfl)
  · refine ⟨_, (pss_cons (ps_set (i := 3) sc_grown.nd rfl (Or.inl rfl) pe_int)
  (pss_cons (ps_for (passes_of rfl) rfl (show PI _ _ _ (iLT K _) from pi_lt (pe_callS (ok_spans T) hr (by rfl) T.g_spans T.F_spans.kp T.b_spans (fun σ => passAt (takes_of rfl rfl rfl rfl) σ) (by exact (pa_cons (pe_callS (ok_balances T) (hr.mono (by decide)) (by rfl) T.g_balances T.F_balances.kp T.b_balances (fun σ => passAt (takes_of rfl rfl rfl rfl) σ) (by exact (pa_cons (pv 0) pa_nil))) (pa_cons pe_int (pa_cons (pv 2) pa_nil)))))) (pg_tup rfl (pgs_cons (pg_name (i := 4) sc_grown.nd rfl (Or.inl rfl)) (pgs_cons (pg_name (i := 5) sc_grown.nd rfl (Or.inl rfl)) (pgs_cons (pg_name (i := 6) sc_grown.nd rfl (Or.inl rfl)) pgs_nil))))
  (pss_one (ps_for (passes_of rfl) rfl (show PI _ _ _ (iLT K _) from pi_lt (pe_callS (ok_spans T) hr (by rfl) T.g_spans T.F_spans.kp T.b_spans (fun σ => passAt (takes_of rfl rfl rfl rfl) σ) (by exact (pa_cons (pv 1) (pa_cons (pv 4) (pa_cons (pv 5) pa_nil)))))) (pg_tup rfl (pgs_cons (pg_name (i := 7) sc_grown.nd rfl (Or.inl rfl)) (pgs_cons (pg_name (i := 8) sc_grown.nd rfl (Or.inl rfl)) (pgs_cons (pg_name (i := 9) sc_grown.nd rfl (Or.inl rfl)) pgs_nil))))
  (pss_one (ps_aug (i := 3) sc_grown.nd rfl (Or.inl rfl) (pe_op op_mul (pe_op op_mul (pe_ix (show IxR _ (rIx2 K) from ix_lt) (pv 6) pe_int (fun _ _ => rfl)) (pe_ix (show IxR _ (rIx2 K) from ix_lt) (pv 9) pe_int (fun _ _ => rfl))) (pe_op op_plus (pe_op op_sub (pv 8) (pv 7)) pe_int)) ip_add)))))
  (pss_one (ps_ret (pe_op op_fdiv (pv 3) (pe_glob (v := .int 3650000) (by rfl) T.g_WHOLE ⟨_, rfl⟩)))))), ?_⟩
    obtain ⟨l1, as, ms, l2, bs, ra, e, rfl, h1, hP, n1, h2, hr, n2, he, k⟩ := h
    walk_at "go"
    refine g_forN (g_iL ?_)
    walk_at "go"
    refine ⟨l1, as, ms, rfl, h1, hP, n1, fun H0 l0 t0 qs s0 hl00 hl0 hR0 hperm hsort => ?_⟩
    walk_at "go"
    have hrl : (runs qs 0).length ≤ 10000 := by rw [runs_len, hperm.length_eq]; exact n1
    refine ⟨l0, t0, runs qs 0, 0, e, rfl, ⟨.inl (SqL.of hl0), hR0⟩, hrl, fun H1 l3 ts R s1 hl30 hl3 hD hS => ?_⟩
    walk_at "go"
    refine ⟨l3, rfl, ⟨_, SqL.of hl3⟩, ?_⟩
    have hlen := hS.len
    refine list_of (xs := ts.map V.ref) (fun i σ' H' => ∃ v1 v2 v3 v4 v5 v6, σ' = [some (.ref l1), some (.ref l2), some (.int e), some (.int (sumS (fun p d => p.2 * (heldV ra d).getD 0) ((spanR R 0 e).reverse.take i))), v1, v2, v3, v4, v5, v6] ∧ Same H1 H')
      ⟨_, _, _, _, _, _, rfl, Same.refl _⟩ (fun i σ' H' ⟨_, _, _, _, _, _, _, sm⟩ => SqL.of (sm _ _ hl3)) ?_ ?_
    · rintro i x σ' H' hx ⟨v1, v2, v3, v4, v5, v6, rfl, sm⟩
      have hi : i < ts.length := by
        have q := (List.getElem?_eq_some_iff.mp hx).1
        rw [List.length_map] at q
        exact q
      obtain ⟨sp, hsp⟩ : ∃ sp, (spanR R 0 e).reverse[i]? = some sp := ⟨_, List.getElem?_eq_getElem (by omega)⟩
      obtain ⟨a, p, q1, q2, q3⟩ := (hS.same sm).get hsp
      have ex : x = .ref a := by
        rw [List.getElem?_map, q1] at hx
        exact (Option.some.inj hx).symm
      subst ex
      obtain ⟨b1, b2, b3, b4, b5⟩ := spanR_in (span_at hsp)
      refine g_gtup q2 rfl ?_
      walk_at "go"
      refine g_forN (g_iL ?_)
      walk_at "go"
      refine ⟨l2, bs, ra, _, _, rfl, h2.same (s0.trans (s1.trans sm)), n2, fun H2 l4 ts2 R2 s2 hl40 hl4 hD2 hS2 => ?_⟩
      walk_at "go"
      refine ⟨l4, rfl, ⟨_, SqL.of hl4⟩, ?_⟩
      have hlen2 := hS2.len
      refine list_of (xs := ts2.map V.ref) (fun i2 σ' H' => ∃ v1 v2 v3, σ' = [some (.ref l1), some (.ref l2), some (.int e), some (.int (sumS (fun p d => p.2 * (heldV ra d).getD 0) ((spanR R 0 e).reverse.take i) + sumS (fun q d => sp.2.2.2 * q.2) ((spanR R2 sp.1 sp.2.1).reverse.take i2))), some (.int sp.1), some (.int sp.2.1), some (.ref p), v1, v2, v3] ∧ Same H2 H')
        ⟨_, _, _, by rw [List.take_zero, sumS_nil, Int.add_zero]; rfl, Same.refl _⟩ (fun i σ' H' ⟨_, _, _, _, sm⟩ => SqL.of (sm _ _ hl4)) ?_ ?_
      · rintro i2 x σ' H3 hx ⟨v1, v2, v3, rfl, sm3⟩
        have hi2 : i2 < ts2.length := by
          have q := (List.getElem?_eq_some_iff.mp hx).1
          rw [List.length_map] at q
          exact q
        obtain ⟨sq, hsq⟩ : ∃ sq, (spanR R2 sp.1 sp.2.1).reverse[i2]? = some sq := ⟨_, List.getElem?_eq_getElem (by omega)⟩
        obtain ⟨a2, p2, r1, r2, r3⟩ := (hS2.same sm3).get hsq
        have ex : x = .ref a2 := by
          rw [List.getElem?_map, r1] at hx
          exact (Option.some.inj hx).symm
        subst ex
        obtain ⟨c1, c2, c3, c4, c5⟩ := spanR_in (span_at hsq)
        have hga := hr.1 _ (mem_row ((hD2.mem _).mp c4))
        refine g_gtup r2 rfl ?_
        walk_at "go"
        refine r_ixT (same_sqT (s2.trans sm3) q3) at1 ?_
        walk_at "go"
        refine r_ixT r3 at1 ?_
        walk_at "go"
        refine ⟨some (.int sq.1), some (.int sq.2.1), some (.ref p2), ?_, sm3⟩
        rw [sumS_take hsq, ← Int.add_assoc, dsum_const (by omega)]
        rfl
      · rintro σ' H3 ⟨v1, v2, v3, rfl, sm3⟩
        have es : sumS (fun q d => sp.2.2.2 * q.2) ((spanR R2 sp.1 sp.2.1).reverse.take (ts2.map V.ref).length) = dsum ((fun (p : Int × Int) d => p.2 * (heldV ra d).getD 0) sp.2.2) sp.1 sp.2.1 := by
          rw [List.length_map, hlen2, List.take_length, sumS_rev, span_sumH _ hD2]
          refine dsum_congr fun d d1 d2 => ?_
          obtain ⟨_, x1, g1, _, _, z3, z4, _, _⟩ := hr.held (d := d) (by omega)
          rw [z4]
          show sp.2.2.2 * g1 = sp.2.2.2 * (heldV ra d).getD 0
          rw [z3]
          rfl
        rw [es, ← sumS_take hsp]
        exact ⟨_, _, _, _, _, _, rfl, (sm.trans s2).trans sm3⟩
    · rintro σ' H' ⟨v1, v2, v3, v4, v5, v6, rfl, sm⟩
      have es : sumS (fun (p : Int × Int) d => p.2 * (heldV ra d).getD 0) ((spanR R 0 e).reverse.take (ts.map V.ref).length) = grownS ms ra 0 e := by
        rw [List.length_map, hlen, List.take_length, sumS_rev, span_sumH _ hD]
        refine dsum_congr fun d d1 d2 => ?_
        have hb := runs_holds hsort d
        rw [bal_perm hperm] at hb
        rw [← hb]
        cases pairH (runs qs 0) d with
        | none => exact (Int.zero_mul _).symm
        | some p => rfl
      rw [es]
      walk_at "go"
      exact k _ (s0.trans (s1.trans sm))
theorem ok_l_cell_at (T : Txt K mg) : FnOk P w K mg base (L2.CX P w) 1 T.f_l_cell_at T.fd_l_cell_at ["_law_script", "_law_k"] (sp_l_cell_at K) := by
  refine T.F_l_cell_at.okX sc_l_cell_at (fun vs H Q E h => ?_) (fun cdv A outer s H vs Q E hr h => ?_)
  · first | (obtain ⟨_, rfl, _⟩ := h; rfl) | (obtain ⟨_, _, rfl, _⟩ := h; rfl) | (obtain ⟨_, _, _, rfl, _⟩ := h; rfl) | (obtain ⟨_, _, _, _, rfl, _⟩ := h; rfl) | (obtain ⟨_, _, _, _, _, rfl, _⟩ := h; rfl) | (obtain ⟨_, _, _, _, _, _, rfl, _⟩ := h; rfl) | (obtain ⟨_, _, _, _, _, _, _, rfl, _⟩ := h; rfl) | (obtain ⟨_, _, _, _, _, _, _, _, rfl, _⟩ := h; rfl) | (obtain ⟨_, _, _, _, _, _, _, _, _, rfl, _⟩ := h; rfl) | (obtain ⟨_, _, _, _, _, _, _, _, _, _, rfl, _⟩ := h; rfl) | (obtain ⟨_, _, _, _, _, _, _, _, _, _, _, rfl, _⟩ := h; rfl) | (obtain ⟨_, _, _, _, _, _, _, _, _, _, _, _, rfl, _⟩ := h; rfl) | (obtain ⟨_, _, _, _, _, _, _, _, _, _, _, _, _, rfl, _⟩ := h; rfl) | (obtain ⟨_, _, _, _, _, _, _, _, _, _, _, _, _, _, rfl, _⟩ := h; rfl) | (obtain ⟨_, _, _, _, _, _, _, _, _, _, _, _, _, _, _, rfl, _⟩ := h; rfl)
  · refine ⟨_, (pss_cons (ps_if (pt_cmpR op_lt (pv 1) (pe_callB (show CallR _ (.builtin "len") (rLen K) from call_lenA) (by rfl) T.n_len (by decide +kernel) (pa_cons (pv 0) pa_nil)) (nomark _))
  (pss_one (ps_ret (pe_ix (show IxR _ (rIx2 K) from ix_lt) (pv 0) (pv 1) (fun _ _ => rfl))))
  pss_nil)
  (pss_one (ps_ret pe_int))), ?_⟩
    obtain ⟨a, ns, k, rfl, hS, hk, q⟩ := h
    obtain ⟨j, rfl⟩ : ∃ j : Nat, k = (j : Int) := ⟨k.toNat, by omega⟩
    walk_at "go"
    refine ⟨a, _, rfl, .inl hS, ?_⟩
    walk_at "go"
    rw [List.length_map]
    refine g_ite (fun c => ?_) (fun c => ?_)
    · walk_at "go"
      have hj : j < ns.length := by omega
      have e : cell ns (j : Int) = ns[j] := by simp [cell, hj]
      rw [e] at q
      exact r_ixL hS (atI_nat (by rw [List.getElem?_map, List.getElem?_eq_getElem hj]; rfl)) q
    · walk_at "go"
      have e : cell ns (j : Int) = 0 := by
        have hj : ns.length ≤ j := by omega
        simp [cell, List.getD, List.getElem?_eq_none hj]
      rw [e] at q
      exact q
theorem ok_l_whole (T : Txt K mg) : FnOk P w K mg base (L2.CX P w) 1 T.f_l_whole T.fd_l_whole ["_law_found"] (sp_l_whole) := by
  refine T.F_l_whole.okX sc_l_whole (fun vs H Q E h => ?_) (fun cdv A outer s H vs Q E hr h => ?_)
  · first | (obtain ⟨_, rfl, _⟩ := h; rfl) | (obtain ⟨_, _, rfl, _⟩ := h; rfl) | (obtain ⟨_, _, _, rfl, _⟩ := h; rfl) | (obtain ⟨_, _, _, _, rfl, _⟩ := h; rfl) | (obtain ⟨_, _, _, _, _, rfl, _⟩ := h; rfl) | (obtain ⟨_, _, _, _, _, _, rfl, _⟩ := h; rfl) | (obtain ⟨_, _, _, _, _, _, _, rfl, _⟩ := h; rfl) | (obtain ⟨_, _, _, _, _, _, _, _, rfl, _⟩ := h; rfl) | (obtain ⟨_, _, _, _, _, _, _, _, _, rfl, _⟩ := h; rfl) | (obtain ⟨_, _, _, _, _, _, _, _, _, _, rfl, _⟩ := h; rfl) | (obtain ⟨_, _, _, _, _, _, _, _, _, _, _, rfl, _⟩ := h; rfl) | (obtain ⟨_, _, _, _, _, _, _, _, _, _, _, _, rfl, _⟩ := h; rfl) | (obtain ⟨_, _, _, _, _, _, _, _, _, _, _, _, _, rfl, _⟩ := h; rfl) | (obtain ⟨_, _, _, _, _, _, _, _, _, _, _, _, _, _, rfl, _⟩ := h; rfl) | (obtain ⟨_, _, _, _, _, _, _, _, _, _, _, _, _, _, _, rfl, _⟩ := h; rfl)
  · refine ⟨_, (pss_one (ps_ret (pe_and (pe_callB (show CallR _ (.builtin "isinstance") (rIsi K) from call_isi) (by rfl) T.n_isinstance (by decide +kernel) (pa_cons (pv 0) (pa_cons (pe_bltn (v := .ty "int") (by rfl) T.n_int (by decide +kernel) rfl) pa_nil))) (pe_one (pe_not (pe_callB (show CallR _ (.builtin "isinstance") (rIsi K) from call_isi) (by rfl) T.n_isinstance (by decide +kernel) (pa_cons (pv 0) (pa_cons (pe_bltn (v := .ty "bool") (by rfl) T.n_bool (by decide +kernel) rfl) pa_nil)))))))), ?_⟩
    obtain ⟨x, rfl, hx, k⟩ := h
    obtain ⟨n, ht, h1, h2⟩ := thing_ty (K := K) hx
    walk_at "go"
    refine ⟨x, .ty "int", _, _, _, rfl, .ty _, ht, kit_ty h1, ?_⟩
    walk_at "go"
    refine g_iteB (fun c => ?_) (fun c => ?_)
    · walk_at "go"
      refine ⟨x, .ty "bool", _, _, _, rfl, .ty _, ht, kit_ty h2, ?_⟩
      refine ⟨_, rfl, ?_⟩
      cases e : isB x with
      | true => rw [isI_not e] at k; exact k
      | false => rw [e, Bool.or_false] at c; rw [c] at k; exact k
    · rw [(Bool.or_eq_false_iff.mp c).1] at k
      exact k
theorem ok_l_mix (T : Txt K mg) : FnOk P w K mg base (L2.CX P w) 1 T.f_l_mix T.fd_l_mix ["_law_number", "_law_k"] (sp_l_mix) := by
  refine T.F_l_mix.okX sc_l_mix (fun vs H Q E h => ?_) (fun cdv A outer s H vs Q E hr h => ?_)
  · first | (obtain ⟨_, rfl, _⟩ := h; rfl) | (obtain ⟨_, _, rfl, _⟩ := h; rfl) | (obtain ⟨_, _, _, rfl, _⟩ := h; rfl) | (obtain ⟨_, _, _, _, rfl, _⟩ := h; rfl) | (obtain ⟨_, _, _, _, _, rfl, _⟩ := h; rfl) | (obtain ⟨_, _, _, _, _, _, rfl, _⟩ := h; rfl) | (obtain ⟨_, _, _, _, _, _, _, rfl, _⟩ := h; rfl) | (obtain ⟨_, _, _, _, _, _, _, _, rfl, _⟩ := h; rfl) | (obtain ⟨_, _, _, _, _, _, _, _, _, rfl, _⟩ := h; rfl) | (obtain ⟨_, _, _, _, _, _, _, _, _, _, rfl, _⟩ := h; rfl) | (obtain ⟨_, _, _, _, _, _, _, _, _, _, _, rfl, _⟩ := h; rfl) | (obtain ⟨_, _, _, _, _, _, _, _, _, _, _, _, rfl, _⟩ := h; rfl) | (obtain ⟨_, _, _, _, _, _, _, _, _, _, _, _, _, rfl, _⟩ := h; rfl) | (obtain ⟨_, _, _, _, _, _, _, _, _, _, _, _, _, _, rfl, _⟩ := h; rfl) | (obtain ⟨_, _, _, _, _, _, _, _, _, _, _, _, _, _, _, rfl, _⟩ := h; rfl)
  · refine ⟨_, (pss_cons (ps_set (i := 2) sc_l_mix.nd rfl (Or.inl rfl) (pe_op op_mod (pe_op op_plus (pe_op op_plus (pe_op op_mul (pv 0) pe_int) (pe_op op_mul (pv 1) pe_int)) pe_int) pe_int))
  (pss_one (ps_ret (pe_op op_mod (pe_op op_plus (pe_op op_plus (pe_op op_mul (pv 2) (pv 2)) (pe_op op_mul pe_int (pv 2))) (pv 1)) pe_int)))), ?_⟩
    obtain ⟨n, m, rfl, k⟩ := h
    walk_at "go"
    exact k _ (by omega) (by omega)
theorem ok_l_base (T : Txt K mg) : FnOk P w K mg base (L2.CX P w) 1 T.f_l_base T.fd_l_base ["_law_cell"] (sp_l_base) := by
  refine T.F_l_base.okX sc_l_base (fun vs H Q E h => ?_) (fun cdv A outer s H vs Q E hr h => ?_)
  · first | (obtain ⟨_, rfl, _⟩ := h; rfl) | (obtain ⟨_, _, rfl, _⟩ := h; rfl) | (obtain ⟨_, _, _, rfl, _⟩ := h; rfl) | (obtain ⟨_, _, _, _, rfl, _⟩ := h; rfl) | (obtain ⟨_, _, _, _, _, rfl, _⟩ := h; rfl) | (obtain ⟨_, _, _, _, _, _, rfl, _⟩ := h; rfl) | (obtain ⟨_, _, _, _, _, _, _, rfl, _⟩ := h; rfl) | (obtain ⟨_, _, _, _, _, _, _, _, rfl, _⟩ := h; rfl) | (obtain ⟨_, _, _, _, _, _, _, _, _, rfl, _⟩ := h; rfl) | (obtain ⟨_, _, _, _, _, _, _, _, _, _, rfl, _⟩ := h; rfl) | (obtain ⟨_, _, _, _, _, _, _, _, _, _, _, rfl, _⟩ := h; rfl) | (obtain ⟨_, _, _, _, _, _, _, _, _, _, _, _, rfl, _⟩ := h; rfl) | (obtain ⟨_, _, _, _, _, _, _, _, _, _, _, _, _, rfl, _⟩ := h; rfl) | (obtain ⟨_, _, _, _, _, _, _, _, _, _, _, _, _, _, rfl, _⟩ := h; rfl) | (obtain ⟨_, _, _, _, _, _, _, _, _, _, _, _, _, _, _, rfl, _⟩ := h; rfl)
  · refine ⟨_, (pss_cons (ps_set (i := 1) sc_l_base.nd rfl (Or.inl rfl) (pe_lst (pa_cons pe_int (pa_cons pe_int (pa_cons pe_int (pa_cons pe_int (pa_cons pe_int (pa_cons pe_int (pa_cons pe_int (pa_cons pe_int (pa_cons pe_int pa_nil)))))))))))
  (pss_cons (ps_if (pt_cmpR (show OpR _ (compareOp .Eq) (rEqA K) from op_eqA hr.units) (pe_op op_mod (pv 0) pe_int) pe_int (nomark _))
  (pss_one (ps_ret (pe_ix (show IxR _ (rIx2 K) from ix_lt) (pv 1) (pe_op op_mod (pe_op op_fdiv (pv 0) pe_int) pe_int) (fun _ _ => rfl))))
  pss_nil)
  (pss_one (ps_ret (pe_op op_mod (pe_op op_fdiv (pv 0) pe_int) pe_int))))), ?_⟩
    obtain ⟨c, rfl, k⟩ := h
    walk_at "go"
    refine ⟨by walk_at "sz", fun p hp => ?_⟩
    walk_at "go"
    refine g_ite (fun c1 => ?_) (fun c1 => ?_)
    · walk_at "go"
      refine r_ixL (SqL.of upd_same) (at_modI (ns := [0, 20, 50, 360, 1140, 36500, 36560, 73040, 99600]) _ rfl (by decide)) ?_
      have b := getD_all (R := fun d => 0 ≤ d ∧ d ≤ 99600) (l := [0, 20, 50, 360, 1140, 36500, 36560, 73040, 99600]) (c / 3 % 9).toNat (by decide) (by decide)
      exact k _ b.1 b.2 _ (by walk_at "sm")
    · walk_at "go"
      exact k _ (by omega) (by omega) _ (by walk_at "sm")
theorem ok_l_held (T : Txt K mg) : FnOk P w K mg base (L2.CX P w) 1 T.f_l_held T.fd_l_held ["_law_terms", "_law_day"] (sp_l_held K) := by
  refine T.F_l_held.okX sc_l_held (fun vs H Q E h => ?_) (fun cdv A outer s H vs Q E hr h => ?_)
  · first | (obtain ⟨_, rfl, _⟩ := h; rfl) | (obtain ⟨_, _, rfl, _⟩ := h; rfl) | (obtain ⟨_, _, _, rfl, _⟩ := h; rfl) | (obtain ⟨_, _, _, _, rfl, _⟩ := h; rfl) | (obtain ⟨_, _, _, _, _, rfl, _⟩ := h; rfl) | (obtain ⟨_, _, _, _, _, _, rfl, _⟩ := h; rfl) | (obtain ⟨_, _, _, _, _, _, _, rfl, _⟩ := h; rfl) | (obtain ⟨_, _, _, _, _, _, _, _, rfl, _⟩ := h; rfl) | (obtain ⟨_, _, _, _, _, _, _, _, _, rfl, _⟩ := h; rfl) | (obtain ⟨_, _, _, _, _, _, _, _, _, _, rfl, _⟩ := h; rfl) | (obtain ⟨_, _, _, _, _, _, _, _, _, _, _, rfl, _⟩ := h; rfl) | (obtain ⟨_, _, _, _, _, _, _, _, _, _, _, _, rfl, _⟩ := h; rfl) | (obtain ⟨_, _, _, _, _, _, _, _, _, _, _, _, _, rfl, _⟩ := h; rfl) | (obtain ⟨_, _, _, _, _, _, _, _, _, _, _, _, _, _, rfl, _⟩ := h; rfl) | (obtain ⟨_, _, _, _, _, _, _, _, _, _, _, _, _, _, _, rfl, _⟩ := h; rfl)
  · refine ⟨_, (pss_cons (ps_set (i := 2) sc_l_held.nd rfl (Or.inl rfl) pe_non)
  (pss_cons (ps_for (passes_of rfl) rfl (show PI _ _ _ (iLT K _) from pi_lt (pv 0)) (pg_name (i := 3) sc_l_held.nd rfl (Or.inl rfl))
  (pss_one (ps_if (PW.pt (pw_and (pt_cmpR op_le (pe_ix (show IxR _ (rIx2 K) from ix_lt) (pv 3) pe_int (fun _ _ => rfl)) (pv 1) (nomark _)) (pw_and1 (PW.pt (pw_or (pt_cmpR op_isA (pv 2) pe_non (nomark _)) (pw_or1 (pt_cmpR op_ge (pe_ix (show IxR _ (rIx2 K) from ix_lt) (pv 3) pe_int (fun _ _ => rfl)) (pe_ix (show IxR _ (rIx2 K) from ix_lt) (pv 2) pe_int (fun _ _ => rfl)) (nomark _))))))))
  (pss_one (ps_set (i := 2) sc_l_held.nd rfl (Or.inl rfl) (pv 3)))
  pss_nil)))
  (pss_one (ps_ret (pv 2))))), ?_⟩
    obtain ⟨l, day, as, ps, rfl, hR, k⟩ := h
    have hlen := hR.2.len
    walk_at "go"
    refine g_forQ (a := l) (xs := as.map V.ref) (fun i σ' H' => H = H' ∧ ∃ v, σ' = [some (.ref l), some (.int day), some (pairV as (bestN ps day i)), v]) (fun Q' q => by walk_at "go"; exact q) hR.1 ⟨rfl, none, rfl⟩
      (fun i σ' H' ⟨e, _⟩ => e ▸ Same.refl H) ?_ ?_
    · rintro i x σ' H' hx ⟨rfl, v, rfl⟩
      have hi : i < as.length := by
        have q := (List.getElem?_eq_some_iff.mp hx).1
        rw [List.length_map] at q
        exact q
      obtain ⟨a, p, h1, h2, h3⟩ := hR.get (i := i) (by omega)
      have ex : x = .ref a := by
        rw [List.getElem?_map, h1] at hx
        exact (Option.some.inj hx).symm
      subst ex
      have eb : bestN ps day (i + 1) = bestStep ps day (bestN ps day i) i := rfl
      have gp : ps.getD i (0, 0) = p := getD_of h2
      have ga : as.getD i 0 = a := getD_of h1
      walk_at "gos"
      cases e : bestN ps day i with
      | none =>
        refine g_ifB (decide (p.1 ≤ day)) (fun Q' q => ?_) (fun c => ?_) (fun c => ?_)
        · walk_at "go"
          refine r_ixT h3 at0 ?_
          walk_at "go"
          refine g_ite (fun c2 => ?_) (fun c2 => ?_)
          · walk_at "go"
            refine g_ite (fun _ => ?_) (fun z => absurd rfl z)
            rw [decide_eq_true c2] at q
            exact q
          · rw [decide_eq_false c2] at q
            exact q
        · walk_at "go"
          have c2 : p.1 ≤ day := of_decide_eq_true c
          have e2 : bestN ps day (i + 1) = some i := by
            rw [eb, e]
            unfold bestStep
            dsimp only
            rw [gp]
            exact if_pos c2
          refine ⟨rfl, some (.ref a), ?_⟩
          rw [e2]
          show _ = [_, _, some (V.ref (as.getD i 0)), _]
          rw [ga]
          rfl
        · walk_at "go"
          have c2 : ¬ p.1 ≤ day := of_decide_eq_false c
          have e2 : bestN ps day (i + 1) = none := by
            rw [eb, e]
            unfold bestStep
            dsimp only
            rw [gp]
            exact if_neg c2
          refine ⟨rfl, some (.ref a), ?_⟩
          rw [e2]
          rfl
      | some j =>
        have hj := bestN_lt e
        obtain ⟨b, pb, j1, j2, j3⟩ := hR.get (i := j) (by omega)
        have gpb : ps.getD j (0, 0) = pb := getD_of j2
        have gab : as.getD j 0 = b := getD_of j1
        have ev : pairV as (some j) = .ref b := by
          show V.ref (as.getD j 0) = _
          rw [gab]
        rw [ev]
        refine g_ifB (decide (p.1 ≤ day ∧ pb.1 ≤ p.1)) (fun Q' q => ?_) (fun c => ?_) (fun c => ?_)
        · walk_at "go"
          refine r_ixT h3 at0 ?_
          walk_at "go"
          refine g_ite (fun c2 => ?_) (fun c2 => ?_)
          · walk_at "go"
            refine g_ite (fun z => by cases z) (fun _ => ?_)
            walk_at "go"
            refine r_ixT h3 at0 ?_
            walk_at "go"
            refine r_ixT j3 at0 ?_
            walk_at "go"
            have e3 : decide (p.1 ≤ day ∧ pb.1 ≤ p.1) = decide (pb.1 ≤ p.1) := by simp [c2]
            rw [e3] at q
            exact q
          · have e3 : decide (p.1 ≤ day ∧ pb.1 ≤ p.1) = false := by simp [c2]
            rw [e3] at q
            exact q
        · walk_at "go"
          have e2 : bestN ps day (i + 1) = some i := by
            rw [eb, e]
            unfold bestStep
            dsimp only
            rw [gp, gpb]
            exact if_pos (of_decide_eq_true c)
          refine ⟨rfl, some (.ref a), ?_⟩
          rw [e2]
          show _ = [_, _, some (V.ref (as.getD i 0)), _]
          rw [ga]
          rfl
        · walk_at "go"
          have e2 : bestN ps day (i + 1) = some j := by
            rw [eb, e]
            unfold bestStep
            dsimp only
            rw [gp, gpb]
            exact if_neg (of_decide_eq_false c)
          refine ⟨rfl, some (.ref a), ?_⟩
          rw [e2, ev]
          rfl
    · rintro σ' H' ⟨rfl, v, rfl⟩
      walk_at "go"
      rw [List.length_map, hlen]
      exact k
theorem ok_l_moves (T : Txt K mg) : FnOk P w K mg base (L2.CX P w) 2 T.f_l_moves T.fd_l_moves ["_law_script", "_law_base_here"] (sp_l_moves K) := by
  refine T.F_l_moves.okX sc_l_moves (fun vs H Q E h => ?_) (fun cdv A outer s H vs Q E hr h => ?_)
  · first | (obtain ⟨_, rfl, _⟩ := h; rfl) | (obtain ⟨_, _, rfl, _⟩ := h; rfl) | (obtain ⟨_, _, _, rfl, _⟩ := h; rfl) | (obtain ⟨_, _, _, _, rfl, _⟩ := h; rfl) | (obtain ⟨_, _, _, _, _, rfl, _⟩ := h; rfl) | (obtain ⟨_, _, _, _, _, _, rfl, _⟩ := h; rfl) | (obtain ⟨_, _, _, _, _, _, _, rfl, _⟩ := h; rfl) | (obtain ⟨_, _, _, _, _, _, _, _, rfl, _⟩ := h; rfl) | (obtain ⟨_, _, _, _, _, _, _, _, _, rfl, _⟩ := h; rfl) | (obtain ⟨_, _, _, _, _, _, _, _, _, _, rfl, _⟩ := h; rfl) | (obtain ⟨_, _, _, _, _, _, _, _, _, _, _, rfl, _⟩ := h; rfl) | (obtain ⟨_, _, _, _, _, _, _, _, _, _, _, _, rfl, _⟩ := h; rfl) | (obtain ⟨_, _, _, _, _, _, _, _, _, _, _, _, _, rfl, _⟩ := h; rfl) | (obtain ⟨_, _, _, _, _, _, _, _, _, _, _, _, _, _, rfl, _⟩ := h; rfl) | (obtain ⟨_, _, _, _, _, _, _, _, _, _, _, _, _, _, _, rfl, _⟩ := h; rfl)
  · refine ⟨_, (pss_cons (ps_set (i := 2) sc_l_moves.nd rfl (Or.inl rfl) (pe_op op_mod (pe_callS (ok_l_cell_at T) hr (by rfl) T.g_l_cell_at T.F_l_cell_at.kp T.b_l_cell_at (fun σ => passAt (takes_of rfl rfl rfl rfl) σ) (by exact (pa_cons (pv 0) (pa_cons pe_int pa_nil)))) pe_int))
  (Evl.pss_cut (ps_if (pt_cmpR (show OpR _ (compareOp .Eq) (rEqA K) from op_eqA hr.units) (pe_op op_mod (pe_op op_fdiv (pe_callS (ok_l_cell_at T) hr (by rfl) T.g_l_cell_at T.F_l_cell_at.kp T.b_l_cell_at (fun σ => passAt (takes_of rfl rfl rfl rfl) σ) (by exact (pa_cons (pv 0) (pa_cons pe_int pa_nil)))) pe_int) pe_int) pe_int (nomark _))
  (pss_one (ps_set (i := 2) sc_l_moves.nd rfl (Or.inl rfl) (pe_op op_mul (pv 2) pe_int)))
  pss_nil)
  (pss_cons (ps_set (i := 3) sc_l_moves.nd rfl (Or.inl rfl) (pe_lst pa_nil))
  (pss_cons (ps_for (passes_of rfl) rfl (pi_range1 (by rfl) T.n_range (pa_cons (pv 2) pa_nil)) (pg_name (i := 4) sc_l_moves.nd rfl (Or.inl rfl))
  (pss_cons (ps_set (i := 5) sc_l_moves.nd rfl (Or.inl rfl) (pe_callS (ok_l_mix T) hr (by rfl) T.g_l_mix T.F_l_mix.kp T.b_l_mix (fun σ => passAt (takes_of rfl rfl rfl rfl) σ) (by exact (pa_cons (pe_callS (ok_l_cell_at T) hr (by rfl) T.g_l_cell_at T.F_l_cell_at.kp T.b_l_cell_at (fun σ => passAt (takes_of rfl rfl rfl rfl) σ) (by exact (pa_cons (pv 0) (pa_cons pe_int pa_nil)))) (pa_cons (pv 4) pa_nil)))))
  (pss_cons (ps_set (i := 6) sc_l_moves.nd rfl (Or.inl rfl) (pe_ix (show IxR _ (rIx2 K) from ix_lt) (pe_lst (pa_cons (pe_op op_mod (pe_op op_fdiv (pv 5) pe_int) pe_int) (pa_cons (pe_op op_pow pe_int pe_int) (pa_cons (pe_op op_mod (pe_op op_mul (pe_callS (ok_l_mix T) hr (by rfl) T.g_l_mix T.F_l_mix.kp T.b_l_mix (fun σ => passAt (takes_of rfl rfl rfl rfl) σ) (by exact (pa_cons (pv 5) (pa_cons pe_int pa_nil)))) pe_int) (pe_op op_plus (pe_op op_pow pe_int pe_int) pe_int)) pa_nil)))) (pe_op op_mod (pe_op op_fdiv (pv 5) pe_int) pe_int) (fun _ _ => rfl)))
  (pss_one (ps_expr (pe_bm PySem.F.plainAttrs_list PySem.F.slot_list_append PySem.F.type_list_append mt_append (pv 3) (pa_cons (pe_tup (pa_cons (pe_op op_plus (pv 1) (pe_op op_mod (pv 5) pe_int)) (pa_cons (pe_op op_mul (pv 6) (pe_op op_sub pe_int (pe_op op_mul pe_int (pe_op op_mod (pe_op op_fdiv (pv 5) pe_int) pe_int)))) pa_nil))) pa_nil)))))))
  (pss_one (ps_ret (pv 3))))))), ?_⟩
    obtain ⟨a, ns, b, rfl, hS, hb, k⟩ := h
    walk_at "go"
    refine ⟨a, ns, _, rfl, hS, by decide, ?_⟩
    walk_at "go"
    refine g_tcut (fun σ' H' => ∃ many, σ' = [some (.ref a), some (.int b), some (.int many), none, none, none, none] ∧ H = H' ∧ 0 ≤ many ∧ many ≤ 40) ?_ ?_
    · walk_at "go"
      refine ⟨a, ns, _, rfl, hS, by decide, ?_⟩
      walk_at "go"
      refine g_ite (fun c => ?_) (fun c => ?_)
      · walk_at "go"
        exact ⟨_, rfl, rfl, by omega, by omega⟩
      · exact ⟨_, rfl, rfl, by omega, by omega⟩
    rintro σ' H' ⟨many, rfl, rfl, hm0, hm1⟩
    walk_at "go"
    refine ⟨by walk_at "sz", fun l hl => ?_⟩
    walk_at "go"
    refine g_forR1 (hi := many) (fun i σ' H' => ∃ v1 v2 v3 as ms, σ' = [some (.ref a), some (.int b), some (.int many), some (.ref l), v1, v2, v3] ∧ Same H H' ∧ H' l = some (.lst (as.map .ref)) ∧ PrT H' as ms ∧ ms.length = i ∧ ∀ p, p ∈ ms → b ≤ p.1) (fun Q' q => by walk_at "go"; exact q) (by omega)
      ⟨_, _, _, [], [], rfl, same_new hl, upd_same, .nil, rfl, fun p h => by cases h⟩ ?_ ?_
    · rintro i σ' H' hi ⟨v1, v2, v3, as, ms, rfl, sm, hl', hP, hn, hok⟩
      walk_at "go"
      refine ⟨a, ns, _, rfl, sm.seq hS, by decide, ?_⟩
      walk_at "go"
      refine ⟨_, _, rfl, fun z hz0 hz1 => ?_⟩
      walk_at "go"
      refine ⟨_, _, rfl, fun z2 hz20 hz21 => ?_⟩
      walk_at "go"
      refine ⟨by walk_at "sz", fun u hu => ?_⟩
      walk_at "go"
      refine r_ixL (SqL.of upd_same) (at_modI (ns := [z / 50 % 90000, 10 ^ (9 : Int).toNat, z2 * 997 % (10 ^ (9 : Int).toNat + 1)]) _ rfl (by decide)) ?_
      have s1 : Same H' (upd H' u (.lst [.int (z / 50 % 90000), .int (10 ^ (9 : Int).toNat), .int (z2 * 997 % (10 ^ (9 : Int).toNat + 1))])) := same_new hu
      have hl1 := s1 _ _ hl'
      have hP1 := hP.same s1
      generalize ([z / 50 % 90000, 10 ^ (9 : Int).toNat, z2 * 997 % (10 ^ (9 : Int).toNat + 1)] : List Int).getD (z / 7 % 3).toNat 0 = cents
      generalize upd H' u (.lst [.int (z / 50 % 90000), .int (10 ^ (9 : Int).toNat), .int (z2 * 997 % (10 ^ (9 : Int).toNat + 1))]) = H1 at s1 hl1 hP1 ⊢
      walk_at "go"
      refine ⟨.inl ⟨rfl, _, SqL.of hl1⟩, ?_⟩
      walk_at "go"
      refine ⟨by walk_at "sz", fun p hp => ?_⟩
      walk_at "go"
      have hlen := (hP.prs (K := K)).len
      refine ⟨l, _, _, rfl, rfl, (same_new hp) _ _ hl1, ?_, ?_⟩
      · rw [List.length_map]
        exact Nat.lt_of_lt_of_le (show as.length < 100 by omega) (by decide)
      · walk_at "go"
        have npl : p ≠ l := fun e => by rw [e, hl1] at hp; cases hp
        refine' ⟨_, _, _, as ++ [p], ms ++ [(?x, ?y)], rfl, same_mut ((sm.trans s1).trans (same_new hp)) hl, ?g1, ?g2, ?g3, ?g4⟩
        case g2 => exact PrT.append (PrT.one ((upd_ne npl).trans upd_same)) ((hP1.same (same_new hp)).mut ((same_new hp) _ _ hl1))
        case g1 =>
          rw [upd_same, List.map_append]
          rfl
        case g3 =>
          rw [List.length_append, hn]
          rfl
        case g4 =>
          intro q hq
          rcases List.mem_append.mp hq with hq | hq
          · exact hok q hq
          · rw [List.mem_singleton.mp hq]
            show b ≤ b + _
            omega
    · rintro σ' H' ⟨v1, v2, v3, as, ms, rfl, sm, hl', hP, hn, hok⟩
      walk_at "go"
      exact k l as ms H' sm hl hl' hP (by omega) hok
theorem ok_l_rates (T : Txt K mg) : FnOk P w K mg base (L2.CX P w) 2 T.f_l_rates T.fd_l_rates ["_law_script", "_law_base_here"] (sp_l_rates K) := by
  refine T.F_l_rates.okX sc_l_rates (fun vs H Q E h => ?_) (fun cdv A outer s H vs Q E hr h => ?_)
  · first | (obtain ⟨_, rfl, _⟩ := h; rfl) | (obtain ⟨_, _, rfl, _⟩ := h; rfl) | (obtain ⟨_, _, _, rfl, _⟩ := h; rfl) | (obtain ⟨_, _, _, _, rfl, _⟩ := h; rfl) | (obtain ⟨_, _, _, _, _, rfl, _⟩ := h; rfl) | (obtain ⟨_, _, _, _, _, _, rfl, _⟩ := h; rfl) | (obtain ⟨_, _, _, _, _, _, _, rfl, _⟩ := h; rfl) | (obtain ⟨_, _, _, _, _, _, _, _, rfl, _⟩ := h; rfl) | (obtain ⟨_, _, _, _, _, _, _, _, _, rfl, _⟩ := h; rfl) | (obtain ⟨_, _, _, _, _, _, _, _, _, _, rfl, _⟩ := h; rfl) | (obtain ⟨_, _, _, _, _, _, _, _, _, _, _, rfl, _⟩ := h; rfl) | (obtain ⟨_, _, _, _, _, _, _, _, _, _, _, _, rfl, _⟩ := h; rfl) | (obtain ⟨_, _, _, _, _, _, _, _, _, _, _, _, _, rfl, _⟩ := h; rfl) | (obtain ⟨_, _, _, _, _, _, _, _, _, _, _, _, _, _, rfl, _⟩ := h; rfl) | (obtain ⟨_, _, _, _, _, _, _, _, _, _, _, _, _, _, _, rfl, _⟩ := h; rfl)
  · refine ⟨_, (pss_cons (ps_set (i := 2) sc_l_rates.nd rfl (Or.inl rfl) (pe_lst (pa_cons (pe_tup (pa_cons pe_int (pa_cons (pe_ix (show IxR _ (rIx2 K) from ix_lt) (pe_lst (pa_cons pe_int (pa_cons pe_int (pa_cons (pe_op op_pow pe_int pe_int) (pa_cons pe_int pa_nil))))) (pe_op op_mod (pe_callS (ok_l_cell_at T) hr (by rfl) T.g_l_cell_at T.F_l_cell_at.kp T.b_l_cell_at (fun σ => passAt (takes_of rfl rfl rfl rfl) σ) (by exact (pa_cons (pv 0) (pa_cons pe_int pa_nil)))) pe_int) (fun _ _ => rfl)) pa_nil))) pa_nil)))
  (pss_cons (ps_for (passes_of rfl) rfl (pi_range1 (by rfl) T.n_range (pa_cons (pe_op op_mod (pe_op op_fdiv (pe_callS (ok_l_cell_at T) hr (by rfl) T.g_l_cell_at T.F_l_cell_at.kp T.b_l_cell_at (fun σ => passAt (takes_of rfl rfl rfl rfl) σ) (by exact (pa_cons (pv 0) (pa_cons pe_int pa_nil)))) pe_int) pe_int) pa_nil)) (pg_name (i := 3) sc_l_rates.nd rfl (Or.inl rfl))
  (pss_cons (ps_set (i := 4) sc_l_rates.nd rfl (Or.inl rfl) (pe_callS (ok_l_mix T) hr (by rfl) T.g_l_mix T.F_l_mix.kp T.b_l_mix (fun σ => passAt (takes_of rfl rfl rfl rfl) σ) (by exact (pa_cons (pe_callS (ok_l_cell_at T) hr (by rfl) T.g_l_cell_at T.F_l_cell_at.kp T.b_l_cell_at (fun σ => passAt (takes_of rfl rfl rfl rfl) σ) (by exact (pa_cons (pv 0) (pa_cons pe_int pa_nil)))) (pa_cons (pe_op op_plus pe_int (pv 3)) pa_nil)))))
  (pss_one (ps_expr (pe_bm PySem.F.plainAttrs_list PySem.F.slot_list_append PySem.F.type_list_append mt_append (pv 2) (pa_cons (pe_tup (pa_cons (pe_callB (call_max2 rfl) (by rfl) T.n_max (by decide +kernel) (pa_cons pe_int (pa_cons (pe_op op_plus (pe_op op_sub (pv 1) pe_int) (pe_op op_mod (pv 4) pe_int)) pa_nil))) (pa_cons (pe_op op_mod (pe_op op_fdiv (pv 4) pe_int) (pe_op op_plus (pe_op op_pow pe_int pe_int) pe_int)) pa_nil))) pa_nil))))))
  (pss_one (ps_ret (pv 2))))), ?_⟩
    obtain ⟨a, ns, b, rfl, hS, hb, k⟩ := h
    walk_at "go"
    refine ⟨by walk_at "sz", fun u hu => ?_⟩
    walk_at "go"
    refine ⟨a, ns, _, rfl, (same_new hu).seq hS, by decide, ?_⟩
    walk_at "go"
    refine r_ixL (SqL.of upd_same) (at_modI (ns := [0, 1, 10 ^ (4 : Int).toNat, 350]) _ rfl (by decide)) ?_
    have hg := getD_all (R := fun d => 0 ≤ d ∧ d ≤ 10000) (l := [0, 1, 10 ^ (4 : Int).toNat, 350]) (cell ns 3 % 4).toNat (by decide) (by decide)
    generalize ([0, 1, 10 ^ (4 : Int).toNat, 350] : List Int).getD (cell ns 3 % 4).toNat 0 = g0 at hg ⊢
    walk_at "go"
    have s0 : Same H (upd H u (.lst [.int 0, .int 1, .int (10 ^ (4 : Int).toNat), .int 350])) := same_new hu
    generalize upd H u (.lst [.int 0, .int 1, .int (10 ^ (4 : Int).toNat), .int 350]) = H0 at s0 ⊢
    refine ⟨by walk_at "sz", fun p0 hp0 => ?_⟩
    walk_at "go"
    refine ⟨by walk_at "sz", fun l hl => ?_⟩
    walk_at "go"
    have nl0 : p0 ≠ l := fun e => by rw [← e, upd_same] at hl; cases hl
    have hl0 : H l = none := (s0.trans (same_new hp0)).free hl
    have s2 := (s0.trans (same_new (o := .tup [.int 0, .int g0]) hp0)).trans (same_new (o := .lst [.ref p0]) hl)
    refine g_forR1 (hi := cell ns 3 / 4 % 5) (fun i σ' H' => ∃ v1 v2 as ps, σ' = [some (.ref a), some (.int b), some (.ref l), v1, v2] ∧ Same H H' ∧ H' l = some (.lst (as.map .ref)) ∧ Prs K H' as ps ∧ ps.length = i + 1 ∧ RatesOk ps) (fun Q' q => by walk_at "go"; refine ⟨a, ns, _, rfl, s2.seq hS, by decide, ?_⟩; walk_at "go"; exact q) (by omega)
      ⟨_, _, [p0], [(0, g0)], rfl, s2, upd_same, Prs.one (SqT.of ((upd_ne nl0).trans upd_same)), rfl, ⟨fun p hp => ?_, g0, [], rfl⟩⟩ ?_ ?_
    · rw [List.mem_singleton.mp hp]
      exact ⟨Int.le_refl _, hg⟩
    · rintro i σ' H' hi ⟨v1, v2, as, ps, rfl, sm, hl', hP, hn, hok⟩
      walk_at "go"
      refine ⟨a, ns, _, rfl, sm.seq hS, by decide, ?_⟩
      walk_at "go"
      refine ⟨_, _, rfl, fun z hz0 hz1 => ?_⟩
      walk_at "go"
      refine ⟨.inl ⟨rfl, _, SqL.of hl'⟩, ?_⟩
      walk_at "go"
      refine ⟨_, _, rfl, ?_⟩
      walk_at "go"
      refine ⟨by walk_at "sz", fun p hp => ?_⟩
      walk_at "go"
      have hlen := hP.len
      refine ⟨l, _, _, rfl, rfl, (same_new hp) _ _ hl', ?_, ?_⟩
      · rw [List.length_map]
        exact Nat.lt_of_lt_of_le (show as.length < 100 by omega) (by decide)
      · walk_at "go"
        have npl : p ≠ l := fun e => by rw [e, hl'] at hp; cases hp
        refine' ⟨_, _, as ++ [p], ps ++ [(?x, ?y)], rfl, same_mut (sm.trans (same_new hp)) hl0, ?g1, ?g2, ?g3, ?g4⟩
        case g2 => exact Prs.append (Prs.one (SqT.of ((upd_ne npl).trans upd_same))) ((hP.same (same_new hp)).mut ((same_new hp) _ _ hl'))
        case g1 =>
          rw [upd_same, List.map_append]
          rfl
        case g3 =>
          rw [List.length_append, hn]
          rfl
        case g4 =>
          refine ⟨fun q hq => ?_, ?_⟩
          · rcases List.mem_append.mp hq with hq | hq
            · exact hok.1 q hq
            · rw [List.mem_singleton.mp hq]
              refine ⟨?_, ?_⟩
              · dsimp only
                split <;> omega
              · show 0 ≤ z / 54 % (10 ^ (4 : Int).toNat + 1) ∧ z / 54 % (10 ^ (4 : Int).toNat + 1) ≤ 10000
                rw [show (10 : Int) ^ (4 : Int).toNat + 1 = 10001 by decide]
                omega
          · obtain ⟨g, r', h0⟩ := hok.2
            exact ⟨g, _, by rw [h0]; rfl⟩
    · rintro σ' H' ⟨v1, v2, as, ps, rfl, sm, hl', hP, hn, hok⟩
      walk_at "go"
      exact k l as ps H' sm hl0 hl' hP (by omega) hok
theorem ok_l_balance (T : Txt K mg) : FnOk P w K mg base (L2.CX P w) 1 T.f_l_balance T.fd_l_balance ["_law_moves_here", "_law_day"] (sp_l_balance K) := by
  refine T.F_l_balance.okX sc_l_balance (fun vs H Q E h => ?_) (fun cdv A outer s H vs Q E hr h => ?_)
  · first | (obtain ⟨_, rfl, _⟩ := h; rfl) | (obtain ⟨_, _, rfl, _⟩ := h; rfl) | (obtain ⟨_, _, _, rfl, _⟩ := h; rfl) | (obtain ⟨_, _, _, _, rfl, _⟩ := h; rfl) | (obtain ⟨_, _, _, _, _, rfl, _⟩ := h; rfl) | (obtain ⟨_, _, _, _, _, _, rfl, _⟩ := h; rfl) | (obtain ⟨_, _, _, _, _, _, _, rfl, _⟩ := h; rfl) | (obtain ⟨_, _, _, _, _, _, _, _, rfl, _⟩ := h; rfl) | (obtain ⟨_, _, _, _, _, _, _, _, _, rfl, _⟩ := h; rfl) | (obtain ⟨_, _, _, _, _, _, _, _, _, _, rfl, _⟩ := h; rfl) | (obtain ⟨_, _, _, _, _, _, _, _, _, _, _, rfl, _⟩ := h; rfl) | (obtain ⟨_, _, _, _, _, _, _, _, _, _, _, _, rfl, _⟩ := h; rfl) | (obtain ⟨_, _, _, _, _, _, _, _, _, _, _, _, _, rfl, _⟩ := h; rfl) | (obtain ⟨_, _, _, _, _, _, _, _, _, _, _, _, _, _, rfl, _⟩ := h; rfl) | (obtain ⟨_, _, _, _, _, _, _, _, _, _, _, _, _, _, _, rfl, _⟩ := h; rfl)
  · refine ⟨_, (pss_cons (ps_set (i := 2) sc_l_balance.nd rfl (Or.inl rfl) pe_int)
  (pss_cons (ps_for (passes_of rfl) rfl (show PI _ _ _ (iLT K _) from pi_lt (pv 0)) (pg_name (i := 3) sc_l_balance.nd rfl (Or.inl rfl))
  (pss_one (ps_if (pt_cmpR op_le (pe_ix (show IxR _ (rIx2 K) from ix_lt) (pv 3) pe_int (fun _ _ => rfl)) (pv 1) (nomark _))
  (pss_one (ps_set (i := 2) sc_l_balance.nd rfl (Or.inl rfl) (pe_op op_plus (pv 2) (pe_ix (show IxR _ (rIx2 K) from ix_lt) (pv 3) pe_int (fun _ _ => rfl)))))
  pss_nil)))
  (pss_one (ps_ret (pv 2))))), ?_⟩
    obtain ⟨l, as, ms, d, rfl, hR, k⟩ := h
    have hlen := hR.2.len
    walk_at "go"
    refine g_forQ (a := l) (xs := as.map V.ref) (fun i σ' H' => H = H' ∧ ∃ v, σ' = [some (.ref l), some (.int d), some (.int (bal (ms.take i) d)), v]) (fun Q' q => by walk_at "go"; exact q) hR.1 ⟨rfl, none, rfl⟩
      (fun i σ' H' ⟨e, _⟩ => e ▸ Same.refl H) ?_ ?_
    · rintro i x σ' H' hx ⟨rfl, v, rfl⟩
      have hi : i < as.length := by
        have q := (List.getElem?_eq_some_iff.mp hx).1
        rw [List.length_map] at q
        exact q
      obtain ⟨a, p, h1, h2, h3⟩ := hR.get (i := i) (by omega)
      have ex : x = .ref a := by
        rw [List.getElem?_map, h1] at hx
        exact (Option.some.inj hx).symm
      subst ex
      have eb : bal (ms.take (i + 1)) d = bal (ms.take i) d + if p.1 ≤ d then p.2 else 0 := by
        rw [List.take_add_one, h2]
        exact bal_snoc _ _ _
      walk_at "go"
      refine r_ixT h3 at0 ?_
      walk_at "go"
      refine g_ite (fun c => ?_) (fun c => ?_)
      · walk_at "go"
        refine r_ixT h3 at1 ?_
        walk_at "go"
        rw [if_pos c] at eb
        exact ⟨rfl, _, by rw [eb]; rfl⟩
      · walk_at "go"
        rw [if_neg c, Int.add_zero] at eb
        exact ⟨rfl, _, by rw [eb]; rfl⟩
    · rintro σ' H' ⟨rfl, v, rfl⟩
      walk_at "go"
      rw [List.length_map, hlen, List.take_length]
      exact k
theorem ok_l_grown (T : Txt K mg) : FnOk P w K mg base (L2.CX P w) 2 T.f_l_grown T.fd_l_grown ["_law_moves_here", "_law_rates_here", "_law_base_here", "_law_last"] (sp_l_grown K) := by
  refine T.F_l_grown.okX sc_l_grown (fun vs H Q E h => ?_) (fun cdv A outer s H vs Q E hr h => ?_)
  · first | (obtain ⟨_, rfl, _⟩ := h; rfl) | (obtain ⟨_, _, rfl, _⟩ := h; rfl) | (obtain ⟨_, _, _, rfl, _⟩ := h; rfl) | (obtain ⟨_, _, _, _, rfl, _⟩ := h; rfl) | (obtain ⟨_, _, _, _, _, rfl, _⟩ := h; rfl) | (obtain ⟨_, _, _, _, _, _, rfl, _⟩ := h; rfl) | (obtain ⟨_, _, _, _, _, _, _, rfl, _⟩ := h; rfl) | (obtain ⟨_, _, _, _, _, _, _, _, rfl, _⟩ := h; rfl) | (obtain ⟨_, _, _, _, _, _, _, _, _, rfl, _⟩ := h; rfl) | (obtain ⟨_, _, _, _, _, _, _, _, _, _, rfl, _⟩ := h; rfl) | (obtain ⟨_, _, _, _, _, _, _, _, _, _, _, rfl, _⟩ := h; rfl) | (obtain ⟨_, _, _, _, _, _, _, _, _, _, _, _, rfl, _⟩ := h; rfl) | (obtain ⟨_, _, _, _, _, _, _, _, _, _, _, _, _, rfl, _⟩ := h; rfl) | (obtain ⟨_, _, _, _, _, _, _, _, _, _, _, _, _, _, rfl, _⟩ := h; rfl) | (obtain ⟨_, _, _, _, _, _, _, _, _, _, _, _, _, _, _, rfl, _⟩ := h; rfl)
  · refine ⟨_, (pss_cons (ps_set (i := 4) sc_l_grown.nd rfl (Or.inl rfl) pe_int)
  (pss_cons (ps_for (passes_of rfl) rfl (pi_range2 (by rfl) T.n_range (pa_cons (pv 2) (pa_cons (pe_op op_plus (pv 3) pe_int) pa_nil))) (pg_name (i := 5) sc_l_grown.nd rfl (Or.inl rfl))
  (pss_one (ps_set (i := 4) sc_l_grown.nd rfl (Or.inl rfl) (pe_op op_plus (pv 4) (pe_op op_mul (pe_callS (ok_l_balance T) hr (by rfl) T.g_l_balance T.F_l_balance.kp T.b_l_balance (fun σ => passAt (takes_of rfl rfl rfl rfl) σ) (by exact (pa_cons (pv 0) (pa_cons (pv 5) pa_nil)))) (pe_ix (show IxR _ (rIx2 K) from ix_lt) (pe_callS (ok_l_held T) hr (by rfl) T.g_l_held T.F_l_held.kp T.b_l_held (fun σ => passAt (takes_of rfl rfl rfl rfl) σ) (by exact (pa_cons (pv 1) (pa_cons (pv 5) pa_nil)))) pe_int (fun _ _ => rfl)))))))
  (pss_one (ps_ret (pe_op op_fdiv (pv 4) pe_int))))), ?_⟩
    obtain ⟨l1, as, ms, l2, bs, ra, f, e, rfl, h1, h2, hr, hf0, hf1, he0, he1, k⟩ := h
    walk_at "go"
    refine g_forR2 (lo := f) (hi := e + 1) (fun i σ' H' => H = H' ∧ ∃ v1, σ' = [some (.ref l1), some (.ref l2), some (.int f), some (.int e), some (.int (isum (fun d => bal ms d * (heldV ra d).getD 0) f i)), v1]) (fun Q' q => by walk_at "go"; exact q) (by omega) (by omega) ⟨rfl, _, rfl⟩ ?_ ?_
    · rintro i σ' H' hi ⟨rfl, v1, rfl⟩
      obtain ⟨j, b, g, q1, q2, q3, q4, q5, q6⟩ := hr.held (d := f + i) (by omega)
      obtain ⟨a, ev, hq⟩ := h2.pair q2
      walk_at "go"
      refine ⟨l1, as, ms, _, rfl, h1, ?_⟩
      walk_at "go"
      refine ⟨l2, _, bs, ra, rfl, h2, ?_⟩
      rw [q1, ev]
      walk_at "go"
      refine r_ixT hq at1 ?_
      walk_at "go"
      refine ⟨rfl, some (.int (f + i)), ?_⟩
      rw [isum, q3]
      rfl
    · rintro σ' H' ⟨rfl, v1, rfl⟩
      walk_at "go"
      exact k
theorem ok_law (T : Txt K mg) : FnOk P w K mg base (L2.CX P w) 4 T.f_law T.fd_law ["_law_script"] (sp_law K) := by
  refine T.F_law.okX sc_law (fun vs H Q E h => ?_) (fun cdv A outer s H vs Q E hr h => ?_)
  · first | (obtain ⟨_, rfl, _⟩ := h; rfl) | (obtain ⟨_, _, rfl, _⟩ := h; rfl) | (obtain ⟨_, _, _, rfl, _⟩ := h; rfl) | (obtain ⟨_, _, _, _, rfl, _⟩ := h; rfl) | (obtain ⟨_, _, _, _, _, rfl, _⟩ := h; rfl) | (obtain ⟨_, _, _, _, _, _, rfl, _⟩ := h; rfl) | (obtain ⟨_, _, _, _, _, _, _, rfl, _⟩ := h; rfl) | (obtain ⟨_, _, _, _, _, _, _, _, rfl, _⟩ := h; rfl) | (obtain ⟨_, _, _, _, _, _, _, _, _, rfl, _⟩ := h; rfl) | (obtain ⟨_, _, _, _, _, _, _, _, _, _, rfl, _⟩ := h; rfl) | (obtain ⟨_, _, _, _, _, _, _, _, _, _, _, rfl, _⟩ := h; rfl) | (obtain ⟨_, _, _, _, _, _, _, _, _, _, _, _, rfl, _⟩ := h; rfl) | (obtain ⟨_, _, _, _, _, _, _, _, _, _, _, _, _, rfl, _⟩ := h; rfl) | (obtain ⟨_, _, _, _, _, _, _, _, _, _, _, _, _, _, rfl, _⟩ := h; rfl) | (obtain ⟨_, _, _, _, _, _, _, _, _, _, _, _, _, _, _, rfl, _⟩ := h; rfl)
  · refine ⟨_, (pss_cons (ps_set (i := 1) sc_law.nd rfl (Or.inl rfl) (pe_callS (ok_l_base T) (hr.mono (by decide)) (by rfl) T.g_l_base T.F_l_base.kp T.b_l_base (fun σ => passAt (takes_of rfl rfl rfl rfl) σ) (by exact (pa_cons (pe_callS (ok_l_cell_at T) (hr.mono (by decide)) (by rfl) T.g_l_cell_at T.F_l_cell_at.kp T.b_l_cell_at (fun σ => passAt (takes_of rfl rfl rfl rfl) σ) (by exact (pa_cons (pv 0) (pa_cons pe_int pa_nil)))) pa_nil))))
  (pss_cons (ps_set (i := 2) sc_law.nd rfl (Or.inl rfl) (pe_callS (ok_l_moves T) (hr.mono (by decide)) (by rfl) T.g_l_moves T.F_l_moves.kp T.b_l_moves (fun σ => passAt (takes_of rfl rfl rfl rfl) σ) (by exact (pa_cons (pv 0) (pa_cons (pv 1) pa_nil)))))
  (pss_cons (ps_set (i := 3) sc_law.nd rfl (Or.inl rfl) (pe_callS (ok_l_rates T) (hr.mono (by decide)) (by rfl) T.g_l_rates T.F_l_rates.kp T.b_l_rates (fun σ => passAt (takes_of rfl rfl rfl rfl) σ) (by exact (pa_cons (pv 0) (pa_cons (pv 1) pa_nil)))))
  (pss_cons (ps_set (i := 4) sc_law.nd rfl (Or.inl rfl) (pe_callB (call_min2 rfl) (by rfl) T.n_min (by decide +kernel) (pa_cons pe_int (pa_cons (pe_callB (call_max2 rfl) (by rfl) T.n_max (by decide +kernel) (pa_cons pe_int (pa_cons (pe_op op_plus (pe_op op_sub (pv 1) pe_int) (pe_op op_mod (pe_callS (ok_l_cell_at T) (hr.mono (by decide)) (by rfl) T.g_l_cell_at T.F_l_cell_at.kp T.b_l_cell_at (fun σ => passAt (takes_of rfl rfl rfl rfl) σ) (by exact (pa_cons (pv 0) (pa_cons pe_int pa_nil)))) pe_int)) pa_nil))) pa_nil))))
  (pss_cons (ps_set (i := 5) sc_law.nd rfl (Or.inl rfl) (pe_tup (pa_cons (pe_callTy (show CallR _ (.type "list") (rListOf K) from call_listA) (by rfl) T.n_list (by decide +kernel) (pa_cons (pv 2) pa_nil)) (pa_cons (pe_callTy (show CallR _ (.type "list") (rListOf K) from call_listA) (by rfl) T.n_list (by decide +kernel) (pa_cons (pv 3) pa_nil)) pa_nil))))
  (pss_cons (ps_set (i := 6) sc_law.nd rfl (Or.inl rfl) (pe_tup (pa_cons (pe_callS (ok_balance T) (hr.mono (by decide)) (by rfl) T.g_balance T.F_balance.kp T.b_balance (fun σ => passAt (takes_of rfl rfl rfl rfl) σ) (by exact (pa_cons (pe_ix (show IxR _ (rIx2 K) from ix_lt) (pv 5) pe_int (fun _ _ => rfl)) (pa_cons (pv 4) pa_nil)))) (pa_cons (pe_callS (ok_grown T) hr (by rfl) T.g_grown T.F_grown.kp T.b_grown (fun σ => passAt (takes_of rfl rfl rfl rfl) σ) (by exact (pa_cons (pe_ix (show IxR _ (rIx2 K) from ix_lt) (pv 5) pe_int (fun _ _ => rfl)) (pa_cons (pe_ix (show IxR _ (rIx2 K) from ix_lt) (pv 5) pe_int (fun _ _ => rfl)) (pa_cons (pv 4) pa_nil))))) pa_nil))))
  (pss_cons (ps_if (PW.pt (pw_or (pt_cmpR (show OpR _ (compareOp .NotEq) (rNeA K) from op_neA hr.units) (pv 5) (pe_tup (pa_cons (pv 2) (pa_cons (pv 3) pa_nil))) (nomark _)) (pw_or (pt_not (pt_val (pe_callS (ok_l_whole T) (hr.mono (by decide)) (by rfl) T.g_l_whole T.F_l_whole.kp T.b_l_whole (fun σ => passAt (takes_of rfl rfl rfl rfl) σ) (by exact (pa_cons (pe_ix (show IxR _ (rIx2 K) from ix_lt) (pv 6) pe_int (fun _ _ => rfl)) pa_nil))))) (pw_or1 (pt_not (pt_val (pe_callS (ok_l_whole T) (hr.mono (by decide)) (by rfl) T.g_l_whole T.F_l_whole.kp T.b_l_whole (fun σ => passAt (takes_of rfl rfl rfl rfl) σ) (by exact (pa_cons (pe_ix (show IxR _ (rIx2 K) from ix_lt) (pv 6) pe_int (fun _ _ => rfl)) pa_nil)))))))))
  (pss_one (ps_ret pe_bl))
  pss_nil)
  (pss_cons (ps_set (i := 7) sc_law.nd rfl (Or.inl rfl) (pe_tup (pa_cons (pe_callS (ok_l_balance T) (hr.mono (by decide)) (by rfl) T.g_l_balance T.F_l_balance.kp T.b_l_balance (fun σ => passAt (takes_of rfl rfl rfl rfl) σ) (by exact (pa_cons (pv 2) (pa_cons (pv 4) pa_nil)))) (pa_cons (pe_callS (ok_l_grown T) (hr.mono (by decide)) (by rfl) T.g_l_grown T.F_l_grown.kp T.b_l_grown (fun σ => passAt (takes_of rfl rfl rfl rfl) σ) (by exact (pa_cons (pv 2) (pa_cons (pv 3) (pa_cons (pv 1) (pa_cons (pv 4) pa_nil)))))) pa_nil))))
  (pss_cons (ps_if (pt_cmpR (show OpR _ (compareOp .NotEq) (rNeA K) from op_neA hr.units) (pv 6) (pv 7) (nomark _))
  (pss_one (ps_ret pe_bl))
  pss_nil)
  (pss_cons (ps_set (i := 8) sc_law.nd rfl (Or.inl rfl) (pe_op op_plus (pv 2) (pe_lst (pa_cons (pe_tup (pa_cons (pv 1) (pa_cons (pe_op op_mul pe_int (pe_op op_pow pe_int pe_int)) pa_nil))) pa_nil))))
  (pss_cons (ps_expr (pe_bm PySem.F.plainAttrs_list PySem.F.slot_list_append PySem.F.type_list_append mt_append (pe_ix (show IxR _ (rIx2 K) from ix_lt) (pv 5) pe_int (fun _ _ => rfl)) (pa_cons (pe_ix (show IxR _ (rIx2 K) from ix_lt) (pv 8) (pe_un un_neg pe_int) (fun _ _ => rfl)) pa_nil)))
  (pss_cons (ps_if (pt_cmpR (show OpR _ (compareOp .NotEq) (rNeA K) from op_neA hr.units) (pe_callS (ok_grown T) hr (by rfl) T.g_grown T.F_grown.kp T.b_grown (fun σ => passAt (takes_of rfl rfl rfl rfl) σ) (by exact (pa_cons (pe_ix (show IxR _ (rIx2 K) from ix_lt) (pv 5) pe_int (fun _ _ => rfl)) (pa_cons (pe_ix (show IxR _ (rIx2 K) from ix_lt) (pv 5) pe_int (fun _ _ => rfl)) (pa_cons (pv 4) pa_nil))))) (pe_callS (ok_l_grown T) (hr.mono (by decide)) (by rfl) T.g_l_grown T.F_l_grown.kp T.b_l_grown (fun σ => passAt (takes_of rfl rfl rfl rfl) σ) (by exact (pa_cons (pv 8) (pa_cons (pv 3) (pa_cons (pv 1) (pa_cons (pv 4) pa_nil)))))) (nomark _))
  (pss_one (ps_ret pe_bl))
  pss_nil)
  (pss_cons (ps_expr (pe_bm0 PySem.F.plainAttrs_list PySem.F.slot_list_pop PySem.F.type_list_pop mt_pop (pe_ix (show IxR _ (rIx2 K) from ix_lt) (pv 5) pe_int (fun _ _ => rfl))))
  (pss_cons (ps_if (pt_cmpR (show OpR _ (compareOp .NotEq) (rNeA K) from op_neA hr.units) (pe_callS (ok_grown T) hr (by rfl) T.g_grown T.F_grown.kp T.b_grown (fun σ => passAt (takes_of rfl rfl rfl rfl) σ) (by exact (pa_cons (pe_ix (show IxR _ (rIx2 K) from ix_lt) (pv 5) pe_int (fun _ _ => rfl)) (pa_cons (pe_ix (show IxR _ (rIx2 K) from ix_lt) (pv 5) pe_int (fun _ _ => rfl)) (pa_cons (pv 4) pa_nil))))) (pe_ix (show IxR _ (rIx2 K) from ix_lt) (pv 7) pe_int (fun _ _ => rfl)) (nomark _))
  (pss_one (ps_ret pe_bl))
  pss_nil)
  (pss_cons (ps_set (i := 9) sc_law.nd rfl (Or.inl rfl) (pe_op op_plus pe_int (pe_op op_mod (pe_op op_mul (pe_callS (ok_l_mix T) (hr.mono (by decide)) (by rfl) T.g_l_mix T.F_l_mix.kp T.b_l_mix (fun σ => passAt (takes_of rfl rfl rfl rfl) σ) (by exact (pa_cons (pe_callS (ok_l_cell_at T) (hr.mono (by decide)) (by rfl) T.g_l_cell_at T.F_l_cell_at.kp T.b_l_cell_at (fun σ => passAt (takes_of rfl rfl rfl rfl) σ) (by exact (pa_cons (pv 0) (pa_cons pe_int pa_nil)))) (pa_cons pe_int pa_nil)))) pe_int) (pe_op op_pow pe_int pe_int))))
  (pss_cons (ps_set (i := 10) sc_law.nd rfl (Or.inl rfl) (pe_op op_mod (pe_callS (ok_l_cell_at T) (hr.mono (by decide)) (by rfl) T.g_l_cell_at T.F_l_cell_at.kp T.b_l_cell_at (fun σ => passAt (takes_of rfl rfl rfl rfl) σ) (by exact (pa_cons (pv 0) (pa_cons pe_int pa_nil)))) (pe_op op_plus (pe_op op_pow pe_int pe_int) pe_int)))
  (pss_cons (ps_set (i := 11) sc_law.nd rfl (Or.inl rfl) (pe_op op_plus (pv 1) (pe_op op_mod (pe_callS (ok_l_mix T) (hr.mono (by decide)) (by rfl) T.g_l_mix T.F_l_mix.kp T.b_l_mix (fun σ => passAt (takes_of rfl rfl rfl rfl) σ) (by exact (pa_cons (pe_callS (ok_l_cell_at T) (hr.mono (by decide)) (by rfl) T.g_l_cell_at T.F_l_cell_at.kp T.b_l_cell_at (fun σ => passAt (takes_of rfl rfl rfl rfl) σ) (by exact (pa_cons (pv 0) (pa_cons pe_int pa_nil)))) (pa_cons pe_int pa_nil)))) (pe_op op_sub pe_int (pv 1)))))
  (pss_one (ps_ret (pe_cmpR (show OpR _ (compareOp .Eq) (rEqA K) from op_eqA hr.units) (pe_callS (ok_grown T) hr (by rfl) T.g_grown T.F_grown.kp T.b_grown (fun σ => passAt (takes_of rfl rfl rfl rfl) σ) (by exact (pa_cons (pe_lst (pa_cons (pe_tup (pa_cons (pv 1) (pa_cons (pv 9) pa_nil))) pa_nil)) (pa_cons (pe_lst (pa_cons (pe_tup (pa_cons pe_int (pa_cons (pv 10) pa_nil))) pa_nil)) (pa_cons (pv 11) pa_nil))))) (pe_op op_fdiv (pe_op op_mul (pe_op op_mul (pv 9) (pv 10)) (pe_op op_plus (pe_op op_sub (pv 11) (pv 1)) pe_int)) pe_int) (nomark _))))))))))))))))))))), ?_⟩
    obtain ⟨a, ns, rfl, hS, hlen, k⟩ := h
    walk_at "go"
    refine ⟨a, ns, _, rfl, hS, by decide, ?_⟩
    walk_at "go"
    refine ⟨_, rfl, fun b hb0 hb1 H1 s1 => ?_⟩
    walk_at "go"
    refine ⟨a, ns, _, rfl, s1.seq hS, hb0, fun l1 as ms H2 s2 hl10 hl1 hP1 hn1 hms => ?_⟩
    walk_at "go"
    refine ⟨a, ns, _, rfl, s2.seq (s1.seq hS), hb0, fun l2 bs ra H0 s3 hl20 hl2 hP2 hn2 hr => ?_⟩
    have hS0 := s3.seq (s2.seq (s1.seq hS))
    have hl1 := s3 _ _ hl1
    have hP1 := hP1.same s3
    clear s1 s2 s3
    walk_at "go"
    refine ⟨a, ns, _, rfl, hS0, by decide, ?_⟩
    walk_at "go"
    refine ⟨_, _, rfl, ?_⟩
    refine ⟨_, _, rfl, ?_⟩
    walk_at "go"
    have he : 0 ≤ (if (if b - 2 + cell ns 4 % 83 > 0 then b - 2 + cell ns 4 % 83 else 0) < 99999 then (if b - 2 + cell ns 4 % 83 > 0 then b - 2 + cell ns 4 % 83 else 0) else 99999) ∧ (if (if b - 2 + cell ns 4 % 83 > 0 then b - 2 + cell ns 4 % 83 else 0) < 99999 then (if b - 2 + cell ns 4 % 83 > 0 then b - 2 + cell ns 4 % 83 else 0) else 99999) ≤ 99999 := by split <;> split <;> omega
    generalize (if (if b - 2 + cell ns 4 % 83 > 0 then b - 2 + cell ns 4 % 83 else 0) < 99999 then (if b - 2 + cell ns 4 % 83 > 0 then b - 2 + cell ns 4 % 83 else 0) else 99999) = e at he ⊢
    refine ⟨l1, _, rfl, .inl (SqL.of hl1), fun m1 hm1 => ?_⟩
    have n1 : l1 ≠ m1 := ne_of_none hl1 hm1
    have s1 : Same H0 (upd H0 m1 (.lst (as.map V.ref))) := same_new hm1
    have hq1 : (upd H0 m1 (.lst (as.map V.ref))) m1 = some (.lst (as.map V.ref)) := upd_same
    generalize upd H0 m1 (.lst (as.map V.ref)) = H1 at s1 hq1 ⊢
    walk_at "go"
    refine ⟨l2, _, rfl, .inl (SqL.of (s1 _ _ hl2)), fun m2 hm2 => ?_⟩
    have n4 : m2 ≠ m1 := (ne_of_none hq1 hm2).symm
    have s2 := s1.trans (same_new (o := .lst (bs.map V.ref)) hm2)
    have hq1 := (same_new (o := .lst (bs.map V.ref)) hm2) _ _ hq1
    have hq2 : (upd H1 m2 (.lst (bs.map V.ref))) m2 = some (.lst (bs.map V.ref)) := upd_same
    generalize upd H1 m2 (.lst (bs.map V.ref)) = H2 at s2 hq1 hq2 ⊢
    walk_at "go"
    refine ⟨by walk_at "sz", fun t ht => ?_⟩
    have s3 := s2.trans (same_new (o := .tup [.ref m1, .ref m2]) ht)
    have hq1 := (same_new (o := .tup [.ref m1, .ref m2]) ht) _ _ hq1
    have hq2 := (same_new (o := .tup [.ref m1, .ref m2]) ht) _ _ hq2
    have hT : SqT K (upd H2 t (.tup [.ref m1, .ref m2])) t [.ref m1, .ref m2] := SqT.of upd_same
    generalize upd H2 t (.tup [.ref m1, .ref m2]) = H3 at s3 hq1 hq2 hT ⊢
    walk_at "go"
    refine r_ixT hT at0 ?_
    walk_at "go"
    refine ⟨m1, as, ms, e, rfl, ⟨.inl (SqL.of hq1), (hP1.same s3).prs⟩, by omega, fun H4 s4 => ?_⟩
    have hq1 := s4 _ _ hq1
    have hq2 := s4 _ _ hq2
    have hT := same_sqT s4 hT
    have s4 := s3.trans s4
    walk_at "go"
    refine r_ixT hT at0 ?_
    walk_at "go"
    refine r_ixT hT at1 ?_
    walk_at "go"
    refine ⟨m1, as, ms, m2, bs, ra, e, rfl, SqL.of hq1, hP1.same s4, by omega, ⟨.inl (SqL.of hq2), hP2.same s4⟩, hr, by omega, he.2, fun H5 s5 => ?_⟩
    have hq1 := s5 _ _ hq1
    have hq2 := s5 _ _ hq2
    have hT := same_sqT s5 hT
    have s5 := s4.trans s5
    walk_at "go"
    refine ⟨by walk_at "sz", fun f hf => ?_⟩
    have hF : SqT K (upd H5 f (.tup [.int (bal ms e), .int (grownV ms ra e)])) f [.int (bal ms e), .int (grownV ms ra e)] := SqT.of upd_same
    have s6 := same_new (o := .tup [.int (bal ms e), .int (grownV ms ra e)]) hf
    have hq1 := s6 _ _ hq1
    have hq2 := s6 _ _ hq2
    have hT := same_sqT s6 hT
    have s6 := s5.trans s6
    generalize upd H5 f (.tup [.int (bal ms e), .int (grownV ms ra e)]) = H6 at s6 hq1 hq2 hT hF ⊢
    walk_at "gos"
    refine g_ifBH false (Same H6) (fun Q' q => ?_) (fun z => by cases z) (fun _ H7 s7 => ?_)
    · walk_at "go"
      refine ⟨by walk_at "sz", fun t2 ht2 => ?_⟩
      have s9 : Same H6 (upd H6 t2 (.tup [.ref l1, .ref l2])) := same_new ht2
      have hT2 : SqT K (upd H6 t2 (.tup [.ref l1, .ref l2])) t2 [.ref l1, .ref l2] := SqT.of upd_same
      have s8 := s6.trans s9
      refine r_neDD (two_dp (same_sqT s9 hT) ⟨SqL.of (s9 _ _ hq1), (hP1.same s8).prs⟩ ⟨SqL.of (s9 _ _ hq2), hP2.same s8⟩) (two_dp hT2 ⟨SqL.of (s8 _ _ hl1), (hP1.same s8).prs⟩ ⟨SqL.of (s8 _ _ hl2), hP2.same s8⟩) (two_shaped ms ra) (two_lay ms ra) ?_
      walk_at "go"
      refine r_ixT (same_sqT s9 hF) at0 ?_
      walk_at "go"
      refine ⟨_, rfl, trivial, ?_⟩
      walk_at "go"
      refine g_F ?_
      walk_at "go"
      refine r_ixT (same_sqT s9 hF) at1 ?_
      walk_at "go"
      refine ⟨_, rfl, trivial, ?_⟩
      walk_at "go"
      exact q _ s9
    have hq1 := s7 _ _ hq1
    have hq2 := s7 _ _ hq2
    have hT := same_sqT s7 hT
    have hF := same_sqT s7 hF
    have s7 := s6.trans s7
    walk_at "go"
    refine ⟨l1, as, ms, e, rfl, ⟨.inl (SqL.of (s7 _ _ hl1)), (hP1.same s7).prs⟩, ?_⟩
    walk_at "go"
    refine ⟨l1, as, ms, l2, bs, ra, b, e, rfl, ⟨.inl (SqL.of (s7 _ _ hl1)), (hP1.same s7).prs⟩, ⟨.inl (SqL.of (s7 _ _ hl2)), hP2.same s7⟩, hr, hb0, by omega, by omega, by omega, ?_⟩
    rw [← grownS_from hb0 hms]
    walk_at "go"
    refine ⟨by walk_at "sz", fun d hd => ?_⟩
    have s8 := same_new (o := .tup [.int (bal ms e), .int (grownS ms ra 0 e / 3650000)]) hd
    have hD : SqT K (upd H7 d (.tup [.int (bal ms e), .int (grownS ms ra 0 e / 3650000)])) d [.int (bal ms e), .int (grownV ms ra e)] := SqT.of upd_same
    have hq1 := s8 _ _ hq1
    have hq2 := s8 _ _ hq2
    have hT := same_sqT s8 hT
    have hF := same_sqT s8 hF
    have s8 := s7.trans s8
    generalize upd H7 d (.tup [.int (bal ms e), .int (grownS ms ra 0 e / 3650000)]) = H8 at s8 hq1 hq2 hT hF hD ⊢
    walk_at "go"
    refine r_neDD (dpair_at (p := (_, _)) hF) (dpair_at (p := (_, _)) hD) rfl rfl ?_
    walk_at "go"
    refine ⟨by walk_at "sz", fun u hu => ?_⟩
    have s9 := same_new (o := .tup [.int b, .int (365 * 10 ^ (4 : Int).toNat)]) hu
    have hU : (upd H8 u (.tup [.int b, .int (365 * 10 ^ (4 : Int).toNat)])) u = some (.tup [.int b, .int (365 * 10 ^ (4 : Int).toNat)]) := upd_same
    have hq1 := s9 _ _ hq1
    have hq2 := s9 _ _ hq2
    have hT := same_sqT s9 hT
    have hD := same_sqT s9 hD
    have s9 := s8.trans s9
    generalize upd H8 u (.tup [.int b, .int (365 * 10 ^ (4 : Int).toNat)]) = H9 at s9 hq1 hq2 hT hD hU ⊢
    generalize (365 * 10 ^ (4 : Int).toNat : Int) = cts at hU ⊢
    walk_at "go"
    refine ⟨by walk_at "sz", fun l4 hl4 => ?_⟩
    walk_at "go"
    have hlen1 := (hP1.prs (K := K)).len
    refine r_cat ((s9.trans (same_new hl4)) _ _ hl1) upd_same ?_ fun l5 hl5 => ?_
    · rw [List.length_map]
      exact Nat.le_trans (show as.length + 1 ≤ 100 by omega) (by decide)
    have s10 := (same_new (o := .lst [.ref u]) hl4).trans (same_new (o := .lst (as.map V.ref ++ [.ref u])) hl5)
    have hl5' : (upd (upd H9 l4 (.lst [.ref u])) l5 (.lst (as.map V.ref ++ [.ref u]))) l5 = some (.lst (as.map V.ref ++ [.ref u])) := upd_same
    have hU := s10 _ _ hU
    have n5 : l5 ≠ m1 := (ne_of_none ((same_new (o := .lst [.ref u]) hl4) _ _ hq1) hl5).symm
    have hq1 := s10 _ _ hq1
    have hq2 := s10 _ _ hq2
    have hT := same_sqT s10 hT
    have hD := same_sqT s10 hD
    have s10 := s9.trans s10
    generalize upd (upd H9 l4 (.lst [.ref u])) l5 (.lst (as.map V.ref ++ [.ref u])) = H10 at s10 hq1 hq2 hT hD hU hl5' ⊢
    walk_at "go"
    refine r_ixT hT at0 ?_
    walk_at "go"
    refine ⟨.inl ⟨rfl, _, SqL.of hq1⟩, ?_⟩
    walk_at "go"
    refine r_ixL (SqL.of hl5') (atI_last _ _) ?_
    walk_at "go"
    refine ⟨m1, _, _, rfl, rfl, hq1, ?_, ?_⟩
    · rw [List.length_map]
      exact Nat.lt_of_lt_of_le (show as.length < 100 by omega) (by decide)
    have s11 : Same H0 (upd H10 m1 (.lst (as.map V.ref ++ [V.ref u]))) := same_mut s10 hm1
    have hq2 := (upd_ne n4 (o := .lst (as.map V.ref ++ [V.ref u]))).trans hq2
    have hl5' := (upd_ne n5 (o := .lst (as.map V.ref ++ [V.ref u]))).trans hl5'
    have hT := sqT_mut (o := .lst (as.map V.ref ++ [V.ref u])) hq1 hT
    have hD := sqT_mut (o := .lst (as.map V.ref ++ [V.ref u])) hq1 hD
    have hU : (upd H10 m1 (.lst (as.map V.ref ++ [V.ref u]))) u = some (.tup [.int b, .int cts]) := by rw [upd_ne (ne_of hU hq1 (by intro q; cases q))]; exact hU
    have hq1 : (upd H10 m1 (.lst (as.map V.ref ++ [V.ref u]))) m1 = some (.lst (as.map V.ref ++ [V.ref u])) := upd_same
    generalize upd H10 m1 (.lst (as.map V.ref ++ [V.ref u])) = H11 at s11 hq1 hq2 hT hD hU hl5' ⊢
    have eq1 : as.map V.ref ++ [V.ref u] = (as ++ [u]).map V.ref := by rw [List.map_append]; rfl
    rw [eq1] at hl5' hq1
    have hPa : PrT H11 (as ++ [u]) (ms ++ [(b, cts)]) := PrT.append (PrT.one hU) (hP1.same s11)
    have hma : ∀ p, p ∈ ms ++ [(b, cts)] → b ≤ p.1 := fun p hp => by
      rcases List.mem_append.mp hp with hp | hp
      · exact hms p hp
      · rw [List.mem_singleton.mp hp]; exact Int.le_refl _
    have hna : (ms ++ [(b, cts)]).length ≤ 10000 := by rw [List.length_append]; exact Nat.le_trans (Nat.add_le_add_right hn1 1) (by decide)
    walk_at "go"
    refine r_ixT hT at0 ?_
    walk_at "go"
    refine r_ixT hT at1 ?_
    walk_at "go"
    refine ⟨m1, as ++ [u], ms ++ [(b, cts)], m2, bs, ra, e, rfl, SqL.of hq1, hPa, hna, ⟨.inl (SqL.of hq2), hP2.same s11⟩, hr, by omega, he.2, fun H12 s12 => ?_⟩
    have hq1 := s12 _ _ hq1
    have hq2 := s12 _ _ hq2
    have hl5' := s12 _ _ hl5'
    have hPa := hPa.same s12
    have hT := same_sqT s12 hT
    have hD := same_sqT s12 hD
    have s12 := s11.trans s12
    walk_at "go"
    refine ⟨l5, as ++ [u], ms ++ [(b, cts)], l2, bs, ra, b, e, rfl, ⟨.inl (SqL.of hl5'), hPa.prs⟩, ⟨.inl (SqL.of (s12 _ _ hl2)), hP2.same s12⟩, hr, hb0, by omega, by omega, by omega, ?_⟩
    rw [← grownS_from hb0 hma]
    walk_at "go"
    refine g_iteN (fun z => absurd rfl z) (fun _ => ?_)
    walk_at "go"
    refine r_ixT hT at0 ?_
    walk_at "go"
    refine ⟨.inl ⟨rfl, _, SqL.of hq1⟩, ?_⟩
    rw [← eq1] at hq1
    refine ⟨m1, _, V.ref u, rfl, rfl, hq1, ?_, ?_⟩
    · rw [List.length_append, List.length_singleton, Nat.add_sub_cancel, List.getElem?_append_right (Nat.le_refl _), Nat.sub_self]
      rfl
    rw [List.dropLast_concat]
    have s13 : Same H0 (upd H12 m1 (.lst (as.map V.ref))) := same_mut s12 hm1
    have hq2 := (upd_ne n4 (o := .lst (as.map V.ref))).trans hq2
    have hT := sqT_mut (o := .lst (as.map V.ref)) hq1 hT
    have hD := sqT_mut (o := .lst (as.map V.ref)) hq1 hD
    have hq1 : (upd H12 m1 (.lst (as.map V.ref))) m1 = some (.lst (as.map V.ref)) := upd_same
    generalize upd H12 m1 (.lst (as.map V.ref)) = H13 at s13 hq1 hq2 hT hD ⊢
    walk_at "go"
    refine r_ixT hT at0 ?_
    walk_at "go"
    refine r_ixT hT at1 ?_
    walk_at "go"
    refine ⟨m1, as, ms, m2, bs, ra, e, rfl, SqL.of hq1, hP1.same s13, by omega, ⟨.inl (SqL.of hq2), hP2.same s13⟩, hr, by omega, he.2, fun H14 s14 => ?_⟩
    have hD := same_sqT s14 hD
    have s14 := s13.trans s14
    walk_at "go"
    refine r_ixT hD at1 ?_
    walk_at "go"
    refine g_iteN (fun z => absurd rfl z) (fun _ => ?_)
    walk_at "go"
    refine ⟨a, ns, _, rfl, s14.seq hS0, by decide, ?_⟩
    walk_at "go"
    refine ⟨_, _, rfl, fun z1 hz10 hz11 => ?_⟩
    walk_at "go"
    refine ⟨a, ns, _, rfl, s14.seq hS0, by decide, ?_⟩
    walk_at "go"
    refine ⟨a, ns, _, rfl, s14.seq hS0, by decide, ?_⟩
    walk_at "go"
    refine ⟨_, _, rfl, fun z2 hz20 hz21 => ?_⟩
    walk_at "go"
    have hfar : b ≤ b + z2 % (100000 - b) ∧ b + z2 % (100000 - b) ≤ 99999 := by
      have q1 := Int.emod_nonneg z2 (show (100000 - b) ≠ 0 by omega)
      have q2 := Int.emod_lt_of_pos z2 (show 0 < 100000 - b by omega)
      omega
    have hrate : 0 ≤ cell ns 5 % (10 ^ (4 : Int).toNat + 1) ∧ cell ns 5 % (10 ^ (4 : Int).toNat + 1) ≤ 10000 := by
      rw [show (10 : Int) ^ (4 : Int).toNat + 1 = 10001 by decide]
      omega
    generalize b + z2 % (100000 - b) = far at hfar ⊢
    generalize cell ns 5 % (10 ^ (4 : Int).toNat + 1) = rate at hrate ⊢
    generalize 1 + z1 * 1009 % 10 ^ (9 : Int).toNat = cents
    refine ⟨by walk_at "sz", fun p1 hp1 => ?_⟩
    walk_at "go"
    refine ⟨by walk_at "sz", fun p2 hp2 => ?_⟩
    walk_at "go"
    refine ⟨by walk_at "sz", fun p3 hp3 => ?_⟩
    walk_at "go"
    refine ⟨by walk_at "sz", fun p4 hp4 => ?_⟩
    walk_at "go"
    refine ⟨p2, [p1], [(b, cents)], p4, [p3], [(0, rate)], far, rfl, SqL.of (by walk_at "lk"), PrT.one (by walk_at "lk"), by walk_at "sz", ⟨.inl (SqL.of upd_same), Prs.one (SqT.of (by walk_at "lk"))⟩, ⟨fun p hp => ?_, rate, [], rfl⟩, by walk_at "sz", hfar.2, fun H15 s15 => ?_⟩
    · rw [List.mem_singleton.mp hp]
      exact ⟨Int.le_refl _, hrate⟩
    rw [grownV_one hb0 hfar.1]
    walk_at "go"
    rw [decide_eq_true rfl]
    exact k _
end
theorem all_mk {P : Program} {w : World} {K : PySem.W.Frag} {h : Heap} {mg : Str → Option Value} {fa : Addr} (X : K.In h) (G : h.Ns mainGlobals mg) (hfa : mg "law" = some (.ref fa))
    {f_in_order : Addr} {od_in_order an_in_order : Option Addr} {sl_in_order : Array (Option Value)} {oc_in_order kV_in_order dc_in_order pm_in_order cd_in_order ct_in_order : Value}
    {f_spans : Addr} {od_spans an_spans : Option Addr} {sl_spans : Array (Option Value)} {oc_spans kV_spans dc_spans pm_spans cd_spans ct_spans : Value}
    {f_balance : Addr} {od_balance an_balance : Option Addr} {sl_balance : Array (Option Value)} {oc_balance kV_balance dc_balance pm_balance cd_balance ct_balance : Value}
    {f_grown : Addr} {od_grown an_grown : Option Addr} {sl_grown : Array (Option Value)} {oc_grown kV_grown dc_grown pm_grown cd_grown ct_grown : Value}
    {f_balances : Addr} {od_balances an_balances : Option Addr} {sl_balances : Array (Option Value)} {oc_balances kV_balances dc_balances pm_balances cd_balances ct_balances : Value}
    {f_l_cell_at : Addr} {od_l_cell_at an_l_cell_at : Option Addr} {sl_l_cell_at : Array (Option Value)} {oc_l_cell_at kV_l_cell_at dc_l_cell_at pm_l_cell_at cd_l_cell_at ct_l_cell_at : Value}
    {f_l_whole : Addr} {od_l_whole an_l_whole : Option Addr} {sl_l_whole : Array (Option Value)} {oc_l_whole kV_l_whole dc_l_whole pm_l_whole cd_l_whole ct_l_whole : Value}
    {f_l_mix : Addr} {od_l_mix an_l_mix : Option Addr} {sl_l_mix : Array (Option Value)} {oc_l_mix kV_l_mix dc_l_mix pm_l_mix cd_l_mix ct_l_mix : Value}
    {f_l_base : Addr} {od_l_base an_l_base : Option Addr} {sl_l_base : Array (Option Value)} {oc_l_base kV_l_base dc_l_base pm_l_base cd_l_base ct_l_base : Value}
    {f_l_held : Addr} {od_l_held an_l_held : Option Addr} {sl_l_held : Array (Option Value)} {oc_l_held kV_l_held dc_l_held pm_l_held cd_l_held ct_l_held : Value}
    {f_l_moves : Addr} {od_l_moves an_l_moves : Option Addr} {sl_l_moves : Array (Option Value)} {oc_l_moves kV_l_moves dc_l_moves pm_l_moves cd_l_moves ct_l_moves : Value}
    {f_l_rates : Addr} {od_l_rates an_l_rates : Option Addr} {sl_l_rates : Array (Option Value)} {oc_l_rates kV_l_rates dc_l_rates pm_l_rates cd_l_rates ct_l_rates : Value}
    {f_l_balance : Addr} {od_l_balance an_l_balance : Option Addr} {sl_l_balance : Array (Option Value)} {oc_l_balance kV_l_balance dc_l_balance pm_l_balance cd_l_balance ct_l_balance : Value}
    {f_l_grown : Addr} {od_l_grown an_l_grown : Option Addr} {sl_l_grown : Array (Option Value)} {oc_l_grown kV_l_grown dc_l_grown pm_l_grown cd_l_grown ct_l_grown : Value}
    {f_law : Addr} {od_law an_law : Option Addr} {sl_law : Array (Option Value)} {oc_law kV_law dc_law pm_law cd_law ct_law : Value}
    {tk_WHOLE : Tok}
    (a_in_order : PySem.W.nsIn K mainGlobals "in_order" = some (some (.ref f_in_order)))
    (l_in_order : K.lookup f_in_order = some ⟨oc_in_order, od_in_order, .func (PySem.W.fnOf "in_order" "in_order" (defArgs s_in_order) (defBody s_in_order) (defScope s_in_order) .none kV_in_order dc_in_order pm_in_order an_in_order cd_in_order ct_in_order), sl_in_order⟩)
    (cc_in_order : PySem.W.codeIn K cd_in_order "in_order" = true)
    (k_in_order : PySem.W.keepIn K (.ref f_in_order) = true)
    (a_spans : PySem.W.nsIn K mainGlobals "spans" = some (some (.ref f_spans)))
    (l_spans : K.lookup f_spans = some ⟨oc_spans, od_spans, .func (PySem.W.fnOf "spans" "spans" (defArgs s_spans) (defBody s_spans) (defScope s_spans) .none kV_spans dc_spans pm_spans an_spans cd_spans ct_spans), sl_spans⟩)
    (cc_spans : PySem.W.codeIn K cd_spans "spans" = true)
    (k_spans : PySem.W.keepIn K (.ref f_spans) = true)
    (a_balance : PySem.W.nsIn K mainGlobals "balance" = some (some (.ref f_balance)))
    (l_balance : K.lookup f_balance = some ⟨oc_balance, od_balance, .func (PySem.W.fnOf "balance" "balance" (defArgs s_balance) (defBody s_balance) (defScope s_balance) .none kV_balance dc_balance pm_balance an_balance cd_balance ct_balance), sl_balance⟩)
    (cc_balance : PySem.W.codeIn K cd_balance "balance" = true)
    (k_balance : PySem.W.keepIn K (.ref f_balance) = true)
    (a_grown : PySem.W.nsIn K mainGlobals "grown" = some (some (.ref f_grown)))
    (l_grown : K.lookup f_grown = some ⟨oc_grown, od_grown, .func (PySem.W.fnOf "grown" "grown" (defArgs s_grown) (defBody s_grown) (defScope s_grown) .none kV_grown dc_grown pm_grown an_grown cd_grown ct_grown), sl_grown⟩)
    (cc_grown : PySem.W.codeIn K cd_grown "grown" = true)
    (k_grown : PySem.W.keepIn K (.ref f_grown) = true)
    (a_balances : PySem.W.nsIn K mainGlobals "_balances" = some (some (.ref f_balances)))
    (l_balances : K.lookup f_balances = some ⟨oc_balances, od_balances, .func (PySem.W.fnOf "_balances" "_balances" (defArgs s_balances) (defBody s_balances) (defScope s_balances) .none kV_balances dc_balances pm_balances an_balances cd_balances ct_balances), sl_balances⟩)
    (cc_balances : PySem.W.codeIn K cd_balances "_balances" = true)
    (k_balances : PySem.W.keepIn K (.ref f_balances) = true)
    (a_l_cell_at : PySem.W.nsIn K mainGlobals "_law_cell_at" = some (some (.ref f_l_cell_at)))
    (l_l_cell_at : K.lookup f_l_cell_at = some ⟨oc_l_cell_at, od_l_cell_at, .func (PySem.W.fnOf "_law_cell_at" "_law_cell_at" (defArgs s_l_cell_at) (defBody s_l_cell_at) (defScope s_l_cell_at) .none kV_l_cell_at dc_l_cell_at pm_l_cell_at an_l_cell_at cd_l_cell_at ct_l_cell_at), sl_l_cell_at⟩)
    (cc_l_cell_at : PySem.W.codeIn K cd_l_cell_at "_law_cell_at" = true)
    (k_l_cell_at : PySem.W.keepIn K (.ref f_l_cell_at) = true)
    (a_l_whole : PySem.W.nsIn K mainGlobals "_law_whole" = some (some (.ref f_l_whole)))
    (l_l_whole : K.lookup f_l_whole = some ⟨oc_l_whole, od_l_whole, .func (PySem.W.fnOf "_law_whole" "_law_whole" (defArgs s_l_whole) (defBody s_l_whole) (defScope s_l_whole) .none kV_l_whole dc_l_whole pm_l_whole an_l_whole cd_l_whole ct_l_whole), sl_l_whole⟩)
    (cc_l_whole : PySem.W.codeIn K cd_l_whole "_law_whole" = true)
    (k_l_whole : PySem.W.keepIn K (.ref f_l_whole) = true)
    (a_l_mix : PySem.W.nsIn K mainGlobals "_law_mix" = some (some (.ref f_l_mix)))
    (l_l_mix : K.lookup f_l_mix = some ⟨oc_l_mix, od_l_mix, .func (PySem.W.fnOf "_law_mix" "_law_mix" (defArgs s_l_mix) (defBody s_l_mix) (defScope s_l_mix) .none kV_l_mix dc_l_mix pm_l_mix an_l_mix cd_l_mix ct_l_mix), sl_l_mix⟩)
    (cc_l_mix : PySem.W.codeIn K cd_l_mix "_law_mix" = true)
    (k_l_mix : PySem.W.keepIn K (.ref f_l_mix) = true)
    (a_l_base : PySem.W.nsIn K mainGlobals "_law_base" = some (some (.ref f_l_base)))
    (l_l_base : K.lookup f_l_base = some ⟨oc_l_base, od_l_base, .func (PySem.W.fnOf "_law_base" "_law_base" (defArgs s_l_base) (defBody s_l_base) (defScope s_l_base) .none kV_l_base dc_l_base pm_l_base an_l_base cd_l_base ct_l_base), sl_l_base⟩)
    (cc_l_base : PySem.W.codeIn K cd_l_base "_law_base" = true)
    (k_l_base : PySem.W.keepIn K (.ref f_l_base) = true)
    (a_l_held : PySem.W.nsIn K mainGlobals "_law_held" = some (some (.ref f_l_held)))
    (l_l_held : K.lookup f_l_held = some ⟨oc_l_held, od_l_held, .func (PySem.W.fnOf "_law_held" "_law_held" (defArgs s_l_held) (defBody s_l_held) (defScope s_l_held) .none kV_l_held dc_l_held pm_l_held an_l_held cd_l_held ct_l_held), sl_l_held⟩)
    (cc_l_held : PySem.W.codeIn K cd_l_held "_law_held" = true)
    (k_l_held : PySem.W.keepIn K (.ref f_l_held) = true)
    (a_l_moves : PySem.W.nsIn K mainGlobals "_law_moves" = some (some (.ref f_l_moves)))
    (l_l_moves : K.lookup f_l_moves = some ⟨oc_l_moves, od_l_moves, .func (PySem.W.fnOf "_law_moves" "_law_moves" (defArgs s_l_moves) (defBody s_l_moves) (defScope s_l_moves) .none kV_l_moves dc_l_moves pm_l_moves an_l_moves cd_l_moves ct_l_moves), sl_l_moves⟩)
    (cc_l_moves : PySem.W.codeIn K cd_l_moves "_law_moves" = true)
    (k_l_moves : PySem.W.keepIn K (.ref f_l_moves) = true)
    (a_l_rates : PySem.W.nsIn K mainGlobals "_law_rates" = some (some (.ref f_l_rates)))
    (l_l_rates : K.lookup f_l_rates = some ⟨oc_l_rates, od_l_rates, .func (PySem.W.fnOf "_law_rates" "_law_rates" (defArgs s_l_rates) (defBody s_l_rates) (defScope s_l_rates) .none kV_l_rates dc_l_rates pm_l_rates an_l_rates cd_l_rates ct_l_rates), sl_l_rates⟩)
    (cc_l_rates : PySem.W.codeIn K cd_l_rates "_law_rates" = true)
    (k_l_rates : PySem.W.keepIn K (.ref f_l_rates) = true)
    (a_l_balance : PySem.W.nsIn K mainGlobals "_law_balance" = some (some (.ref f_l_balance)))
    (l_l_balance : K.lookup f_l_balance = some ⟨oc_l_balance, od_l_balance, .func (PySem.W.fnOf "_law_balance" "_law_balance" (defArgs s_l_balance) (defBody s_l_balance) (defScope s_l_balance) .none kV_l_balance dc_l_balance pm_l_balance an_l_balance cd_l_balance ct_l_balance), sl_l_balance⟩)
    (cc_l_balance : PySem.W.codeIn K cd_l_balance "_law_balance" = true)
    (k_l_balance : PySem.W.keepIn K (.ref f_l_balance) = true)
    (a_l_grown : PySem.W.nsIn K mainGlobals "_law_grown" = some (some (.ref f_l_grown)))
    (l_l_grown : K.lookup f_l_grown = some ⟨oc_l_grown, od_l_grown, .func (PySem.W.fnOf "_law_grown" "_law_grown" (defArgs s_l_grown) (defBody s_l_grown) (defScope s_l_grown) .none kV_l_grown dc_l_grown pm_l_grown an_l_grown cd_l_grown ct_l_grown), sl_l_grown⟩)
    (cc_l_grown : PySem.W.codeIn K cd_l_grown "_law_grown" = true)
    (k_l_grown : PySem.W.keepIn K (.ref f_l_grown) = true)
    (a_law : PySem.W.nsIn K mainGlobals "law" = some (some (.ref f_law)))
    (l_law : K.lookup f_law = some ⟨oc_law, od_law, .func (PySem.W.fnOf "law" "law" (defArgs s_law) (defBody s_law) (defScope s_law) .none kV_law dc_law pm_law an_law cd_law ct_law), sl_law⟩)
    (cc_law : PySem.W.codeIn K cd_law "law" = true)
    (k_law : PySem.W.keepIn K (.ref f_law) = true)
    (a_WHOLE : PySem.W.nsIn K mainGlobals "WHOLE" = some (some (.int 3650000 tk_WHOLE)))
    (z_sorted : PySem.W.nsIn K mainGlobals "sorted" = some none)
    (z_reversed : PySem.W.nsIn K mainGlobals "reversed" = some none)
    (z_max : PySem.W.nsIn K mainGlobals "max" = some none)
    (z_sum : PySem.W.nsIn K mainGlobals "sum" = some none)
    (z_len : PySem.W.nsIn K mainGlobals "len" = some none)
    (z_isinstance : PySem.W.nsIn K mainGlobals "isinstance" = some none)
    (z_int : PySem.W.nsIn K mainGlobals "int" = some none)
    (z_bool : PySem.W.nsIn K mainGlobals "bool" = some none)
    (z_range : PySem.W.nsIn K mainGlobals "range" = some none)
    (z_min : PySem.W.nsIn K mainGlobals "min" = some none)
    (z_list : PySem.W.nsIn K mainGlobals "list" = some none)
    : ∃ fd : FuncData, (∀ (s : Shared) (v : Value), BindsTo s fd ⟨[v], []⟩ [("_law_script", v)]) ∧ ∀ base : Heap, K.In base → base.Ns mainGlobals mg → FnOk P w K mg base (L2.CX P w) 4 fa fd ["_law_script"] (sp_law K) := by
  have e : fa = f_law := Value.ref.inj (Option.some.inj (hfa.symm.trans (PySem.W.mg_of X G a_law)))
  rw [e]
  have F_in_order := fun_mk (st := s_in_order) l_in_order cc_in_order k_in_order
  have F_spans := fun_mk (st := s_spans) l_spans cc_spans k_spans
  have F_balance := fun_mk (st := s_balance) l_balance cc_balance k_balance
  have F_grown := fun_mk (st := s_grown) l_grown cc_grown k_grown
  have F_balances := fun_mk (st := s_balances) l_balances cc_balances k_balances
  have F_l_cell_at := fun_mk (st := s_l_cell_at) l_l_cell_at cc_l_cell_at k_l_cell_at
  have F_l_whole := fun_mk (st := s_l_whole) l_l_whole cc_l_whole k_l_whole
  have F_l_mix := fun_mk (st := s_l_mix) l_l_mix cc_l_mix k_l_mix
  have F_l_base := fun_mk (st := s_l_base) l_l_base cc_l_base k_l_base
  have F_l_held := fun_mk (st := s_l_held) l_l_held cc_l_held k_l_held
  have F_l_moves := fun_mk (st := s_l_moves) l_l_moves cc_l_moves k_l_moves
  have F_l_rates := fun_mk (st := s_l_rates) l_l_rates cc_l_rates k_l_rates
  have F_l_balance := fun_mk (st := s_l_balance) l_l_balance cc_l_balance k_l_balance
  have F_l_grown := fun_mk (st := s_l_grown) l_l_grown cc_l_grown k_l_grown
  have F_law := fun_mk (st := s_law) l_law cc_law k_law
  let T : Txt K mg := {
    f_in_order := f_in_order,
    fd_in_order := _,
    F_in_order := F_in_order,
    b_in_order := F_in_order.binds (ps := ["terms"]) fun _ _ _ _ _ _ us hl => match us, hl with | [_], _ => rfl,
    g_in_order := PySem.W.mg_of X G a_in_order,
    f_spans := f_spans,
    fd_spans := _,
    F_spans := F_spans,
    b_spans := F_spans.binds (ps := ["terms", "first", "last"]) fun _ _ _ _ _ _ us hl => match us, hl with | [_, _, _], _ => rfl,
    g_spans := PySem.W.mg_of X G a_spans,
    f_balance := f_balance,
    fd_balance := _,
    F_balance := F_balance,
    b_balance := F_balance.binds (ps := ["moves", "day"]) fun _ _ _ _ _ _ us hl => match us, hl with | [_, _], _ => rfl,
    g_balance := PySem.W.mg_of X G a_balance,
    f_grown := f_grown,
    fd_grown := _,
    F_grown := F_grown,
    b_grown := F_grown.binds (ps := ["moves", "rates", "last"]) fun _ _ _ _ _ _ us hl => match us, hl with | [_, _, _], _ => rfl,
    g_grown := PySem.W.mg_of X G a_grown,
    f_balances := f_balances,
    fd_balances := _,
    F_balances := F_balances,
    b_balances := F_balances.binds (ps := ["moves"]) fun _ _ _ _ _ _ us hl => match us, hl with | [_], _ => rfl,
    g_balances := PySem.W.mg_of X G a_balances,
    f_l_cell_at := f_l_cell_at,
    fd_l_cell_at := _,
    F_l_cell_at := F_l_cell_at,
    b_l_cell_at := F_l_cell_at.binds (ps := ["_law_script", "_law_k"]) fun _ _ _ _ _ _ us hl => match us, hl with | [_, _], _ => rfl,
    g_l_cell_at := PySem.W.mg_of X G a_l_cell_at,
    f_l_whole := f_l_whole,
    fd_l_whole := _,
    F_l_whole := F_l_whole,
    b_l_whole := F_l_whole.binds (ps := ["_law_found"]) fun _ _ _ _ _ _ us hl => match us, hl with | [_], _ => rfl,
    g_l_whole := PySem.W.mg_of X G a_l_whole,
    f_l_mix := f_l_mix,
    fd_l_mix := _,
    F_l_mix := F_l_mix,
    b_l_mix := F_l_mix.binds (ps := ["_law_number", "_law_k"]) fun _ _ _ _ _ _ us hl => match us, hl with | [_, _], _ => rfl,
    g_l_mix := PySem.W.mg_of X G a_l_mix,
    f_l_base := f_l_base,
    fd_l_base := _,
    F_l_base := F_l_base,
    b_l_base := F_l_base.binds (ps := ["_law_cell"]) fun _ _ _ _ _ _ us hl => match us, hl with | [_], _ => rfl,
    g_l_base := PySem.W.mg_of X G a_l_base,
    f_l_held := f_l_held,
    fd_l_held := _,
    F_l_held := F_l_held,
    b_l_held := F_l_held.binds (ps := ["_law_terms", "_law_day"]) fun _ _ _ _ _ _ us hl => match us, hl with | [_, _], _ => rfl,
    g_l_held := PySem.W.mg_of X G a_l_held,
    f_l_moves := f_l_moves,
    fd_l_moves := _,
    F_l_moves := F_l_moves,
    b_l_moves := F_l_moves.binds (ps := ["_law_script", "_law_base_here"]) fun _ _ _ _ _ _ us hl => match us, hl with | [_, _], _ => rfl,
    g_l_moves := PySem.W.mg_of X G a_l_moves,
    f_l_rates := f_l_rates,
    fd_l_rates := _,
    F_l_rates := F_l_rates,
    b_l_rates := F_l_rates.binds (ps := ["_law_script", "_law_base_here"]) fun _ _ _ _ _ _ us hl => match us, hl with | [_, _], _ => rfl,
    g_l_rates := PySem.W.mg_of X G a_l_rates,
    f_l_balance := f_l_balance,
    fd_l_balance := _,
    F_l_balance := F_l_balance,
    b_l_balance := F_l_balance.binds (ps := ["_law_moves_here", "_law_day"]) fun _ _ _ _ _ _ us hl => match us, hl with | [_, _], _ => rfl,
    g_l_balance := PySem.W.mg_of X G a_l_balance,
    f_l_grown := f_l_grown,
    fd_l_grown := _,
    F_l_grown := F_l_grown,
    b_l_grown := F_l_grown.binds (ps := ["_law_moves_here", "_law_rates_here", "_law_base_here", "_law_last"]) fun _ _ _ _ _ _ us hl => match us, hl with | [_, _, _, _], _ => rfl,
    g_l_grown := PySem.W.mg_of X G a_l_grown,
    f_law := f_law,
    fd_law := _,
    F_law := F_law,
    b_law := F_law.binds (ps := ["_law_script"]) fun _ _ _ _ _ _ us hl => match us, hl with | [_], _ => rfl,
    g_law := PySem.W.mg_of X G a_law,
    tk_WHOLE := _,
    g_WHOLE := PySem.W.mg_of X G a_WHOLE,
    n_sorted := PySem.W.mg_none_of X G z_sorted,
    n_reversed := PySem.W.mg_none_of X G z_reversed,
    n_max := PySem.W.mg_none_of X G z_max,
    n_sum := PySem.W.mg_none_of X G z_sum,
    n_len := PySem.W.mg_none_of X G z_len,
    n_isinstance := PySem.W.mg_none_of X G z_isinstance,
    n_int := PySem.W.mg_none_of X G z_int,
    n_bool := PySem.W.mg_none_of X G z_bool,
    n_range := PySem.W.mg_none_of X G z_range,
    n_min := PySem.W.mg_none_of X G z_min,
    n_list := PySem.W.mg_none_of X G z_list
  }
  exact ⟨PySem.W.fnOf "law" "law" (defArgs s_law) (defBody s_law) (defScope s_law) .none kV_law dc_law pm_law an_law cd_law ct_law, fun s v => .of_eq rfl, fun base _ _ => ok_law T⟩
theorem walk {l : PySem.W.OpenLaw} {q : Program} {loose : List Str} {XP : (Str → Option Value) → Heap → Prop} {YP : World → Heap → Prop} {d : DefRec} {K : Params → PySem.W.Frag} (hn : l.most = some 63) (hdf : d.params.defaults = [])
    (hY : ∀ (w : World) (h : Heap), YP w h → (K w.params).In h)
    (F : ∀ (w : World) (mg : Str → Option Value) (fa : Addr) (h : Heap), (K w.params).In h → h.Ns mainGlobals mg → mg d.name = some (.ref fa) →
      ∃ fd : FuncData, (∀ (s : Shared) (u : Value), BindsTo s fd ⟨[u], []⟩ [("_law_script", u)]) ∧ ∀ base : Heap, (K w.params).In base → base.Ns mainGlobals mg → FnOk l.prog w (K w.params) mg base (L2.CX l.prog w) 4 fa fd ["_law_script"] (sp_law (K w.params))) :
    PySem.W.WalkO q loose XP YP l.row.toRowW d [] (fun f vs => PySem.call f vs) :=
  L2.walk_of (n := 63) (k := 4) (x := "_law_script") (CX := fun w => L2.CX l.prog w) (sp := fun w => sp_law (K w.params)) hn (by decide) hdf ⟨rfl, by decide, by decide⟩ hY F (fun _ _ a ns hl _ hS => ⟨a, ns, rfl, hS, hl, fun _ => rfl⟩)
    fun _ _ _ _ _ ⟨_, _, _, _, _, _, _, _, _, _, _, _, z⟩ => z
end NS
open PySem PySem.W PyProof.Rows in
set_option maxRecDepth 100000 in
set_option maxHeartbeats 0 in
theorem PySem.Challenge.cw_rentroll_k08_balance_and_growth_holds : PySem.Challenge.rw_rentroll_k08_balance_and_growth.Holds := by
  w_on; o_law; k_head; (case hw => w_witness2)
  k_fill
  refine NS.walk (l := PySem.Challenge.rw_rentroll_k08_balance_and_growth) rfl rfl (fun w h Y => PySem.W.kIn_of Y) ?F
  case F =>
    intro w mg fa h KX G hmg
    refine' NS.all_mk KX G hmg ?a_in_order ?l_in_order ?cc_in_order ?k_in_order ?a_spans ?l_spans ?cc_spans ?k_spans ?a_balance ?l_balance ?cc_balance ?k_balance ?a_grown ?l_grown ?cc_grown ?k_grown ?a_balances ?l_balances ?cc_balances ?k_balances ?a_l_cell_at ?l_l_cell_at ?cc_l_cell_at ?k_l_cell_at ?a_l_whole ?l_l_whole ?cc_l_whole ?k_l_whole ?a_l_mix ?l_l_mix ?cc_l_mix ?k_l_mix ?a_l_base ?l_l_base ?cc_l_base ?k_l_base ?a_l_held ?l_l_held ?cc_l_held ?k_l_held ?a_l_moves ?l_l_moves ?cc_l_moves ?k_l_moves ?a_l_rates ?l_l_rates ?cc_l_rates ?k_l_rates ?a_l_balance ?l_l_balance ?cc_l_balance ?k_l_balance ?a_l_grown ?l_l_grown ?cc_l_grown ?k_l_grown ?a_law ?l_law ?cc_law ?k_law ?a_WHOLE ?z_sorted ?z_reversed ?z_max ?z_sum ?z_len ?z_isinstance ?z_int ?z_bool ?z_range ?z_min ?z_list
    (case a_in_order => k_is)
    (case l_in_order => k_is)
    (case cc_in_order => k_is)
    (case k_in_order => k_is)
    (case a_spans => k_is)
    (case l_spans => k_is)
    (case cc_spans => k_is)
    (case k_spans => k_is)
    (case a_balance => k_is)
    (case l_balance => k_is)
    (case cc_balance => k_is)
    (case k_balance => k_is)
    (case a_grown => k_is)
    (case l_grown => k_is)
    (case cc_grown => k_is)
    (case k_grown => k_is)
    (case a_balances => k_is)
    (case l_balances => k_is)
    (case cc_balances => k_is)
    (case k_balances => k_is)
    (case a_l_cell_at => k_is)
    (case l_l_cell_at => k_is)
    (case cc_l_cell_at => k_is)
    (case k_l_cell_at => k_is)
    (case a_l_whole => k_is)
    (case l_l_whole => k_is)
    (case cc_l_whole => k_is)
    (case k_l_whole => k_is)
    (case a_l_mix => k_is)
    (case l_l_mix => k_is)
    (case cc_l_mix => k_is)
    (case k_l_mix => k_is)
    (case a_l_base => k_is)
    (case l_l_base => k_is)
    (case cc_l_base => k_is)
    (case k_l_base => k_is)
    (case a_l_held => k_is)
    (case l_l_held => k_is)
    (case cc_l_held => k_is)
    (case k_l_held => k_is)
    (case a_l_moves => k_is)
    (case l_l_moves => k_is)
    (case cc_l_moves => k_is)
    (case k_l_moves => k_is)
    (case a_l_rates => k_is)
    (case l_l_rates => k_is)
    (case cc_l_rates => k_is)
    (case k_l_rates => k_is)
    (case a_l_balance => k_is)
    (case l_l_balance => k_is)
    (case cc_l_balance => k_is)
    (case k_l_balance => k_is)
    (case a_l_grown => k_is)
    (case l_l_grown => k_is)
    (case cc_l_grown => k_is)
    (case k_l_grown => k_is)
    (case a_law => k_is)
    (case l_law => k_is)
    (case cc_law => k_is)
    (case k_law => k_is)
    (case a_WHOLE => k_is)
    (case z_sorted => k_is)
    (case z_reversed => k_is)
    (case z_max => k_is)
    (case z_sum => k_is)
    (case z_len => k_is)
    (case z_isinstance => k_is)
    (case z_int => k_is)
    (case z_bool => k_is)
    (case z_range => k_is)
    (case z_min => k_is)
    (case z_list => k_is)
#print axioms PySem.Challenge.cw_rentroll_k08_balance_and_growth_holds
